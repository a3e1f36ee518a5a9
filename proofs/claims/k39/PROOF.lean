import PyProof.Rows.All
import Wide.All
import OpenK.AllK
import Wide.FinOn
import Lean
import PyProof.EqAt
import PyProof.EqKinds
import PyProof.TupleCall
import KE.KNestM
import PyProof.IsiH_list
import PyProof.RaisesAny
import KE.KDictOf
import PyProof.CollectWalk
import PyProof.CompFree
import KE.KDictList
import PyProof.NeKinds
import PyProof.ConsumeWalk
import PyProof.StrBlockI
import PyProof.EnumFor
import PyProof.TupleIter
import PyProof.EnumMake
import KE.KLam
import PyProof.DictUpdate
import PyProof.SeqI3
import PyProof.DictWalks
import PyProof.ConsumeS
import PyProof.Rows.CallKwBuiltin
import KE.KDictLaws
import PyProof.AutoListH
import PyProof.ZipIter
import PyProof.ListNew
import KE.KRevSl
import PyProof.StrOps
import PyProof.StrOps2
import KE.KSortKey
import PyProof.Rows.SetFrom
import PyProof.MinMaxWalk
import KE.KDictSum
import PyProof.DictItemsLoops
import KE.KPairComp
import PySem.Challenge.RW_wright_k39_places_moved
inductive Qe2 {t0 t1 : Type} (P : t0 → t1 → Prop) : Prop
  | mk (x0 : t0) (x1 : t1) (h : P x0 x1) : Qe2 P
inductive Qe3 {t0 t1 t2 : Type} (P : t0 → t1 → t2 → Prop) : Prop
  | mk (x0 : t0) (x1 : t1) (x2 : t2) (h : P x0 x1 x2) : Qe3 P
inductive Qe4 {t0 t1 t2 t3 : Type} (P : t0 → t1 → t2 → t3 → Prop) : Prop
  | mk (x0 : t0) (x1 : t1) (x2 : t2) (x3 : t3) (h : P x0 x1 x2 x3) : Qe4 P
inductive Qe5 {t0 t1 t2 t3 t4 : Type} (P : t0 → t1 → t2 → t3 → t4 → Prop) : Prop
  | mk (x0 : t0) (x1 : t1) (x2 : t2) (x3 : t3) (x4 : t4) (h : P x0 x1 x2 x3 x4) : Qe5 P
inductive Qe6 {t0 t1 t2 t3 t4 t5 : Type} (P : t0 → t1 → t2 → t3 → t4 → t5 → Prop) : Prop
  | mk (x0 : t0) (x1 : t1) (x2 : t2) (x3 : t3) (x4 : t4) (x5 : t5) (h : P x0 x1 x2 x3 x4 x5) : Qe6 P
inductive Qe7 {t0 t1 t2 t3 t4 t5 t6 : Type} (P : t0 → t1 → t2 → t3 → t4 → t5 → t6 → Prop) : Prop
  | mk (x0 : t0) (x1 : t1) (x2 : t2) (x3 : t3) (x4 : t4) (x5 : t5) (x6 : t6) (h : P x0 x1 x2 x3 x4 x5 x6) : Qe7 P
inductive Qe8 {t0 t1 t2 t3 t4 t5 t6 t7 : Type} (P : t0 → t1 → t2 → t3 → t4 → t5 → t6 → t7 → Prop) : Prop
  | mk (x0 : t0) (x1 : t1) (x2 : t2) (x3 : t3) (x4 : t4) (x5 : t5) (x6 : t6) (x7 : t7) (h : P x0 x1 x2 x3 x4 x5 x6 x7) : Qe8 P
inductive Qe9 {t0 t1 t2 t3 t4 t5 t6 t7 t8 : Type} (P : t0 → t1 → t2 → t3 → t4 → t5 → t6 → t7 → t8 → Prop) : Prop
  | mk (x0 : t0) (x1 : t1) (x2 : t2) (x3 : t3) (x4 : t4) (x5 : t5) (x6 : t6) (x7 : t7) (x8 : t8) (h : P x0 x1 x2 x3 x4 x5 x6 x7 x8) : Qe9 P
inductive Qa3 (p0 p1 p2 : Prop) : Prop
  | mk (h0 : p0) (h1 : p1) (h2 : p2) : Qa3 p0 p1 p2
inductive Qa4 (p0 p1 p2 p3 : Prop) : Prop
  | mk (h0 : p0) (h1 : p1) (h2 : p2) (h3 : p3) : Qa4 p0 p1 p2 p3
inductive Qa5 (p0 p1 p2 p3 p4 : Prop) : Prop
  | mk (h0 : p0) (h1 : p1) (h2 : p2) (h3 : p3) (h4 : p4) : Qa5 p0 p1 p2 p3 p4
inductive Qa6 (p0 p1 p2 p3 p4 p5 : Prop) : Prop
  | mk (h0 : p0) (h1 : p1) (h2 : p2) (h3 : p3) (h4 : p4) (h5 : p5) : Qa6 p0 p1 p2 p3 p4 p5
inductive Qa7 (p0 p1 p2 p3 p4 p5 p6 : Prop) : Prop
  | mk (h0 : p0) (h1 : p1) (h2 : p2) (h3 : p3) (h4 : p4) (h5 : p5) (h6 : p6) : Qa7 p0 p1 p2 p3 p4 p5 p6
inductive Qa8 (p0 p1 p2 p3 p4 p5 p6 p7 : Prop) : Prop
  | mk (h0 : p0) (h1 : p1) (h2 : p2) (h3 : p3) (h4 : p4) (h5 : p5) (h6 : p6) (h7 : p7) : Qa8 p0 p1 p2 p3 p4 p5 p6 p7
inductive Qa9 (p0 p1 p2 p3 p4 p5 p6 p7 p8 : Prop) : Prop
  | mk (h0 : p0) (h1 : p1) (h2 : p2) (h3 : p3) (h4 : p4) (h5 : p5) (h6 : p6) (h7 : p7) (h8 : p8) : Qa9 p0 p1 p2 p3 p4 p5 p6 p7 p8
inductive Qa10 (p0 p1 p2 p3 p4 p5 p6 p7 p8 p9 : Prop) : Prop
  | mk (h0 : p0) (h1 : p1) (h2 : p2) (h3 : p3) (h4 : p4) (h5 : p5) (h6 : p6) (h7 : p7) (h8 : p8) (h9 : p9) : Qa10 p0 p1 p2 p3 p4 p5 p6 p7 p8 p9
inductive Qa11 (p0 p1 p2 p3 p4 p5 p6 p7 p8 p9 p10 : Prop) : Prop
  | mk (h0 : p0) (h1 : p1) (h2 : p2) (h3 : p3) (h4 : p4) (h5 : p5) (h6 : p6) (h7 : p7) (h8 : p8) (h9 : p9) (h10 : p10) : Qa11 p0 p1 p2 p3 p4 p5 p6 p7 p8 p9 p10
inductive Qa12 (p0 p1 p2 p3 p4 p5 p6 p7 p8 p9 p10 p11 : Prop) : Prop
  | mk (h0 : p0) (h1 : p1) (h2 : p2) (h3 : p3) (h4 : p4) (h5 : p5) (h6 : p6) (h7 : p7) (h8 : p8) (h9 : p9) (h10 : p10) (h11 : p11) : Qa12 p0 p1 p2 p3 p4 p5 p6 p7 p8 p9 p10 p11
open Lean in
def nyB (x : Syntax) : Array (Syntax × Option Syntax) := Id.run do
  let mut r := #[]
  let y := x[0]
  if y.isOfKind ``Lean.unbracketedExplicitBinders then
    let t := if y[1].getNumArgs = 0 then none else some y[1][1]
    for i in y[0].getArgs do r := r.push (i[0], t)
  else
    for z in y.getArgs do
      for i in z[1].getArgs do r := r.push (i[0], some z[3])
  return r
open Lean in
def nyA (n : Nat) (x : Syntax) : Array Syntax := match n with
  | 0 => #[x]
  | n + 1 => if x.isOfKind `«term_∧_» then #[x[0]] ++ nyA n x[2] else #[x]
open Lean in
local macro_rules
  | `(∃ $xs:explicitBinders, $b:term) => do
    let bs := nyB xs
    let cs := nyA 11 b
    if bs.size < 2 ∧ cs.size < 3 then Macro.throwUnsupported
    let mut r : TSyntax `term := b
    if cs.size > 2 then
      r := ⟨Syntax.mkApp (mkCIdent (.mkSimple s!"Qa{cs.size}")) (cs.map fun c => ⟨c⟩)⟩
    let k := (bs.size - 1) / 8 + 1
    for j in [0:k] do
      let g := bs.extract (8 * (k - 1 - j)) (8 * (k - j))
      for i in [0:g.size] do
        let (x, t) := g[g.size - 1 - i]!
        let nm : Ident := if x.isIdent then ⟨x⟩ else mkIdent `_x
        match t with
        | some t =>
          let ty : TSyntax `term := ⟨t⟩
          r ← `(fun ($nm : $ty) => $r)
        | none => r ← `(fun $nm:ident => $r)
      r := ⟨Syntax.mkApp (mkCIdent (if g.size = 1 then `Exists else .mkSimple s!"Qe{g.size}")) #[r]⟩
    return r
set_option Elab.async false
set_option linter.all false
set_option maxRecDepth 100000
set_option hygiene false
local macro_rules
|`(87)=>`((·.1))
|`(88)=>`(List ax)
|`(90)=>`((bj rfl))
|`(91)=>`((pv 0))
|`(92)=>`(by simp)
|`(93)=>`(List (aQ×V))
|`(138)=>`((.lst []))
|`(140)=>`(Sum.inr z)
|`(141)=>`(Inv X ai σ H s)
|`(142)=>`((λ_ _=>rfl))
|`(144)=>`((by simp))
|`(145)=>`(rs.map V.ref)
|`(150)=>`((Sum.inr z))
|`(151)=>`((model X.prog X.w))
|`(153)=>`((rs.map V.ref))
|`(154)=>`(zs.map V.str)
|`(155)=>`(.int (i:Int))
|`(157)=>`(⟨_,rfl⟩)
|`(158)=>`((model prog w))
|`(162)=>`((aS rfl rfl))
|`(163)=>`(iG rfl rfl rfl rfl nofun)
|`(182)=>`(Shared->Prop)
|`(184)=>`((λvs H Q E h=>?_))
|`(185)=>`(s.heap.get? b=some o)
|`(186)=>`((λd6 A outer s H vs Q E hr h=>?_))
|`(188)=>`(some (.dK kvs))
|`(203)=>`((zs.map V.str))
|`(204)=>`((aa.map (·.1)))
|`(219)=>`(br (by rw [ar];omega))
|`(220)=>`((λ_ _ _ _ _=>bA))
|`(222)=>`((.lst (ts.map V.ref)))
|`(227)=>`((upd H D (.lst [])))
|`(238)=>`(.ref s.heap.objs.size)
|`(239)=>`(λy H4=>H4 D=some (.lst ys)/\ys.length < sizeLine/\W (i+1) m' (ys++[y]) σ2 (upd H4 D (.lst (ys++[y]))))
|`(241)=>`(Nat->Nat->List V->St->Hp->Prop)
|`(246)=>`(b_ (λc=>?_) (λc=>?_))
|`(257)=>`(W (i+1) m' ys σ2 H3)
|`(328)=>`((λz=>decide (z∈aL.map (·.1))))
|`(329)=>`((∀ru∈aa,ru.2.length<=8))
|`(330)=>`(aj (λz=>by rw [z,hD] at hb;cases hb))
|`(331)=>`((.dT (kf++[(ka z,V.bl true)])))
|`(370)=>`(aD H H2/\H2 D=some (.lst ys))
|`(371)=>`(λ_ _ _ _ _ _=>by exact Ae λ_=>rfl)
|`(372)=>`((λ_ _ _ _ _ _=>by exact Ae λ_=>rfl))
|`(498)=>`((tS X scope cl G2.objs.size s2 H2 (ts++js.map (·.2)) fp))
|`(501)=>`(starEach (e::es) X.env=(false,eval e X.env)::starEach es X.env)
|`(502)=>`((@ab _ _ _ _ _ (@cq _ _ _ _) (@ab _ _ _ _ _ (@cq _ _ _ _) (@ab _ _ _ _ _ (@cq _ _ _ _) (@ak _) rfl) rfl) rfl))
|`(503)=>`(λh' eb=>⟨rfl,I.turned (t':=s.toks) (λb o hb e=>eb b o hb e) f0 f1 f3 f4 f5⟩)
|`(504)=>`((λ_ _ _ _ _=>di (n:=2) K rfl (az (aq (i:=0) (show (["_law_head","_law_parts_here"]:z0t).Nodup by decide +kernel) rfl (bj rfl)) (az (aq (i:=1) (show (["_law_head","_law_parts_here"]:z0t).Nodup by decide +kernel) rfl (bj rfl)) bE))))
|`(505)=>`(λσ2 H2=>tif σ2 H2 λb H3=>if b=true then te σ2 H3 λy H4=>H4 D=some (.lst ys)/\ys.length < sizeLine/\Pv (i+1) (ys++[y]) σ2 (upd H4 D (.lst (ys++[y]))) else Pv (i+1) ys σ2 H3)
local macro_rules | `(tactic| omega) => `(tactic| first | lia | omega (config := {}))
local macro_rules | `(∅) => `(by omega)
local macro_rules | `(nofun) => `(by first | decide +kernel | kernel_rfl)
abbrev z0a:=Array (Option PySem.Value)
abbrev z0b:=PySem.Value->PySem.Shared->Prop
abbrev z0c:=PySem.Str->Option PySem.Value
abbrev z0d:=List (PySem.Str×PySem.Value)
abbrev z0e:=List (PySem.Addr×PySem.Obj)
abbrev z0f:=List (PySem.Str×PySem.Addr)
abbrev z0g:=List (Nat×Nat)
abbrev z0h:=List (PySem.Str×Nat)
abbrev z0i:=List (PySem.Str×PySem.Str)
abbrev z0j:=List (Nat×PySem.Str)
abbrev z0k:=Option PySem.Value
abbrev z0l:=Array PySem.Value
abbrev z0m:=Option PySem.Addr
abbrev z0n:=List PySem.Value
abbrev z0o:=PySem.Heap->Prop
abbrev z0p:=Option Int
abbrev z0q:=List PySem.Addr
abbrev z0r:=List PySem.Expr
abbrev z0s:=Array Nat
abbrev z0t:=List PySem.Str
abbrev z0u:=List Int
def bj:=@Or.inl
abbrev bp:=PySem.W.Frag
def uq:0<=PySem.sizeLine:=by decide
def Fl:1<=PySem.sizeLine:=by decide
def qo:2<=PySem.sizeLine:=by decide
def Jy:3<=PySem.sizeLine:=by decide
def Wi:4<=PySem.sizeLine:=by decide
def Wh:5<=PySem.sizeLine:=by decide
def ar.{u,v}:=@List.length_map.{u,v}
def bu.{u}:=@List.getElem?_eq_some_iff.{u}
def a8.{u}:=@List.length_append.{u}
def aX.{u,v}:=@List.getElem?_map.{u,v}
def aB:=@PySem.wpAny_bind
def bT.{u,v}:=@Option.map_eq_some_iff.{u,v}
def cg:=@PySem.Heap.get?_push_of_some
def ba.{u,v}:=@List.map_append.{u,v}
def cZ.{u}:=@List.getElem?_eq_getElem.{u}
def cE.{u}:=@List.mem_of_getElem?.{u}
def bB.{u}:=@List.mem_singleton.{u}
def aG:=@Nat.le_refl
def aH:=@PySem.wpAny_pure
def a7:=@PySem.Paired.length
def cT.{u}:=@List.mem_cons_of_mem.{u}
def bP.{u}:=@List.mem_append.{u}
def b0.{u}:=@List.take_length.{u}
def au.{u}:=@if_neg.{u}
def bW:=@PySem.PassesOwn.never
def cS.{u}:=@List.mem_cons_self.{u}
def cK.{u}:=@List.take_add_one.{u}
def cJ.{u}:=@List.size_toArray.{u}
def aw.{u}:=@if_pos.{u}
def cR:=@of_decide_eq_true
def cX:=@Bool.false_ne_true
def dJ.{u}:=@List.mem_append_right.{u}
def bD:=@PySem.Heap.lt_size
def dB:=@PySem.Heap.get?_push_size
def cv:=@decide_eq_true
def b8.{u}:=@List.mem_cons.{u}
def bV:=@Nat.ne_of_lt
def bU.{u,v}:=@List.mem_map.{u,v}
def du.{u}:=@List.length_take.{u}
def fg.{u}:=@List.mem_append_left.{u}
def gA:=@PySem.F.plainAttrs_list
def cI.{u,v}:=@List.map_cons.{u,v}
def fU.{u}:=@List.length_singleton.{u}
def dI.{u}:=@List.length_cons.{u}
def dN.{u}:=@List.append_nil.{u}
def eG.{u}:=@List.all_eq_true.{u}
def iE:=@PySem.F.type_list_append
def iD:=@PySem.F.slot_list_append
def dU:=@decide_eq_false
def gR.{u}:=@List.getElem?_of_mem.{u}
def gy:=@Nat.lt_of_lt_of_le
def d_:=@PySem.boot_len
def iC.{u}:=@List.length_filter_le.{u}
def hV:=@PySem.W.mg_none_of
def iB.{u,v}:=@List.mem_map_of_mem.{u,v}
def gw.{u}:=@List.mem_filter.{u}
def gJ.{u}:=@Option.some.inj.{u}
def ff.{u,v,w}:=@List.map_map.{u,v,w}
def iA.{u}:=@List.append_assoc.{u}
def gI.{u}:=@List.nodup_nil.{u}
def fJ:=@Nat.le_trans
def lU.{u}:=@List.getElem?_append_right.{u}
def hU.{u}:=@List.nodup_cons.{u}
def jo:=@Bool.and_eq_true_iff
def iN.{u}:=@List.nodup_append.{u}
def fc:=@PySem.Paired.snoc
def dS:=@PySem.wpAny_mono
def kj.{u}:=@List.getElem?_eq_none.{u}
def nj.{u}:=@List.getElem?_append_left.{u}
def ni.{u}:=@Option.isSome_iff_exists.{u}
def gr:=@Nat.zero_le
def jn:=@Int.toNat_natCast
def ki.{u}:=@beq_eq_false_iff_ne.{u}
def rg.{u}:=@List.take_append_of_le_length.{u}
def jm.{u,v}:=@List.mem_flatMap.{u,v}
def j7:=@PySem.wpAny_newObj_type
def jl:=@Bool.eq_iff_iff
def uV:=@PyProof.Rows.slot_tuple_getitem
def pV:=@PySem.wpAny_callSpecial?_slot
def ke:=@PySem.wpAny_call_entry
def j6:=@List.mem_range
def kc.{u}:=@List.length_nil.{u}
def lS:=@Nat.lt_succ_self
def pU.{u}:=@List.filter_append.{u}
def j5:=@PySem.wpAny_holding
def nh:=@Bool.and_eq_true
def rf.{u}:=@List.mem_iff_getElem.{u}
def d8.{u}:=@Ne.symm.{u}
def pT.{u,v}:=@List.flatMap_cons.{u,v}
def q_.{u}:=@Array.length_toList.{u}
def yr:=@PySem.F.slot_dict_keyiterator_next
def yq.{u}:=@List.getD_eq_getElem?_getD.{u}
def jk:=@PySem.wpAny_field
def gQ.{u,v}:=@Prod.ext.{u,v}
def lR:=@Nat.lt_irrefl
def lQ.{u}:=@List.sum_cons.{u}
def uU:=@PySem.Heap.get?_update_other
def j4:=@Int.le_refl
def uT.{u}:=@List.mem_of_mem_take.{u}
def q0:=@PySem.wpAny_Call_Name_kw
def yp:=@PySem.F.slot_list_extend
def qZ.{u,v}:=@Option.isSome_map.{u,v}
def qY:=@List.length_range
def yo.{u}:=@List.getElem?_take_of_lt.{u}
def lP:=@Nat.ne_of_gt
def lN:=@Nat.le_of_lt
def jc:=@Int.zero_add
def mD:=@PySem.wpAny_truthy_bool
def mC.{u}:=@List.length_drop.{u}
def rO.{u}:=@List.take_of_length_le.{u}
def jb:=@PySem.wpAny_typeOf
def oU.{u,v}:=@List.map_singleton.{u,v}
def wL:=@PySem.wpAny_typeNameOfWhole_keyiter
def wK:=@PyProof.Rows.callWith_type1
def mz:=@Nat.not_lt_zero
def mx.{u}:=@List.nil_append.{u}
def rN.{u}:=@Array.getElem?_toList.{u}
def rM:=@PySem.Calls.callWith_builtin
def oT:=@PySem.tupleKind_room_in1
def oS:=@PySem.Calls.spliced_cons
def mw:=@PySem.wpAny_passesOwn
def rL:=@PySem.Heap.get?_update_self
def oR.{u,v}:=@List.getElem_map.{u,v}
def oQ.{u}:=@List.filter_cons.{u}
def oP:=@PySem.wpAny_pyIter_list
def kx:=@PySem.plainId_quiet
def rK:=@PySem.mem_of_lookup
def rJ.{u}:=@List.take_succ_cons.{u}
def rH.{u,v}:=@List.map_congr_left.{u,v}
def rG.{u,v}:=@List.flatMap_append.{u,v}
def ku:=@Nat.lt_trans
def wJ:=@PySem.F.slot_tuple_iterator_next
def rF:=@PySem.Around.under_plainId
def rE:=@Nat.lt_of_le_of_lt
def mr.{u,v}:=@List.map_take.{u,v}
def oO.{u}:=@List.find?_cons.{u}
def mq:=@Bool.true_and
def wI:=@PySem.wpAny_typeNameOf_keyiter
def wH:=@PySem.F.slot_list_getattribute
def kr.{u,v}:=@Sum.inr.inj.{u,v}
def rD:=@Nat.lt_succ_of_lt
def rC:=@Bool.eq_false_iff
def rB:=@PySem.wpAny_setField_rec
def wG:=@PySem.wpAny_loadPart'
def wF:=@PyProof.Rows.boot_sum
def mn.{u,v}:=@List.map_nil.{u,v}
def rA.{u}:=@beq_self_eq_true.{u}
def oN:=@PySem.W.mg_of
def oM.{u,v}:=@Prod.mk.injEq.{u,v}
def oK.{u}:=@List.any_cons.{u}
def oJ:=@PySem.Heap.size_push
def wD:=@PySem.wpAny_pyNext_list_end
def wC:=@PySem.wpAny_notOrdered_dict
def rq.{u,v}:=@Option.map_some.{u,v}
def wB:=@PySem.F.slot_enumerate_next
def wA.{u}:=@Array.toList_append.{u}
def AB.{u}:=@Array.getElem?_eq_some_iff.{u}
def rp:=@PySem.Around.in1_units
def wz:=@PySem.wpAny_loadName_local
def wy:=@PySem.codeAny_call_builtin
def oH:=@Nat.zero_add
def oG:=@Nat.sub_self
def wu.{u}:=@List.pairwise_cons.{u}
def wt:=@Int.emod_lt_of_pos
def wq:=@PySem.F.slot_NoneType_hash
def wo:=@PySem.Calls.evalArgs_plain
def wm:=@Bool.false_eq_true
def oF:=@PySem.wpAny_attempt
def ro.{u}:=@List.drop_zero.{u}
def rm:=@Bool.false_and
def AA.{u}:=@Array.getElem?_eq_getElem.{u}
def kq:=@PySem.wpAny_rule
def kn:=@PySem.wpAny_call
def ml:=@PySem.sizeLine_eq
def rj:=@PySem.codeAny_builtin
def Az:=@PySem.F.type_list_extend
def Ay:=@PySem.F.slot_dict_update
def Ax:=@PySem.F.args_tuple_add_2
def wk.{u}:=@List.reverse_cons.{u}
def Aw.{u}:=@List.length_erase_of_mem.{u}
def wj.{u,v}:=@List.foldl_append.{u,v}
def wg:=@PySem.Heap.SameBut.update
def Av:=@PySem.F.plainAttrs_dict
def Au:=@PySem.F.entry_tuple_add
def As:=@PyProof.Rows.boot_tuple
def oE:=@Nat.le_succ
def wc:=@PySem.wpAny_pyIter_tuple
def wb:=@PySem.SeqAt.EqAt.int_int
def wa:=@PySem.Obj.data_mapFields
def v_.{u}:=@List.getElem_mem.{u}
def v9.{u}:=@List.getElem_inj.{u}
def rh:=@PySem.wpAny_seqItems
def Ar:=@PySem.F.slot_tuple_add
def Aq.{u}:=@List.length_pos_of_mem.{u}
def Ap.{u}:=@List.drop_eq_nil_of_le.{u}
def Ao.{u}:=@Array.getElem?_eq_none.{u}
namespace L2
open PySem PySem.Spec PyProof.Rows
abbrev aQ:=Sum Int Str
def l_:aQ->Value->Bool
 | .inl k,v=>Value.isInt k v
 | .inr x,v=>Value.isStrOf x v
def Sl (w:World):aQ->Int
 | .inl k=>hashInt k
 | .inr x=>hashStr w x
def cV:∀{k:aQ}{v:Value},l_ k v=true->(∃i t,k=Sum.inl i/\v=Value.int i t)\/(∃x t,k=Sum.inr x/\v=Value.str x t)
 | .inl i,v,h=>by
  obtain⟨t,e⟩:=Value.isInt_shape (k:=i) (v:=v) h;exact .inl ⟨i,t,rfl,e⟩
 | .inr x,v,h=>by
  obtain⟨t,e⟩:=Value.isStrOf_shape (x:=x) (v:=v) h;exact .inr ⟨x,t,rfl,e⟩
def Ez (i:Int)(t:Tok):l_ (.inl i) (.int i t)=true:=by simp [l_,Value.isInt]
def Ey (x:Str)(t:Tok):l_ (.inr x) (.str x t)=true:=by simp [l_,Value.isStrOf]
def OD (a b:Int):decide ((Sum.inl a:aQ)=Sum.inl b)=(a == b):=by
 by_cases e:a=b
 .subst e;simp
 have h:¬(Sum.inl a:aQ)=Sum.inl b:=λq=>e (Sum.inl.inj q);rw [dU h];exact(ki.mpr e).symm
def OA (a b:Str):decide ((Sum.inr a:aQ)=Sum.inr b)=decide (a=b):=by
 by_cases e:a=b
 .subst e;simp
 have h:¬(Sum.inr a:aQ)=Sum.inr b:=λq=>e (kr q);rw [dU h,dU e]
def OC (a:Int)(b:Str):decide ((Sum.inl a:aQ)=Sum.inr b)=false:=dU (λq=>nomatch q)
def OB (a:Str) (b:Int):decide ((Sum.inr a:aQ)=Sum.inl b)=false:=dU (λq=>nomatch q)
def aY (prog:Program)(w:World):PySem.KeyKind prog w aQ where
 is:=l_
 hash:=Sl w
 inj:=λv a b ha hb=>by
  rcases cV ha with ⟨i,t,rfl,rfl⟩ | ⟨x,t,rfl,rfl⟩
  .rcases cV hb with ⟨j,u,rfl,e⟩ | ⟨y,u,rfl,e⟩
   .injection e with e1 _;rw [e1]
   exact nomatch e
  rcases cV hb with ⟨j,u,rfl,e⟩ | ⟨y,u,rfl,e⟩
  .exact nomatch e
  injection e with e1 _;rw [e1]
 byValue:=λk v h=>by
  rcases cV h with ⟨i,t,rfl,rfl⟩ | ⟨x,t,rfl,rfl⟩ <;> rfl
 pyHash:=λhv h=>by
  rcases cV hv with ⟨i,t,rfl,rfl⟩ | ⟨x,t,rfl,rfl⟩
  .exact wpAny_pyHash_int h
  exact wpAny_pyHash_str h
 eqBool:=λhu hv h=>by
  rcases cV hu with ⟨i,t,rfl,rfl⟩ | ⟨x,t,rfl,rfl⟩
  .rcases cV hv with ⟨j,u,rfl,rfl⟩ | ⟨y,u,rfl,rfl⟩
   .rw [OD] at h;exact wpAny_eqBool_int h
   rw [OC] at h;exact SeqAt.EqAt.int_str i t y u _ _ _ _ h
  rcases cV hv with ⟨j,u,rfl,rfl⟩ | ⟨y,u,rfl,rfl⟩
  .rw [OB] at h;exact SeqAt.EqAt.str_int x t j u _ _ _ _ h
  rw [OA] at h;exact wpAny_eqBool_str h
 «strs»:=λk x t v h=>by
  rcases cV h with ⟨i,u,rfl,e⟩ | ⟨y,u,rfl,e⟩
  .exact nomatch e
  injection e with e1 _;subst e1;cases v <;> rfl
def ze (prog:Program)(w:World) (i:Int)(t:Tok):(aY prog w).is (.inl i) (.int i t)=true:=Ez i t
def zc (prog:Program)(w:World)(x:Str)(t:Tok):(aY prog w).is (.inr x) (.str x t)=true:=Ey x t
inductive V where
 | fu | bl (b:Bool) | int (i:Int) | str (x:Str) | E4 (b:Array UInt8) | Tz (b:UInt64) | ref (a:Addr) | ty (n:String)
 deriving DecidableEq
def RelV:V->Value->Prop
 | .fu,u=>u=Value.none
 | .bl b,u=>u=Value.bool b
 | .int i,u=>∃t,u=Value.int i t
 | .str x,u=>∃t,u=Value.str x t
 | .E4 b,u=>∃t,u=Value.bytes b t
 | .Tz b,u=>∃t,u=Value.float b t
 | .ref a,u=>u=Value.ref a
 | .ty n,u=>u=Value.type n
abbrev bH:List V->z0n->Prop:=Paired RelV
theorem bH.length {xs:List V}{us:z0n}(r:bH xs us):xs.length=us.length:=a7 r
theorem bH.get:∀{xs:List V}{us:z0n}{i:Nat}{x:V},bH xs us->xs[i]?=some x->∃u,us[i]?=some u/\RelV x u
 | _,_,_,_,.nil,e=>by simp at e
 | _,_,0,_,.cons r _,e=>by simp at e;subst e;exact⟨_,rfl,r⟩
 | _,_,i+1,x,.cons _ t,e=>by
  obtain⟨u,h1,h2⟩:=bH.get (i:=i) (x:=x) t (by simpa using e);exact⟨u,by simpa using h1,h2⟩
theorem bH.append:∀{xs ys:List V}{us ws:z0n},bH xs us->bH ys ws->bH (xs++ys) (us++ws)
 | _,_,_,_,.nil,s=>s
 | _,_,_,_,.cons r t,s=>.cons r (bH.append t s)
theorem bH.take:∀{xs:List V}{us:z0n}(n:Nat),bH xs us->bH (xs.take n) (us.take n)
 | _,_,0,_=>.nil
 | _,_,_+1,.nil=>.nil
 | _,_,n+1,.cons r t=>.cons r (bH.take n t)
theorem bH.drop:∀{xs:List V}{us:z0n}(n:Nat),bH xs us->bH (xs.drop n) (us.drop n)
 | _,_,0,r=>r
 | _,_,_+1,.nil=>.nil
 | _,_,n+1,.cons _ t=>bH.drop n t
def jY:Option V->z0k->Prop
 | some v,some u=>RelV v u
 | none,none=>True
 | _,_=>False
def KV {κ:Type}:List (κ×V)->List (κ×Value)->Prop:=Paired λ(p:κ×V)(q:κ×Value)=>p.1=q.1/\RelV p.2 q.2
def kV:aQ->V
 | .inl i=>.int i
 | .inr x=>.str x
inductive HO where
 | lst (xs:List V)
 | tup (xs:List V)
 | dK (kvs:93) | dT (kvs:List (List aQ×V))
 | set (S:Int->Bool) (n:Nat)
 | ins (C dx:Addr)(fs:List (Str×V))
 | own (x:Addr)
 | xd (fs:List (Str×V))
 | met (f x:Addr)
 | Fs (lo hi:Int)
 | mf (o:Obj)(u:HO)
 | uu (ps:z0l)
 | ext (φ:z0o)
abbrev Hp:=Addr->Option HO
def upd (H:Hp)(a:Addr)(o:HO):Hp:=λb=>if b=a then some o else H b
def ae {H:Hp}{a:Addr}{o:HO}:upd H a o a=some o:=by unfold upd;rw [aw rfl]
def aj {H:Hp}{a b:Addr}{o:HO}(h:b≠a):upd H a o b=H b:=by unfold upd;rw [au h]
def nr {H:Hp}{a:Addr}{o u:HO}:upd (upd H a o) a u=upd H a u:=by
 funext b;unfold upd;split <;> rfl
def RU {H:Hp}{a b:Addr}{o u:HO}(h:H a=some o)(h':H b=some u)(d:o≠u):a≠b:=by
 intro e;subst e;rw [h] at h';exact d (gJ h')
def aC {H:Hp}{a b:Addr}{o:HO}(h:H a=some o)(h':H b=none):a≠b:=by
 intro e;subst e;rw [h] at h';cases h'
section
variable (P:Program)(w:World)
def cQ (H:Hp)(h:Heap)(a:Addr):HO->Prop
 | .lst xs=>xs.length<=sizeLine/\∃(aV:z0n) (n:Nat),bH xs aV/\h.get? a=some { cls:=.type "list",data:=.seq aV.toArray n }
 | .tup xs=>xs.length<=sizeLine/\∃aV:z0n,bH xs aV/\IsTup h a aV.toArray
 | .dK kvs=>kvs.length<=sizeLine/\(a == sysModules)=false/\∃vs,KV kvs vs/\h.DictOf (aY P w) a vs
 | .dT kvs=>kvs.length<=sizeLine/\(a == sysModules)=false/\∃xs:List (List aQ×Addr×Value),
   Paired (λ(p:List aQ×V)(q:List aQ×Addr×Value)=>p.1=q.1/\H q.2.1=some (.tup (p.1.map kV))/\RelV p.2 q.2.2) kvs xs /\
   ∃o es ep,h.get? a=some o/\o.ExactDict/\o.data=.dict es ep/\es.toList=xs.map (entryOfKey (tupleKind (aY P w)))/\(xs.map 87).Nodup
 | .set S n=>h.SetOf (intKind P w) a S n
 | .ins C dx fs=>H dx=some (.own a)/\fs.length<=1000/\dx≠a/\h.get? a=some (PySem.W.instObj C dx) /\
   ∃mA,h.Ns1 dx mA/\(∀f,jY (fs.lookup f) (mA f))/\PySem.Within mA (fs.map 87)
 | .own _=>∃o,h.get? a=some o
 | .xd fs=>∃mA,h.Ns1 a mA/\∀f,jY (fs.lookup f) (mA f)
 | .Fs lo hi=>∃t u v,h.get? a=some { cls:=.type "range",data:=.fields #[.int lo t,.int hi u,.int 1 v] }
 | .mf o u=>h.get? a=some o/\cQ H h a u
 | .uu ps=>h.get? a=some { cls:=.none,data:=.fields ps }
 | .met f x=>h.get? a=some (PySem.W.methodObj (.ref f) (.ref x))
 | .ext φ=>φ h/\(∃o,h.get? a=some o)/\∀h1 h2:Heap,φ h1->(∀o,h1.get? a=some o->h2.get? a=some o)->φ h2
def m_ (H:Hp)(h:Heap):Prop:=∀a o,H a=some o->cQ P w H h a o
end
section
variable {P:Program}{w:World}{H H':Hp}{h h':Heap}{a:Addr}{o:HO}
theorem cQ.lt (x:cQ P w H h a o):a < h.objs.size:=by
 cases o with
 | lst xs=>obtain⟨_,_,_,_,e⟩:=x;exact bD e
 | tup xs=>obtain⟨_,_,_,p⟩:=x;exact p.lt
 | dK kvs=>obtain⟨_,_,_,_,o,_,_,e,_⟩:=x;exact bD e
 | dT kvs=>obtain⟨_,_,_,_,o,_,_,e,_⟩:=x;exact bD e
 | set S n=>obtain⟨o,_,_,_,e,_⟩:=x;exact bD e
 | ins C dx fs=>obtain⟨_,_,_,e,_⟩:=x;exact bD e
 | own y=>obtain⟨_,e⟩:=x;exact bD e
 | xd fs=>obtain⟨_,⟨_,_,_,e,_⟩,_⟩:=x;exact bD e
 | Fs lo hi=>obtain⟨_,_,_,e⟩:=x;exact bD e
 | mf ob u=>obtain⟨e,_⟩:=x;exact bD e
 | uu ps=>exact bD (show h.get? a=some _ from x)
 | met f y=>exact bD (show h.get? a=some _ from x)
 | ext φ=>obtain⟨_,⟨_,e⟩,_⟩:=x;exact bD e
theorem Paired.b9 {α β:Type}{F G:α->β->Prop}:∀{l₁:List α}{l₂:List β},Paired F l₁ l₂->(∀a b,F a b->G a b)->Paired G l₁ l₂
 | _,_,.nil,_=>.nil
 | _,_,.cons r t,f=>.cons (f _ _ r) (Paired.b9 t f)
def cQ.kO (x:cQ P w H h a o)(k:∀b u,(b=a\/H b=some (.own a))->h.get? b=some u->h'.get? b=some u)
  (ho:∀b,H b=some (.own a)->H' b=some (.own a))(ht:∀b xs,H b=some (.tup xs)->H' b=some (.tup xs)):cQ P w H' h' a o:=by
 induction o with
 | lst xs=>obtain⟨z,aV,n,r,e⟩:=x;exact⟨z,aV,n,r,k _ _ (.inl rfl) e⟩
 | tup xs=>obtain⟨z,aV,r,ob,e,c⟩:=x;exact⟨z,aV,r,ob,k _ _ (.inl rfl) e,c⟩
 | dK kvs=>obtain⟨z,y,vs,r,ob,es,ep,e,c⟩:=x;exact⟨z,y,vs,r,ob,es,ep,k _ _ (.inl rfl) e,c⟩
 | dT kvs =>
  obtain⟨z,y,xs,r,ob,es,ep,e,c,c1,c2,c3⟩:=x;exact⟨z,y,xs,Paired.b9 r λp q z=>⟨z.1,ht _ _ z.2.1,z.2.2⟩,ob,es,ep,k _ _ (.inl rfl) e,c,c1,c2,c3⟩
 | set S n=>obtain⟨ob,es,ep,t,e,c⟩:=x;exact⟨ob,es,ep,t,k _ _ (.inl rfl) e,c⟩
 | ins C dx fs =>
  obtain⟨d,z,ne,e,mA,⟨od,es,ep,e2,c⟩,r,r1⟩:=x;exact⟨ho _ d,z,ne,k _ _ (.inl rfl) e,mA,⟨od,es,ep,k _ _ (.inr d) e2,c⟩,r,r1⟩
 | own y=>obtain⟨ob,e⟩:=x;exact⟨ob,k _ _ (.inl rfl) e⟩
 | xd fs=>obtain⟨mA,⟨od,es,ep,e,c⟩,r⟩:=x;exact⟨mA,⟨od,es,ep,k _ _ (.inl rfl) e,c⟩,r⟩
 | Fs lo hi=>obtain⟨t,u,v,e⟩:=x;exact⟨t,u,v,k _ _ (.inl rfl) e⟩
 | mf ob u ih=>obtain⟨e,q⟩:=x;exact⟨k _ _ (.inl rfl) e,ih q⟩
 | uu ps =>
  have e:h.get? a=some { cls:=.none,data:=.fields ps }:=x;show h'.get? a=some { cls:=.none,data:=.fields ps };exact k a _ (.inl rfl) e
 | met f y =>
  have e:h.get? a=some (PySem.W.methodObj (.ref f) (.ref y)):=x;show h'.get? a=some (PySem.W.methodObj (.ref f) (.ref y));exact k a _ (.inl rfl) e
 | ext φ=>obtain⟨p,⟨o,e⟩,st⟩:=x;exact⟨st _ _ p λo q=>k _ _ (.inl rfl) q,⟨o,k _ _ (.inl rfl) e⟩,st⟩
theorem m_.lt (x:m_ P w H h)(e:H a=some o):a < h.objs.size:=(x a o e).lt
def m_.fresh (x:m_ P w H h)(e:h.objs.size<=a):H a=none:=by
 cases q:H a with
 | none=>rfl
 | some u=>exact absurd (gy (x.lt q) e) (lR _)
def m_.kept (x:m_ P w H h)(k:∀b u,h.get? b=some u->h'.get? b=some u):m_ P w H h':=λa o e =>
 (x a o e).kO (λb u _ q=>k b u q) (λ_ q=>q) λ_ _ q=>q
def m_.laid (x:m_ P w H h)(k:∀b u,h.get? b=some u->h'.get? b=some u)(hp:h.objs.size<=a)(new:cQ P w (upd H a o) h' a o):m_ P w (upd H a o) h':=λb u e=>by
 have hn:=x.fresh hp;by_cases hb:b=a
 .subst hb;rw [ae] at e;cases e;exact new
 rw [aj hb] at e;exact(x b u e).kO (λc v _ q=>k c v q) (λc q=>by rw [aj (aC q hn)];exact q) λc xs q=>by rw [aj (aC q hn)];exact q
end
def Rd (H:Hp)(a:Addr)(u:HO):Prop:=H a=some u\/∃o,H a=some (.mf o u)
def Rd.ok {P:Program}{w:World}{H:Hp}{h:Heap}{a:Addr}{u:HO}(r:Rd H a u)(x:m_ P w H h):cQ P w H h a u:=by
 rcases r with r | ⟨o,r⟩
 .exact x a u r
 obtain⟨_,q⟩:=x a _ r;exact q
def Uy:Option HO->Prop
 | some (.lst _)=>True
 | some (.dK _)=>True
 | some (.dT _)=>True
 | some (.set _ _)=>True
 | some (.ins _ _ _)=>True
 | some (.ext _)=>True
 | _=>False
section
variable {P:Program}{w:World}{H:Hp}{h h':Heap}{x e:Addr}{o':HO}
def m_.write (ok:m_ P w H h)(mu:Uy (H x))(he:e=x\/H e=some (.own x))(k:∀b u,b≠e->h.get? b=some u->h'.get? b=some u)(Qq:∃u,h'.get? e=some u)
  (new:cQ P w (upd H x o') h' x o'):m_ P w (upd H x o') h':=λb u q=>by
 have RQ:∀c y,H c=some (.own y)->c≠x:=λc y r z=>by subst z;rw [r] at mu;exact mu
 have Xo:∀c xs,H c=some (.tup xs)->c≠x:=λc xs r z=>by subst z;rw [r] at mu;exact mu
 by_cases hb:b=x
 .subst hb;rw [ae] at q;cases q;exact new
 rw [aj hb] at q;by_cases OW:b=e
 .have q':H b=some (.own x):=by
   rcases he with z | z
   .exact absurd (OW.trans z) hb
   rw [OW];exact z
  rw [q] at q';cases q';obtain⟨v,hv⟩:=Qq;exact⟨v,by rw [OW];exact hv⟩
 refine(ok b u q).kO (λc v hc r=>k c v ?_ r) (λc r=>by rw [aj (RQ c b r)];exact r) λc xs r=>by rw [aj (Xo c xs r)];exact r
 rcases hc with rfl | hc
 .exact OW
 rintro rfl;rcases he with z | z
 .exact RQ c b hc z
 rw [hc] at z;cases z;exact hb rfl
end
structure Un (fs ex:z0q)(H H':Hp)(h h':Heap):Prop where
 keep:∀b o,h.get? b=some o->H b=none->b∉fs->b∉ex->h'.get? b=some o
 slot:∀b o,h.get? b=some o->H b=none->b∈fs->b∉ex->∃sl,h'.get? b=some { o with slots:=sl }
 free:∀b o,h.get? b=some o->H b=none->b∉ex->H' b=none
 there:∀b o,h.get? b=some o->b∉ex->∃o',h'.get? b=some o'
 wV:∀b xs,H b=some (.tup xs)->H' b=some (.tup xs)
 uK:∀b o u,H b=some (.mf o u)->H' b=some (.mf o u)
 uz:∀b ps,H b=some (.uu ps)->∃more,H' b=some (.uu (ps++more))
section
variable {fs MZ ex ex':z0q}{H H1 H2:Hp}{h h1 h2 h':Heap}{a x e:Addr}{o:HO}
def Un.any (u:Un fs ex H H1 h h1){b:Addr}{ob:Obj}(q:h.get? b=some ob)(n:H b=none)(hx:b∉ex):∃sl,h1.get? b=some { ob with slots:=sl }:=by
 by_cases hb:b∈fs
 .exact u.slot b ob q n hb hx
 exact⟨ob.slots,u.keep b ob q n hb hx⟩
def Un.kept (k:∀b u,h.get? b=some u->h'.get? b=some u):Un fs ex H H h h' :=
 ⟨λb ob q _ _ _=>k b ob q,λb ob q _ _ _=>⟨ob.slots,k b ob q⟩,λ_ _ _ n _=>n,λb ob q _=>⟨ob,k b ob q⟩,λ_ _ q=>q,λ_ _ _ q=>q,λ_ ps q=>⟨#[],by rw [q];simp⟩⟩
def Un.refl:Un fs ex H H h h:=Un.kept λ_ _ q=>q
def Un.laid (k:∀b u,h.get? b=some u->h'.get? b=some u)(hp:h.objs.size<=a)(hn:H a=none):Un fs ex H (upd H a o) h h' where
 keep:=λb u q _ _ _=>k b u q
 slot:=λb u q _ _ _=>⟨u.slots,k b u q⟩
 free:=λb u q n _=>by rw [aj (bV (gy (bD q) hp))];exact n
 there:=λb u q _=>⟨u,k b u q⟩
 wV:=λb xs q=>by rw [aj (aC q hn)];exact q
 uK:=λb u xs q=>by rw [aj (aC q hn)];exact q
 uz:=λb ps q=>⟨#[],by rw [aj (aC q hn),q];simp⟩
def Un.write (mu:Uy (H x))(he:e=x\/H e=some (.own x))(k:∀b u,b≠e->h.get? b=some u->h'.get? b=some u)(Qq:∃u,h'.get? e=some u):Un fs ex H (upd H x o) h h':=by
 have hx:∀b,H b=none->b≠x:=λb n z=>by subst z;rw [n] at mu;exact mu
 have hb:∀b,H b=none->b≠e:=λb n z=>by
  subst z;rcases he with r | r
  .exact hx b n r
  rw [n] at r;cases r
 have hm:∀b u,H b=some u->¬Uy (some u)->b≠x:=λb u q nm z=>by subst z;rw [q] at mu;exact nm mu
 refine⟨λb u q n _ _=>k b u (hb b n) q,λb u q n _ _=>⟨u.slots,k b u (hb b n) q⟩,λb u q n _=>by rw [aj (hx b n)];exact n,λb u q _=>?_,
  λb xs q=>by rw [aj (hm b _ q λz=>z)];exact q,λb u xs q=>by rw [aj (hm b _ q λz=>z)];exact q,λb ps q=>⟨#[],by rw [aj (hm b _ q λz=>z),q];simp⟩⟩
 by_cases OW:b=e
 .subst OW;exact Qq
 exact⟨u,k b u OW q⟩
end
def Jz (h:Heap)(H:Hp):z0q:=(List.range h.objs.size).filter λa=>(H a).isSome
def uH (h:Heap)(H:Hp):Heap:=PySem.W.hideAll h (Jz h H)
def EF (h:Heap)(H:Hp):(uH h H).objs.size=h.objs.size:=PySem.W.hideAll_size _ _
def Iz {h:Heap}{H:Hp}{b:Addr}{o:Obj}(e:h.get? b=some o)(n:H b=none):(uH h H).get? b=some o :=
 PySem.W.hideAll_get _ e λhm=>by
  have q:(H b).isSome=true:=(gw.mp hm).2;rw [n] at q;simp at q
def KU {h:Heap}{H:Hp}{b:Addr}{o:Obj}(e:(uH h H).get? b=some o):h.get? b=some o/\H b=none:=by
 have e':h.get? b=some o:=PySem.W.of_hideAll (Jz h H) e;refine⟨e',?_⟩;cases q:H b with
 | none=>rfl
 | some x =>
  have hm:b∈Jz h H:=gw.mpr ⟨j6.mpr (bD e'),by simp [q]⟩;have z:(uH h H).get? b=none:=PySem.W.hideAll_none (Jz h H) hm;rw [z] at e;cases e
structure Mod (K:bp)(mg:z0c)(base:Heap):Prop where
 Sk:K.In base
 glob:base.Ns mainGlobals mg
 blt:∃mb,base.Ns builtinsNs mb/\∀x:Str,x ≠ "__name__" -> mb x=bootBuiltins x
 nolimit:base.NoLimit
structure Cx where
 prog:Program
 w:World
 K:bp
 mg:Str->z0k
 base:Heap
 A:Around
 N:z0t
 s₀:Shared
 H₀:Hp
 env:Env
 outer:List Env
 stack:List Env
 ex:z0q
 fn:Str->Bool
 calm:Bool
 pn:z0e
 xe:Value->182
def EM (l:List Env):z0q:=l.filterMap (·.frame)
abbrev Cx.fs (X:Cx):z0q:=EM X.outer
def V5 (sc:Scope)(x:Str):Prop:=sc.names.lookup x=some .local\/sc.names.lookup x=some .cell\/sc.names.lookup x=some .free
def Loc (sc:Scope)(x:Str):Prop:=sc.names.lookup x=some .local\/sc.names.lookup x=some .cell
def Look (env:Env)(h:Heap)(m:z0c)(x:Str)(u:Value):Prop :=
 (env.kindOf x=some .local/\m x=some u)\/((env.kindOf x=some .cell\/env.kindOf x=some .free)/\∃c,env.cells.lookup x=some c/\h.IsCell c (some u))
structure Cx.Ok (X:Cx):Prop where
 mod:Mod X.K X.mg X.base
 kind:X.env.scope.kind=.function
 glob:X.env.globals=mainGlobals
 blt:X.env.builtins=builtinsNs
 above:X.s₀.heap.objs.size<=X.env.locals
 inj:∀x y c,X.env.cells.lookup x=some c->X.env.cells.lookup y=some c->x=y
 has:∀x,(X.env.kindOf x=some .cell\/X.env.kindOf x=some .free)->∃c,X.env.cells.lookup x=some c
 Ud:∀x c,X.fn x=true->X.env.cells.lookup x=some c->X.s₀.heap.objs.size<=c
 hd:X.calm=true->X.A.handled=none
 frames:X.A.frames=some X.stack
 UT:X.stack=X.outer\/(X.stack=X.env::X.outer/\X.env.frame=some X.env.locals)
 Qz:∀b∈X.ex,b≠X.env.locals/\∀x c,X.env.cells.lookup x=some c->c≠b
 bs:∀b o,X.base.get? b=some o->X.s₀.heap.get? b=some o/\X.H₀ b=none
 LR:X.base.objs.size<=X.s₀.heap.objs.size
 HW:∀b o,X.base.get? b=some o->b∉X.ex
 ER:∀b∈X.ex,b∉X.fs
 qz:X.s₀.heap.FunFrames X.base X.outer
 O4:∀b∈X.fs,X.H₀ b=none
structure Inv (X:Cx)(ai:z0e)(σ:List (Option V))(H:Hp)(s:Shared):Prop where
 ok:X.Ok
 os:s.os=X.s₀.os
 bare:AllBare s.gens
 base:Un X.fs X.ex X.H₀ H X.s₀.heap s.heap
 loc:∃m,s.heap.Ns X.env.locals m/\∀(i:Nat)(x:Str)(v:V),X.N[i]?=some x->σ[i]?=some (some v)->V5 X.env.scope x->∃u,RelV v u/\Look X.env s.heap m x u
 cell:∀x c,X.env.cells.lookup x=some c->∃v,s.heap.IsCell c v
 free:H X.env.locals=none
 mh:∀x c,X.env.cells.lookup x=some c->H c=none
 pin:∀p∈X.pn++ai,s.heap.get? p.1=some p.2/\H p.1=none/\p.1≠X.env.locals/\p.1∉X.fs/\∀v,p.2.data≠.cell v
 cw:m_ X.prog X.w H s.heap
 len:σ.length=X.N.length
section
variable {X:Cx}{ai:z0e}{σ:List (Option V)}{H H':Hp}{s:Shared}{h':Heap}
def Cx.Ok.Xr (ok:X.Ok){b:Addr}{o:Obj}(e:X.base.get? b=some o):b∉X.fs:=λhb=>by
 have:=(ok.qz.mem hb).1;rw [e] at this;cases this
theorem Inv.bs (I:141):∀b o,X.base.get? b=some o->185/\H b=none:=λb o e =>
 ⟨I.base.keep b o (I.ok.bs b o e).1 (I.ok.bs b o e).2 (I.ok.Xr e) (I.ok.HW b o e),I.base.free b o (I.ok.bs b o e).1 (I.ok.bs b o e).2 (I.ok.HW b o e)⟩
def Inv.bk (I:141):∀b o,X.base.get? b=some o->185:=λb o e=>(I.bs b o e).1
theorem Inv.mod (I:141):Mod X.K X.mg X.base:=I.ok.mod
def Inv.zo (I:141):X.K.In s.heap:=I.ok.mod.Sk.keeps I.bk
def Inv.fr (I:141):∃m,Fr X.base X.env.locals s.heap m :=
 let ⟨m,hn,_⟩:=I.loc
 ⟨m,hn,I.bk,fJ I.ok.LR I.ok.above⟩
theorem Inv.lt (I:141):X.env.locals < s.heap.objs.size:=let ⟨_,hn,_⟩:=I.loc;hn.lt
def Inv.sz (I:141):X.s₀.heap.objs.size<=s.heap.objs.size:=fJ I.ok.above (lN I.lt)
def Inv.Xq (I:141){a:Addr}(h:s.heap.objs.size<=a):a∉X.fs:=λhb=>by
 obtain⟨_,o,ho,_⟩:=I.ok.qz.mem hb;exact absurd (gy (bD ho) (fJ I.sz h)) (lR _)
def Inv.Pz (I:141):∀x c,X.env.cells.lookup x=some c->c≠X.env.locals:=λx c e z=>by
 obtain⟨v,o,ho,hd⟩:=I.cell x c e;obtain⟨m,⟨o',es,ep,BN,EH,_⟩,_⟩:=I.loc;rw [z,BN] at ho;cases ho;rw [EH] at hd;cases hd
theorem Inv.qz (I:141):s.heap.FunFrames X.base X.outer:=by
 have all:∀(l:List Env),(∀b∈EM l,b∈X.fs)->X.s₀.heap.FunFrames X.base l->s.heap.FunFrames X.base l:=by
  intro l
  induction l with
  | nil=>intro _ _;trivial
  | cons env r ih =>
   intro hs hl;obtain⟨hk,⟨L,o,hf,hn,ho,hd⟩,hr⟩:=hl;have hL:L∈X.fs:=hs L (by unfold EM;rw [List.filterMap_cons,hf];exact cS);obtain⟨sl,e⟩:=I.base.slot L o ho (I.ok.O4 L hL) hL λz=>I.ok.ER L z hL;exact⟨hk,⟨L,_,hf,hn,e,hd⟩,ih (λb hb=>hs b (by unfold EM;rw [List.filterMap_cons,hf];exact cT _ hb)) hr⟩
 exact all X.outer (λ_ hb=>hb) I.ok.qz
theorem Inv.stack (I:141):s.heap.FunFrames X.base X.stack:=by
 rcases I.ok.UT with e | ⟨e,hf⟩
 .rw [e];exact I.qz
 rw [e];obtain⟨m,hn,_⟩:=I.loc;refine .cons (by rw [I.ok.kind];decide) hf hn ?_ I.qz;exact Heap.get?_none_of_le (fJ I.ok.LR I.ok.above)
def Inv.AJ (I:141):∀b∈EM X.stack,b∈X.env.locals::X.fs:=λb hb=>by
 rcases I.ok.UT with e | ⟨e,hf⟩
 .rw [e] at hb;exact cT _ hb
 rw [e] at hb;unfold EM at hb;rw [List.filterMap_cons,hf] at hb;exact hb
def Inv.Cz (I:141):∀b∈EM X.stack,H b=none:=λb hb=>by
 rcases b8.mp (I.AJ b hb) with e | hb
 .rw [e];exact I.free
 obtain⟨_,o,ho,_⟩:=I.ok.qz.mem hb;exact I.base.free b o ho (I.ok.O4 b hb) λz=>I.ok.ER b z hb
def Inv.step {g':Array GenState}{t':Nat}{d':Drawn}{ch:z0q}(I:141)
  (JJ:∀b∈ch,(b∈X.ex\/X.s₀.heap.objs.size<=b)/\b≠X.env.locals/\(∀x c,X.env.cells.lookup x=some c->c≠b)/\∀p∈X.pn++ai,p.1≠b)
  (keep:∀b o,b≠X.env.locals->b∉X.fs->b∉ch->185->H b=none->h'.get? b=some o)
  (slot:∀b o,b≠X.env.locals->b∈X.fs->b∉ch->185->H b=none->∃sl,h'.get? b=some { o with slots:=sl })(free:∀b o,b∉ch->185->H b=none->H' b=none)
  (there:∀b o,b∉ch->185->∃o',h'.get? b=some o')
  (wV:∀b xs,H b=some (.tup xs)->H' b=some (.tup xs))(uK:∀b o u,H b=some (.mf o u)->H' b=some (.mf o u))(uz:∀b ps,H b=some (.uu ps)->∃more,H' b=some (.uu (ps++more)))
  (ns:∀m,s.heap.Ns X.env.locals m->h'.Ns X.env.locals m)(cw:m_ X.prog X.w H' h')(hg:AllBare g') :
  Inv X ai σ H' { s with heap:=h',gens:=g',drawn:=d',toks:=t' }:=by
 have neL:∀b o,X.s₀.heap.get? b=some o->b≠X.env.locals:=λb o e=>bV (gy (bD e) I.ok.above);have Qd:∀b o,X.s₀.heap.get? b=some o->b∉X.ex->b∉ch:=λb o e hx hb=>by
  rcases (JJ b hb).1 with z | z
  .exact hx z
  exact absurd (gy (bD e) z) (lR _)
 have cellK:∀x c,X.env.cells.lookup x=some c->∀v,s.heap.IsCell c v->h'.IsCell c v:=λx c e v ⟨o,ho,hd⟩=>by
  have RV:c∉ch:=λz=>(JJ c z).2.2.1 x c e rfl;by_cases hc:c∈X.fs
  .obtain⟨sl,q⟩:=slot c o (I.Pz x c e) hc RV ho (I.mh x c e);exact⟨_,q,hd⟩
  exact⟨o,keep c o (I.Pz x c e) hc RV ho (I.mh x c e),hd⟩
 refine⟨I.ok,I.os,hg,⟨λb o e n hb hx=>?_,λb o e n hb hx=>?_,λb o e n hx=>?_,λb o e hx=>?_,λb xs e=>wV b xs (I.base.wV b xs e),λb o xs e=>uK b o xs (I.base.uK b o xs e),λb ps e=>?_⟩,?_,λx c e=>?_,?_,λx c e=>?_,λp hp=>?_,cw,I.len⟩
 .exact keep b o (neL b o e) hb (Qd b o e hx) (I.base.keep b o e n hb hx) (I.base.free b o e n hx)
 .obtain⟨sl,e1⟩:=I.base.slot b o e n hb hx;obtain⟨sl',e2⟩:=slot b _ (neL b o e) hb (Qd b o e hx) e1 (I.base.free b o e n hx);exact⟨sl',e2⟩
 .obtain⟨o',e1⟩:=I.base.there b o e hx;exact free b o' (Qd b o e hx) e1 (I.base.free b o e n hx)
 .obtain⟨o',e1⟩:=I.base.there b o e hx;exact there b o' (Qd b o e hx) e1
 .obtain⟨m1,e1⟩:=I.base.uz b ps e;obtain⟨m2,e2⟩:=uz b _ e1;exact⟨m1++m2,by rw [e2,Array.append_assoc]⟩
 .obtain⟨m,hn,hl⟩:=I.loc;refine⟨m,ns m hn,λi x v e1 e2 e3=>?_⟩;obtain⟨u,r,l⟩:=hl i x v e1 e2 e3;refine⟨u,r,?_⟩;rcases l with l | ⟨k,c,e,z⟩
  .exact .inl l
  exact .inr ⟨k,c,e,cellK x c e _ z⟩
 .obtain⟨v,z⟩:=I.cell x c e;exact⟨v,cellK x c e v z⟩
 .obtain⟨m,⟨o,_,_,ho,_⟩,_⟩:=I.loc;exact free _ o (λz=>(JJ _ z).2.1 rfl) ho I.free
 .obtain⟨v,o,ho,hd⟩:=I.cell x c e;exact free c o (λz=>(JJ c z).2.2.1 x c e rfl) ho (I.mh x c e)
 obtain⟨e,n,ne,nf,d⟩:=I.pin p hp;have RV:p.1∉ch:=λz=>(JJ p.1 z).2.2.2 p hp rfl;exact⟨keep p.1 p.2 ne nf RV e n,free p.1 p.2 RV e n,ne,nf,d⟩
def Inv.un {t':Nat}(I:141)(u:Un X.fs [] H H' s.heap h')(cw:m_ X.prog X.w H' h'):Inv X ai σ H' { s with heap:=h',toks:=t' }:=by
 obtain⟨m,⟨o,es,ep,ho,r⟩,_⟩:=id I.loc;obtain⟨sl,hL⟩:=u.any ho I.free 144;exact I.step (g':=s.gens) (d':=s.drawn) (ch:=[]) (λ_ z=>nomatch z) (λb o _ hb _ e n=>u.keep b o e n hb 144) (λb o _ hb _ e n=>u.slot b o e n hb 144) (λb o _ e n=>u.free b o e n 144) (λb o _ e=>u.there b o e 144) u.wV u.uK u.uz (λm' hm=>by
  obtain⟨o',xU,Zu,BN,r'⟩:=hm;rw [ho] at BN;cases BN;exact⟨_,xU,Zu,hL,r'⟩) cw I.bare
def Inv.call {g':Array GenState}{t':Nat}{d':Drawn}{ch:z0q}(I:141)(u:Un (EM X.stack) ch H H' s.heap h')(cw:m_ X.prog X.w H' h')(hg:AllBare g')
  (JJ:∀b∈ch,(b∈X.ex\/X.s₀.heap.objs.size<=b)/\b≠X.env.locals/\(∀x c,X.env.cells.lookup x=some c->c≠b)/\∀p∈X.pn++ai,p.1≠b) :
  Inv X ai σ H' { s with heap:=h',gens:=g',drawn:=d',toks:=t' }:=by
 obtain⟨m,⟨o,es,ep,ho,r⟩,_⟩:=id I.loc;obtain⟨sl,hL⟩:=u.any ho I.free λz=>(JJ _ z).2.1 rfl;exact I.step (ch:=ch) JJ (λb o hL hb hc e n=>u.keep b o e n (λz=>(b8.mp (I.AJ b z)).elim hL hb) hc) (λb o _ _ hc e n=>u.any e n hc) (λb o hc e n=>u.free b o e n hc) (λb o hc e=>u.there b o e hc) u.wV u.uK u.uz (λm' hm=>by
  obtain⟨o',xU,Zu,BN,r'⟩:=hm;rw [ho] at BN;cases BN;exact⟨_,xU,Zu,hL,r'⟩) cw hg
def Inv.turned {t':Nat}{it:Addr}(I:141)(k:∀b o,b≠it->185->h'.get? b=some o)(hn:H it=none)(hL:it≠X.env.locals)
  (h1:it∈X.ex\/X.s₀.heap.objs.size<=it)(h2:∀x c,X.env.cells.lookup x=some c->c≠it)(h3:∀p∈X.pn++ai,p.1≠it):Inv X ai σ H { s with heap:=h',toks:=t' }:=by
 have nit:∀b u,H b=some u->b≠it:=λb u e z=>by rw [z,hn] at e;cases e
 refine I.step (g':=s.gens) (d':=s.drawn) (ch:=[it]) (λb hb=>?_) (λb o _ _ hc e _=>k b o (λz=>hc (by simp [z])) e) (λb o _ _ hc e _=>⟨o.slots,k b o (λz=>hc (by simp [z])) e⟩) (λ_ _ _ _ n=>n)
  (λb o hc e=>⟨o,k b o (λz=>hc (by simp [z])) e⟩) (λ_ _ e=>e) (λ_ _ _ e=>e) (λb ps e=>⟨#[],by rw [e];simp⟩) (λm hm=>?_) (λb u e=>?_) I.bare
 .have e:b=it:=by simpa using hb
  subst e;exact⟨h1,hL,h2,h3⟩
 .obtain⟨o,es,ep,ho,r⟩:=hm;exact⟨o,es,ep,k _ o (d8 hL) ho,r⟩
 refine(I.cw b u e).kO (λc v hc q=>k c v ?_ q) (λ_ q=>q) λ_ _ q=>q;rcases hc with z | z
 .rw [z];exact nit b u e
 exact nit c _ z
def Inv.tok (I:141) (t:Nat):Inv X ai σ H { s with toks:=t }:=I.un (h':=s.heap) (t':=t) Un.refl I.cw
theorem Inv.kept {t':Nat}(I:141)(k:∀b u,s.heap.get? b=some u->h'.get? b=some u):Inv X ai σ H { s with heap:=h',toks:=t' }:=I.un (Un.kept k) (I.cw.kept k)
theorem Inv.laid {a:Addr}{o:HO}{t':Nat}(I:141)(k:∀b u,s.heap.get? b=some u->h'.get? b=some u)(hp:s.heap.objs.size<=a)(new:cQ X.prog X.w (upd H a o) h' a o) :
  Inv X ai σ (upd H a o) { s with heap:=h',toks:=t' }:=I.un (Un.laid k hp (I.cw.fresh hp)) (I.cw.laid k hp new)
theorem Inv.write {x e:Addr}{o:HO}{t':Nat}(I:141)(mu:Uy (H x))(he:e=x\/H e=some (.own x))(k:∀b u,b≠e->s.heap.get? b=some u->h'.get? b=some u)(Qq:∃u,h'.get? e=some u)
  (new:cQ X.prog X.w (upd H x o) h' x o):Inv X ai σ (upd H x o) { s with heap:=h',toks:=t' }:=I.un (Un.write mu he k Qq) (I.cw.write mu he k Qq new)
def Inv.CW {j8:z0e}(I:141)(h:∀p∈j8,s.heap.get? p.1=some p.2/\H p.1=none/\p.1≠X.env.locals/\p.1∉X.fs/\∀v,p.2.data≠.cell v):Inv X j8 σ H s :=
 ⟨I.ok,I.os,I.bare,I.base,I.loc,I.cell,I.free,I.mh,λp hp=>(bP.mp hp).elim (λz=>I.pin p (fg _ z)) (h p),I.cw,I.len⟩
def yX {N:z0t}(hN:N.Nodup){i j:Nat}{x:Str}(a:N[i]?=some x)(b:N[j]?=some x):i=j:=by
 obtain⟨h1,e1⟩:=bu.mp a;obtain⟨h2,e2⟩:=bu.mp b;exact(v9 hN).mp (e1.trans e2.symm)
def u7 {M:Model}{A:Around}{E:z0b}{i:Nat}{x:Str}{v:V}{u:Value}{Q:Unit->182}(I:141)(hN:X.N.Nodup)(hi:X.N[i]?=some x)(hx:Loc X.env.scope x)(r:RelV v u)
  (h:∀s',Inv X ai (σ.set i (some v)) H s'->(∃a,Heap.SameBut a s.heap s'.heap/\(a=X.env.locals\/X.env.cells.lookup x=some a))->Q () s')(hf:X.fn x=true\/X.env.scope.names.lookup x=some .local:=by first | exact .inl rfl | exact .inr rfl | assumption):wpAny M A (storeName X.env x u) Q E s:=by
 obtain⟨m,hn,hl⟩:=id I.loc;have YW:(X.env.scope.kind == .class || (X.env.scope.kind == .module && X.env.locals != X.env.globals))=false:=by rw [I.ok.kind];rfl
 have hiσ:i < σ.length:=by rw [I.len];exact(bu.mp hi).1
 have Pz:=I.Pz;have tracked:∀{a:Addr}{h':Heap},(∃o,s.heap.get? a=some o/\H a=none)->Heap.SameBut a s.heap h'->m_ X.prog X.w H h':=λ{a h'} ha hs b ob e=>by
  obtain⟨_,_,n_⟩:=ha;refine(I.cw b ob e).kO (λc w' hc q=>(hs.2 c ?_).trans q) (λ_ q=>q) λ_ _ q=>q;rintro rfl;rcases hc with rfl | hc
  .rw [n_] at e;cases e
  rw [n_] at hc;cases hc
 rcases hx with hk | hk
 .refine wpAny_storeName_local hk hn (λh' Dc hs=>?_) YW;obtain⟨oL,_,_,Vm,_⟩:=id hn;refine h _ ⟨I.ok,I.os,I.bare,⟨λb o e n hb hx=>?_,λb o e n hb hx=>?_,I.base.free,λb o e hx=>?_,I.base.wV,I.base.uK,I.base.uz⟩,⟨_,Dc,λj y v' e1 e2 e3=>?_⟩,λy c e=>?_,I.free,I.mh,λp hp=>?_,tracked ⟨oL,Vm,I.free⟩ hs,by simpa using I.len⟩ ⟨_,hs,.inl rfl⟩
  .exact(hs.2 b (bV (gy (bD e) I.ok.above))).trans (I.base.keep b o e n hb hx)
  .obtain⟨sl,e1⟩:=I.base.slot b o e n hb hx;exact⟨sl,(hs.2 b (bV (gy (bD e) I.ok.above))).trans e1⟩
  .obtain⟨o',e1⟩:=I.base.there b o e hx;exact⟨o',(hs.2 b (bV (gy (bD e) I.ok.above))).trans e1⟩
  .by_cases hj:j=i
   .subst hj;rw [hi] at e1;cases e1;rw [List.getElem?_set_self hiσ] at e2;cases e2;exact⟨u,r,.inl ⟨hk,92⟩⟩
   rw [List.getElem?_set_ne (d8 hj)] at e2;obtain⟨u',r',q⟩:=hl j y v' e1 e2 e3;refine⟨u',r',?_⟩;rcases q with ⟨k,e⟩ | ⟨k,c,e,z⟩
   .refine .inl ⟨k,?_⟩;have:y≠x:=λe=>hj (yX hN e1 (e ▸ hi));simp [this,e]
   exact .inr ⟨k,c,e,z.sameBut hs (Pz y c e)⟩
  .obtain⟨w',z⟩:=I.cell y c e;exact⟨w',z.sameBut hs (Pz y c e)⟩
  obtain⟨e,n,ne,nf,d⟩:=I.pin p hp;exact⟨(hs.2 p.1 ne).trans e,n,ne,nf,d⟩
 have YO:X.fn x=true:=by
  rcases hf with z | z
  .exact z
  rw [z] at hk;cases hk
 obtain⟨c,hc⟩:=I.ok.has x (.inl hk);obtain⟨w',z⟩:=I.cell x c hc;refine wpAny_storeName_cell I.ok.kind hk hc z (λh' mS hs=>?_);obtain⟨oc,Ai,Yz⟩:=id z;refine h { s with heap:=h' } ⟨I.ok,I.os,I.bare,⟨λb o e n hb hx=>?_,λb o e n hb hx=>?_,I.base.free,λb o e hx=>?_,I.base.wV,I.base.uK,I.base.uz⟩,⟨m,hn.sameBut hs (d8 (Pz x c hc)),λj y v' e1 e2 e3=>?_⟩,λy c' e=>?_,I.free,I.mh,λp hp=>?_,tracked ⟨oc,Ai,I.mh x c hc⟩ hs,by simpa using I.len⟩ ⟨c,hs,.inr hc⟩
 .exact(hs.2 b (bV (gy (bD e) (I.ok.Ud x c YO hc)))).trans (I.base.keep b o e n hb hx)
 .obtain⟨sl,e1⟩:=I.base.slot b o e n hb hx;exact⟨sl,(hs.2 b (bV (gy (bD e) (I.ok.Ud x c YO hc)))).trans e1⟩
 .obtain⟨o',e1⟩:=I.base.there b o e hx;exact⟨o',(hs.2 b (bV (gy (bD e) (I.ok.Ud x c YO hc)))).trans e1⟩
 .by_cases hj:j=i
  .subst hj;rw [hi] at e1;cases e1;rw [List.getElem?_set_self hiσ] at e2;cases e2;exact⟨u,r,.inr ⟨.inl hk,c,hc,mS⟩⟩
  rw [List.getElem?_set_ne (d8 hj)] at e2;obtain⟨u',r',q⟩:=hl j y v' e1 e2 e3;refine⟨u',r',?_⟩;rcases q with q | ⟨k,c',e,z'⟩
  .exact .inl q
  refine .inr ⟨k,c',e,z'.sameBut hs ?_⟩;rintro rfl;exact hj (yX hN e1 (I.ok.inj _ _ _ e hc ▸ hi))
 .by_cases hcc:c'=c
  .subst hcc;exact⟨_,mS⟩
  obtain⟨w2,z2⟩:=I.cell y c' e;exact⟨w2,z2.sameBut hs hcc⟩
 obtain⟨e,n,ne,nf,d⟩:=I.pin p hp;refine⟨(hs.2 p.1 ?_).trans e,n,ne,nf,d⟩;intro q;rw [q,Ai] at e;have q':oc=p.2:=gJ e;exact d w' (by rw [<-q'];exact Yz)
def rY {M:Model}{A:Around}{E:z0b}{i:Nat}{x:Str}{v:V}{u:Value}{Q:Unit->182}(I:141)(hN:X.N.Nodup)(hi:X.N[i]?=some x)(hx:Loc X.env.scope x)(r:RelV v u)
  (h:∀s',Inv X ai (σ.set i (some v)) H s'->Q () s')(hf:X.fn x=true\/X.env.scope.names.lookup x=some .local:=by first | exact .inl rfl | exact .inr rfl | assumption):wpAny M A (storeName X.env x u) Q E s :=
 u7 I hN hi hx r (λs' I' _=>h s' I') hf
def Inv.Nc {s':Shared}{ch:z0q}(I:141)(ho:s'.os=s.os)(u:Un (EM X.stack) ch H H' s.heap s'.heap)(cw:m_ X.prog X.w H' s'.heap)(hg:AllBare s'.gens)
  (JJ:∀b∈ch,(b∈X.ex\/X.s₀.heap.objs.size<=b)/\b≠X.env.locals/\(∀x c,X.env.cells.lookup x=some c->c≠b)/\∀p∈X.pn++ai,p.1≠b):Inv X ai σ H' s':=by
 obtain⟨h',g',d',t',o'⟩:=s';have e:o'=s.os:=ho;subst e;exact I.call (g':=g') (t':=t') (d':=d') u cw hg JJ
end
abbrev XK:=Value->z0m->Hp->Prop
abbrev St:=List (Option V)
abbrev aE (a:Addr):Option V:=some (.ref a)
abbrev VK:=V->Hp->Prop
abbrev TE:=St->Hp->VK->Prop
abbrev TT:=St->Hp->(Bool->Hp->Prop)->Prop
abbrev TA:=St->Hp->(List V->Hp->Prop)->Prop
structure Ends where
 nx:St->Hp->Prop
 rt:VK
 bk:St->Hp->Prop:=λ_ _=>False
 ct:St->Hp->Prop:=λ_ _=>False
abbrev TS:=Ends->St->Hp->Prop
def EP (X:Cx)(ai:z0e)(σ:St)(Q:VK)(u:Value)(s':Shared):Prop:=∃v H',Inv X ai σ H' s'/\RelV v u/\Q v H'
def TP (X:Cx)(ai:z0e)(σ:St)(Q:Bool->Hp->Prop)(b:Bool)(s':Shared):Prop:=∃H',Inv X ai σ H' s'/\Q b H'
def AP (X:Cx)(ai:z0e)(σ:St)(Q:List V->Hp->Prop)(us:z0n)(s':Shared):Prop:=∃vs H',Inv X ai σ H' s'/\bH vs us/\Q vs H'
def SP (X:Cx)(ai:z0e)(D:Ends)(f:Flow)(s':Shared):Prop :=
 match f with
 | .next=>∃σ' H',Inv X ai σ' H' s'/\D.nx σ' H'
 | .brk=>∃σ' H',Inv X ai σ' H' s'/\D.bk σ' H'
 | .cont=>∃σ' H',Inv X ai σ' H' s'/\D.ct σ' H'
 | .ret u=>∃v σ' H',Inv X ai σ' H' s'/\RelV v u/\D.rt v H'
def PE (X:Cx)(e:Expr)(t:TE):Prop :=
 ∀(ai:z0e)(s:Shared)(σ:St)(H:Hp)(Q:VK),141->t σ H Q->wpAny 151 X.A (eval e X.env) (EP X ai σ Q) X.xe s
def PT (X:Cx)(e:Expr)(t:TT):Prop :=
 ∀(ai:z0e)(s:Shared)(σ:St)(H:Hp)(Q:Bool->Hp->Prop),141->t σ H Q->wpAny 151 X.A (isTrue e X.env (eval e X.env)) (TP X ai σ Q) X.xe s
def PW (X:Cx)(e:Expr)(t:TT):Prop :=
 ∀(whole:Sem Value)(ai:z0e)(s:Shared)(σ:St)(H:Hp)(Q:Bool->Hp->Prop),141->t σ H Q->wpAny 151 X.A (isTrue e X.env whole) (TP X ai σ Q) X.xe s
def PW.pt {X:Cx}{e:Expr}{t:TT}(h:PW X e t):PT X e t:=h _
def PA (X:Cx)(es:z0r)(t:TA):Prop :=
 ∀(pos:Pos)(ai:z0e)(s:Shared)(σ:St)(H:Hp)(Q:List V->Hp->Prop),141->t σ H Q->wpAny 151 X.A (spliced (backTo pos (starEach es X.env))) (AP X ai σ Q) X.xe s
def PS (X:Cx)(st:Stmt)(t:TS):Prop :=
 ∀(ai:z0e)(s:Shared)(σ:St)(H:Hp)(D:Ends),141->t D σ H->wpAny 151 X.A (exec st X.env) (SP X ai D) X.xe s
def Cj (X:Cx)(st:List Stmt)(t:TS):Prop :=
 ∀(ai:z0e)(s:Shared)(σ:St)(H:Hp)(D:Ends),141->t D σ H->wpAny 151 X.A (execs st X.env) (SP X ai D) X.xe s
def dC {α:Type}{t:Sem α}{Q Q':α->182}{M:Model}{A:Around}{E:z0b}{s:Shared}(h:wpAny M A t Q E s)(hQ:∀a s,Q a s->Q' a s):wpAny M A t Q' E s:=dS h hQ λ_ _ x=>x
section
variable {X:Cx}
def bin {a b:Expr}{ta tb:TE}(ha:PE X a ta)(hb:PE X b tb){ai:z0e}{s:Shared}{σ:St}{H:Hp}{R:V->V->Hp->Prop}(I:141)(h:ta σ H λx H1=>tb σ H1 λy H2=>R x y H2)
  {α:Type}{Q:α->182}{f:Value->Value->Sem α}
  (hf:∀v u s2 x y H2,Inv X ai σ H2 s2->RelV x v->RelV y u->R x y H2->wpAny 151 X.A (f v u) Q X.xe s2) :
  wpAny 151 X.A (eval a X.env) (λv s₁=>wpAny 151 X.A (eval b X.env) (λu s₂=>wpAny 151 X.A (f v u) Q X.xe s₂) X.xe s₁) X.xe s:=by
 refine dC (ha ai s σ H _ I h) λv s1 bI=>?_;obtain⟨x,H1,I1,r1,q1⟩:=bI;refine dC (hb ai s1 σ H1 _ I1 q1) λu s2 bI=>?_;obtain⟨y,H2,I2,r2,q2⟩:=bI;exact hf v u s2 x y H2 I2 r1 r2 q2
inductive Uo (o:Option (Option V))(R:V->Prop):Prop
|mk(v:V)(e:o=some (some v))(q:R v)
inductive XB (x:V)(R:Bool->Prop):Prop
|mk(c:Bool)(e:x=.bl c)(q:R c)
inductive XI1 (x:V)(R:Int->Prop):Prop
|mk(i:Int)(e:x=.int i)(q:R i)
inductive XI0 (x y:V)(R:Int->Int->Prop):Prop
|mk(i j:Int)(e:x=.int i)(e2:y=.int j)(q:R i j)
inductive XI2 (x y:V)(C:Int->Int->Prop)(R:Int->Int->Prop):Prop
|mk(i j:Int)(e:x=.int i)(e2:y=.int j)(c:C i j)(q:R i j)
inductive Ng (vs:List V)(R:V->List V->Prop):Prop
|mk(v:V)(r:List V)(e:vs=v::r)(q:R v r)
inductive Up (v:V)(S:Addr->List V->Prop) (n:Nat)(R:List V->Prop):Prop
|mk(a:Addr)(xs:List V)(e:v=.ref a)(s:S a xs)(l:xs.length=n)(q:R xs)
inductive V4 (x:V)(S:Addr->Prop)(R:Addr->Prop):Prop
|mk(a:Addr)(e:x=.ref a)(s:S a)(q:R a)
inductive XSq (x:V)(S:Addr->List V->Prop)(R:List V->Prop):Prop
|mk(a:Addr)(xs:List V)(e:x=.ref a)(s:S a xs)(q:R xs)
inductive XC2 (S:Addr->List V->Prop)(x y:V)(R:List V->List V->Prop):Prop
|mk(a b:Addr)(xs ys:List V)(e:x=.ref a)(e2:y=.ref b)(s:S a xs)(s2:S b ys)(z:xs.length+ys.length<=sizeLine)(q:R xs ys)
inductive XRg (vs:List V)(R:Int->Prop):Prop
|mk(j:Int)(e:vs=[.int j])(l:-(2 ^ 62)<=j)(u:j < 2 ^ 62)(q:R j)
inductive XEn (vs:List V)(S:Addr->List V->Prop)(R:Addr->Prop):Prop
|mk(a:Addr)(xs:List V)(e:vs=[.ref a])(s:S a xs)(q:R a)
inductive PL (xs:List V)(S:Addr->List V->Prop)(R:List V->Prop):Prop
|mk(p:Addr)(ys:List V)(e:xs=[.ref p])(s:S p ys)(q:R ys)
def gN (i:Nat):TE:=λσ H Q=>Uo σ[i]? λv=>Q v H
def tC (v:V):TE:=λ_ H Q=>Q v H
def N9 {i:Nat}{x:Str}{pos:Pos}(hN:X.N[i]?=some x)(hv:V5 X.env.scope x)(hd:(x == ("__debug__":Str))=false:=by decide)(ym:(x == ("__classdict__":Str))=false:=by decide):PE X (.Name x pos) (gN i):=by
 intro ai s σ H Q I h;obtain⟨v,e,h⟩:=h;obtain⟨m,hn,hl⟩:=I.loc;obtain⟨u,r,l⟩:=hl i x v hN e hv;have fin:EP X ai σ Q u s:=⟨v,H,I,r,h⟩;rcases l with ⟨hk,hm⟩ | ⟨hk,c,hc,jE⟩
 .exact wpAny_Name (wz I.ok.kind hk hn hm fin) hd
 rcases hk with hk | hk
 .exact wpAny_Name (wpAny_loadName_cell I.ok.kind hk hc jE fin) hd
 exact wpAny_Name (wpAny_loadName_free I.ok.kind hk hc jE fin ym) hd
def av {i j pos}:PE X (.Constant (.int i) j pos) (tC (.int i)):=λ_ _ _ H _ I h=>wpAny_Constant_int ⟨.int i,H,I.tok _,157,h⟩
def fY {b j pos}:PE X (.Constant (.bool b) j pos) (tC (.bl b)):=λ_ _ _ H _ I h=>Constant_bool ⟨.bl b,H,I,rfl,h⟩
def G8 {j pos}:PE X (.Constant .none j pos) (tC .fu):=λ_ _ _ H _ I h=>Constant_none ⟨.fu,H,I,rfl,h⟩
def cq {x j pos}:PE X (.Constant (.str x) j pos) (tC (.str x)):=λ_ _ _ H _ I h=>Calls.Constant_str ⟨.str x,H,I.tok _,157,h⟩
def Gl (X:Cx)(x:Str):Prop:=X.env.kindOf x=some .globalImplicit
def xM {E:z0b}{ai:z0e}{s:Shared}{σ:St}{H:Hp}{x:Str}{u:Value}{pos:Pos}{Q:z0b}(I:141)(hg:Gl X x)(hm:X.mg x=some u)(h:Q u s)
  (hd:(x == ("__debug__":Str))=false:=by decide):wpAny 151 X.A (eval (.Name x pos) X.env) Q E s :=
 Calls.Name_function_global I.ok.kind hg (Calls.loadGlobal_global (by rw [I.ok.glob];exact I.mod.glob.keeps I.bk) hm h) hd
def jU {E:z0b}{ai:z0e}{s:Shared}{σ:St}{H:Hp}{x:Str}{u:Value}{pos:Pos}{Q:z0b}(I:141)(hg:Gl X x)(hm:X.mg x=none)(hv:bootBuiltins x=some u)(h:Q u s)
  (hn:x ≠ "__name__" := by decide)(hd:(x == ("__debug__":Str))=false:=by decide):wpAny 151 X.A (eval (.Name x pos) X.env) Q E s:=by
 obtain⟨mb,h1,h2⟩:=I.mod.blt;exact Calls.Name_function_global I.ok.kind hg (Calls.loadGlobal_builtin (by rw [I.ok.glob];exact I.mod.glob.keeps I.bk) hm (by rw [I.ok.blt];exact h1.keeps I.bk) ((h2 x hn).trans hv) h) hd
def Kv {x:Str}{v:V}{u:Value}{pos:Pos}(hg:Gl X x)(hm:X.mg x=some u)(r:RelV v u)(hd:(x == ("__debug__":Str))=false:=by decide):PE X (.Name x pos) (tC v) :=
 λ_ _ _ H _ I h=>xM I hg hm ⟨v,H,I,r,h⟩ hd
def KA {x:Str}{v:V}{u:Value}{pos:Pos}(hg:Gl X x)(hm:X.mg x=none)(hv:bootBuiltins x=some u)(r:RelV v u)(hn:x ≠ "__name__" := by decide)(hd:(x == ("__debug__":Str))=false:=by decide):PE X (.Name x pos) (tC v) :=
 λ_ _ _ H _ I h=>jU I hg hm hv ⟨v,H,I,r,h⟩ hn hd
variable {a b:Expr}{ta tb:TE}{pos:Pos}
def PC (X:Cx)(op:CmpOp)(a b:Expr)(t:TE):Prop :=
 ∀(ai:z0e)(s:Shared)(σ:St)(H:Hp)(Q:VK),141->t σ H Q ->
  wpAny 151 X.A (eval a X.env) (λv s₁=>wpAny 151 X.A (eval b X.env) (λu s₂=>wpAny 151 X.A (compareOp op v u) (EP X ai σ Q) X.xe s₂) X.xe s₁) X.xe s
def yY (b:Expr){op:CmpOp}(h:op≠.In)(h2:op≠.NotIn):behindInMarks op b=false:=by
 have e1:(op == CmpOp.In)=false:=by cases op <;> first | rfl | exact absurd rfl h
 have e2:(op == CmpOp.NotIn)=false:=by cases op <;> first | rfl | exact absurd rfl h2
 cases b <;> simp [behindInMarks,e1,e2]
def WE (ta:TE):TE:=λσ H Q=>ta σ H λx H1=>Q (.bl (decide (x=.fu))) H1
def RelV.HV {x:V}{v:Value}(r:RelV x v):(v == Value.none)=decide (x=.fu):=by
 cases x with
 | fu=>cases r;rfl
 | bl _=>cases r;rfl
 | int _=>obtain⟨t,rfl⟩:=r;rfl
 | str _=>obtain⟨t,rfl⟩:=r;rfl
 | E4 _=>obtain⟨t,rfl⟩:=r;rfl
 | Tz _=>obtain⟨t,rfl⟩:=r;rfl
 | ref _=>cases r;rfl
 | ty _=>cases r;rfl
def N_ {j pos'}(ha:PE X a ta):PC X .Is a (.Constant .none j pos') (WE ta):=by
 intro ai s σ H Q I h;refine dC (ha ai s σ H _ I h) λv s1 bI=>?_;obtain⟨x,H1,I1,r1,q1⟩:=bI;exact Constant_none (is_none_gen ⟨.bl _,H1,I1,by rw [r1.HV];rfl,q1⟩)
def tB (t:TE):TT:=λσ H Q=>t σ H λx H1=>XB x λc=>Q c H1
def xD {op:CmpOp}{t:TE}(h:PC X op a b t)(h1:behindInMarks op b=false:=by first | exact yY _ nofun nofun | rfl):PE X (.Compare a [op] [b] pos) t:=λai s σ H Q I hw=>wpAny_Compare1 (h ai s σ H Q I hw) h1
def fC {op:CmpOp}{t:TE}(h:PC X op a b t)(h1:behindInMarks op b=false:=by first | exact yY _ nofun nofun | rfl):PT X (.Compare a [op] [b] pos) (tB t):=by
 intro ai s σ H Q I hw;refine wpAny_isTrue_Compare1 (dC (h ai s σ H _ I hw) λv s1 h1=>dC h1 λu s2 h2=>dC h2 λc s3 bI=>?_) h1;obtain⟨x,H1,I1,r1,q1⟩:=bI;obtain⟨d,rfl,q⟩:=q1;cases r1;exact mD ⟨H1,I1,q⟩
def gW {e:Expr}{t:TE}(h:PE X e t)(he:∀whole,isTrue e X.env whole=(do let v <-whole;standAt e.pos;holding [v] (truthy v)):=by intro _;rfl):PT X e (tB t):=by
 intro ai s σ H Q I hw;refine isTrue_plain (dC (h ai s σ H _ I hw) λv s1 bI=>?_) (he _);obtain⟨x,H1,I1,r1,q1⟩:=bI;obtain⟨d,rfl,q⟩:=q1;cases r1;exact mD ⟨H1,I1,q⟩
variable {tA UQ:TT}{rest:z0r}
def WK (t u:TT):TT:=λσ H Q=>t σ H λc H1=>if c=true then u σ H1 Q else Q false H1
def tOr (t u:TT):TT:=λσ H Q=>t σ H λc H1=>if c=true then Q true H1 else u σ H1 Q
def WC (t:TT):TT:=λσ H Q=>t σ H λc H1=>Q (!c) H1
def jR (ha:PT X a tA):PW X (.BoolOp .And [a] pos) tA:=by
 intro wh ai s σ H Q I h;refine isTrue_and (dC (ha ai s σ H Q I h) λc s1 e=>?_);cases c with
 | true=>exact isTrue_and_nil e
 | false=>exact e
def GU (ha:PT X a tA):PW X (.BoolOp .Or [a] pos) tA:=by
 intro wh ai s σ H Q I h;refine isTrue_or (dC (ha ai s σ H Q I h) λc s1 e=>?_);cases c with
 | false=>exact isTrue_or_nil e
 | true=>exact e
def mI (ha:PT X a tA)(hb:PW X (.BoolOp .And (b::rest) pos) UQ):PW X (.BoolOp .And (a::b::rest) pos) (WK tA UQ):=by
 intro wh ai s σ H Q I h;refine isTrue_and (dC (ha ai s σ H _ I h) λc s1 bI=>?_);obtain⟨H1,I1,q1⟩:=bI;cases c with
 | true=>exact hb wh ai s1 σ H1 Q I1 q1
 | false=>exact⟨H1,I1,q1⟩
def GX (ha:PT X a tA)(hb:PW X (.BoolOp .Or (b::rest) pos) UQ):PW X (.BoolOp .Or (a::b::rest) pos) (tOr tA UQ):=by
 intro wh ai s σ H Q I h;refine isTrue_or (dC (ha ai s σ H _ I h) λc s1 bI=>?_);obtain⟨H1,I1,q1⟩:=bI;cases c with
 | true=>exact⟨H1,I1,q1⟩
 | false=>exact hb wh ai s1 σ H1 Q I1 q1
def G0 (ha:PT X a tA):PT X (.UnaryOp .Not a pos) (WC tA):=by
 intro ai s σ H Q I h;exact isTrue_not (ha ai s σ H (λc H1=>Q (!c) H1) I h)
def Rh (ta tb:TE):TE:=λσ H Q=>ta σ H λx H1=>XB x λc=>if c=true then tb σ H1 Q else Q (.bl false) H1
def WB (ta tb:TE):TE:=λσ H Q=>ta σ H λx H1=>XB x λc=>if c=true then Q (.bl true) H1 else tb σ H1 Q
def o8 {op}{t:TE}(h:PE X a t):PE X (.BoolOp op [a] pos) t:=λai s σ H Q I hw=>BoolOp_one (h ai s σ H Q I hw)
def sQ (ha:PE X a ta)(hb:PE X (.BoolOp .And (b::rest) pos) tb):PE X (.BoolOp .And (a::b::rest) pos) (Rh ta tb):=by
 intro ai s σ H Q I h;refine BoolOp_and (dC (ha ai s σ H _ I h) λv s1 bI=>?_);obtain⟨x,H1,I1,r1,q1⟩:=bI;obtain⟨c,rfl,q1⟩:=q1;cases r1;refine mD ?_;cases c with
 | true=>exact hb ai s1 σ H1 Q I1 q1
 | false=>exact⟨.bl false,H1,I1,rfl,q1⟩
def Mu (ha:PE X a ta)(hb:PE X (.BoolOp .Or (b::rest) pos) tb):PE X (.BoolOp .Or (a::b::rest) pos) (WB ta tb):=by
 intro ai s σ H Q I h;refine BoolOp_or (dC (ha ai s σ H _ I h) λv s1 bI=>?_);obtain⟨x,H1,I1,r1,q1⟩:=bI;obtain⟨c,rfl,q1⟩:=q1;cases r1;refine mD ?_;cases c with
 | false=>exact hb ai s1 σ H1 Q I1 q1
 | true=>exact⟨.bl true,H1,I1,rfl,q1⟩
def tIf (t:TT)(ta tb:TE):TE:=λσ H Q=>t σ H λc H1=>if c=true then ta σ H1 Q else tb σ H1 Q
def kQ {c:Expr}(hc:PT X c tA)(ha:PE X a ta)(hb:PE X b tb):PE X (.IfExp c a b pos) (tIf tA ta tb):=by
 intro ai s σ H Q I h;refine wpAny_IfExp (dC (hc ai s σ H _ I h) λd s1 bI=>?_);obtain⟨H1,I1,q1⟩:=bI;cases d with
 | true=>exact ha ai s1 σ H1 Q I1 q1
 | false=>exact hb ai s1 σ H1 Q I1 q1
end
def aI (K:bp)(H:Hp)(a:Addr)(xs:List V):Prop :=
 Rd H a (.lst xs) \/
  ∃(o:Obj)(aV:z0l) (n:Nat),K.lookup a=some o/\o.cls=.type "list" /\ o.dict=none/\o.data=.seq aV n/\aV.size<=sizeLine/\bH xs aV.toList
def aZ (K:bp)(H:Hp)(a:Addr)(xs:List V):Prop :=
 Rd H a (.tup xs) \/
  ∃(o:Obj)(aV:z0l) (n:Nat),K.lookup a=some o/\o.cls=.type "tuple" /\ o.data=.seq aV n/\aV.size<=sizeLine/\bH xs aV.toList
def aal:Value->Option V
 | .none=>some .fu
 | .bool b=>some (.bl b)
 | .int i _=>some (.int i)
 | .str x _=>some (.str x)
 | .bytes b _=>some (.E4 b)
 | .float b _=>some (.Tz b)
 | .ref a=>some (.ref a)
 | .type n=>some (.ty n)
 | _=>none
def RelV.abs {x:V}{u:Value}(r:RelV x u):aal u=some x:=by
 cases x with
 | fu=>cases r;rfl
 | bl _=>cases r;rfl
 | int _=>obtain⟨t,rfl⟩:=r;rfl
 | str _=>obtain⟨t,rfl⟩:=r;rfl
 | E4 _=>obtain⟨t,rfl⟩:=r;rfl
 | Tz _=>obtain⟨t,rfl⟩:=r;rfl
 | ref _=>cases r;rfl
 | ty _=>cases r;rfl
def RelV.inj {x y:V}{u:Value}(r:RelV x u)(q:RelV y u):x=y:=gJ (r.abs.symm.trans q.abs)
theorem bH.inj {xs ys:List V}{us:z0n}(h:bH xs us)(g:bH ys us):xs=ys:=by
 induction h generalizing ys with
 | nil=>cases g;rfl
 | cons r t ih=>cases g with | cons r' t'=>rw [r.inj r',ih t']
section
variable {X:Cx}{ai:z0e}{σ:St}{H:Hp}{s:Shared}{a:Addr}{xs ys:List V}
def aI.of {K:bp}(h:H a=some (.lst xs)):aI K H a xs:=.inl (.inl h)
def aZ.of {K:bp}(h:H a=some (.tup xs)):aZ K H a xs:=.inl (.inl h)
def Inv.list (I:141)(h:aI X.K H a xs):∃aV:z0n,bH xs aV/\PlainL s.heap a aV.toArray/\xs.length<=sizeLine:=by
 rcases h with h | ⟨o,aV,n,hk,hc,hd,hs,hz,r⟩
 .obtain⟨z,aV,n,r,e⟩:=h.ok I.cw;exact⟨aV,r,⟨_,n,e,rfl,rfl,rfl⟩,z⟩
 refine⟨aV.toList,r,⟨o,n,I.zo a o hk,hc,hd,by simpa using hs⟩,?_⟩;have e:=r.length;simp only [q_] at e;omega
def Inv.tuple (I:141)(h:aZ X.K H a xs):∃aV:z0n,bH xs aV/\IsTup s.heap a aV.toArray/\xs.length<=sizeLine:=by
 rcases h with h | ⟨o,aV,n,hk,hc,hs,hz,r⟩
 .obtain⟨z,aV,r,p⟩:=h.ok I.cw;exact⟨aV,r,p,z⟩
 refine⟨aV.toList,r,⟨o,I.zo a o hk,hc,n,by simpa using hs⟩,?_⟩;have e:=r.length;simp only [q_] at e;omega
def Inv.sY (I:141)(h:aI X.K H a xs)(h':aI X.K H a ys):xs=ys:=by
 obtain⟨aV,r,⟨o,n,e,_,_,d⟩,_⟩:=I.list h;obtain⟨uE,r',⟨o',n',e',_,_,d'⟩,_⟩:=I.list h';rw [e] at e';cases e';rw [d] at d';injection d' with d1 _;have:aV=uE:=by simpa using congrArg Array.toList d1
 subst this;exact r.inj r'
def Inv.jr (I:141)(h:aZ X.K H a xs)(h':aZ X.K H a ys):xs=ys:=by
 obtain⟨aV,r,⟨o,e,_,n,d⟩,_⟩:=I.tuple h;obtain⟨uE,r',⟨o',e',_,n',d'⟩,_⟩:=I.tuple h';rw [e] at e';cases e';rw [d] at d';injection d' with d1 _;have:aV=uE:=by simpa using congrArg Array.toList d1
 subst this;exact r.inj r'
end
abbrev Cx.uy (X:Cx)(E:z0b):Cx:={ X with xe:=E }
abbrev Cx.KW (X:Cx):Cx:=X.uy λ_ _=>False
theorem Cx.Ok.uy {X:Cx}(ok:X.Ok)(E:z0b):(X.uy E).Ok :=
 ⟨ok.mod,ok.kind,ok.glob,ok.blt,ok.above,ok.inj,ok.has,ok.Ud,ok.hd,ok.frames,ok.UT,ok.Qz,ok.bs,ok.LR,ok.HW,ok.ER,ok.qz,ok.O4⟩
def Cx.Ok.kI {X:Cx}{E:z0b}(ok:(X.uy E).Ok):X.Ok :=
 ⟨ok.mod,ok.kind,ok.glob,ok.blt,ok.above,ok.inj,ok.has,ok.Ud,ok.hd,ok.frames,ok.UT,ok.Qz,ok.bs,ok.LR,ok.HW,ok.ER,ok.qz,ok.O4⟩
section
variable {X:Cx}{ai:z0e}{σ:St}{H:Hp}{s:Shared}{E:z0b}
theorem Inv.uy (I:141)(E:z0b):Inv (X.uy E) ai σ H s:=⟨I.ok.uy E,I.os,I.bare,I.base,I.loc,I.cell,I.free,I.mh,I.pin,I.cw,I.len⟩
theorem Inv.kI (I:Inv (X.uy E) ai σ H s):141:=⟨I.ok.kI,I.os,I.bare,I.base,I.loc,I.cell,I.free,I.mh,I.pin,I.cw,I.len⟩
theorem SP.kI {D:Ends}{f:Flow}{s':Shared}(h:SP (X.uy E) ai D f s'):SP X ai D f s':=by
 cases f with
 | next=>obtain⟨σ',H',I,q⟩:=h;exact⟨σ',H',I.kI,q⟩
 | brk=>obtain⟨σ',H',I,q⟩:=h;exact⟨σ',H',I.kI,q⟩
 | cont=>obtain⟨σ',H',I,q⟩:=h;exact⟨σ',H',I.kI,q⟩
 | ret u=>obtain⟨v,σ',H',I,r,q⟩:=h;exact⟨v,σ',H',I.kI,r,q⟩
theorem Cj.KW {st:List Stmt}{t:TS}(h:Cj X.KW st t):Cj X st t:=λai s σ H D I hw =>
 dS (h ai s σ H D (I.uy _) hw) (λ_ _ q=>q.kI) λ_ _ z=>False.elim z
end
section
variable {X:Cx}{st:Stmt}{rest:List Stmt}{t u:TS}{e:Expr}{te:TE}{pos:Pos}
def Q4:TS:=λD σ H=>D.nx σ H
def Nw (t u:TS):TS:=λD σ H=>t { D with nx:=u D } σ H
def bf:Cj X [] Q4:=λ_ _ σ H _ I h=>wpAny_execs_nil ⟨σ,H,I,h⟩
def ag (h1:PS X st t)(h2:Cj X rest u):Cj X (st::rest) (Nw t u):=by
 intro ai s σ H D I h;refine wpAny_execs_cons (dC (h1 ai s σ H { D with nx:=u D } I h) λf s1 q=>?_);cases f with
 | next =>
  obtain⟨σ',H',I',q⟩:=q;exact h2 ai s1 σ' H' D I' q
 | ret v=>exact q
 | brk=>exact q
 | cont=>exact q
def ao (h1:PS X st t):Cj X [st] t:=by
 intro ai s σ H D I h;refine wpAny_execs_cons (dC (h1 ai s σ H D I h) λf s1 q=>?_);cases f with
 | next=>exact wpAny_execs_nil q
 | ret v=>exact q
 | brk=>exact q
 | cont=>exact q
def NA:TS:=λD σ H=>D.bk σ H
def G1:PS X (.Break pos) NA:=λ_ _ σ H _ I h=>wpAny_Break ⟨σ,H,I,h⟩
def Inv.quiet {ai:z0e}{σ:St}{H:Hp}{s:Shared}(I:141):interactive X.env=false:=by simp [interactive,I.ok.kind]
def Q_ (te:TE):TS:=λD σ H=>te σ H λ_ H1=>D.nx σ H1
def cU (he:PE X e te)(hs:swapsWith e none pos.line X.env=pure false:=by rfl):PS X (.Expr e pos) (Q_ te):=by
 intro ai s σ H D I h;refine wpAny_Expr_any (dC (he ai s σ H _ I h) λv s1 bI=>?_) I.quiet hs;obtain⟨x,H1,I1,r1,q1⟩:=bI;exact⟨σ,H1,I1,q1⟩
def WA (te:TE):TS:=λD σ H=>te σ H D.rt
def bw (he:PE X e te):PS X (.Return (some e) pos) (WA te):=by
 intro ai s σ H D I h;refine wpAny_Return_some (dC (he ai s σ H _ I h) λv s1 bI=>?_);obtain⟨x,H1,I1,r1,q1⟩:=bI;exact⟨x,σ,H1,I1,r1,q1⟩
def WG (c:TT)(t u:TS):TS:=λD σ H=>c σ H λb H1=>if b=true then t D σ H1 else u D σ H1
def cy {c:Expr}{a b:List Stmt}{tc:TT}(hc:PT X c tc)(ha:Cj X a t)(hb:Cj X b u):PS X (.If c a b pos) (WG tc t u):=by
 intro ai s σ H D I h;refine wpAny_If (dC (hc ai s σ H _ I h) λd s1 bI=>?_);obtain⟨H1,I1,q1⟩:=bI;cases d with
 | true=>exact ha ai s1 σ H1 D I1 q1
 | false=>exact hb ai s1 σ H1 D I1 q1
def Nx:TS:=λ_ _ _=>False
def iU:PS X st Nx:=λ_ _ _ _ _ _ h=>h.elim
end
abbrev TG:=V->St->Hp->(St->Hp->Prop)->Prop
abbrev Nh:=List V->St->Hp->(St->Hp->Prop)->Prop
def PG (X:Cx)(target:Expr)(t:TG):Prop :=
 ∀(ai:z0e)(s:Shared)(σ:St)(H:Hp)(v:V)(u:Value)(Q:St->Hp->Prop),141->RelV v u->t v σ H Q ->
  wpAny 151 X.A (assign target X.env u) (λ_ s'=>∃σ' H',Inv X ai σ' H' s'/\Q σ' H') X.xe s
def Uw (X:Cx)(ts:z0r)(t:Nh):Prop :=
 ∀(ai:z0e)(s:Shared)(σ:St)(H:Hp)(vs:List V)(us:z0n)(Q:St->Hp->Prop),141->bH vs us->t vs σ H Q ->
  wpAny 151 X.A (assignInOrder ((assignEach ts X.env).map (·.2)) us) (λ_ s'=>∃σ' H',Inv X ai σ' H' s'/\Q σ' H') X.xe s
abbrev V6:=V->V->Hp->VK->Prop
def PIp (X:Cx)(op:Operator)(t:V6):Prop :=
 ∀(ai:z0e)(s:Shared)(σ:St)(H:Hp)(x y:V)(v u:Value)(Q:VK),141->RelV x v->RelV y u->t x y H Q ->
  wpAny 151 X.A (inplaceOp op v u) (EP X ai σ Q) X.xe s
section
variable {X:Cx}{pos:Pos}
def dF (i:Nat):TG:=λv σ H Q=>Q (σ.set i (some v)) H
def aq {i:Nat}{x:Str}(hN:X.N.Nodup)(hi:X.N[i]?=some x)(hx:Loc X.env.scope x)(hf:X.fn x=true\/X.env.scope.names.lookup x=some .local:=by first | exact .inl rfl | exact .inr rfl | assumption):PG X (.Name x pos) (dF i):=by
 intro ai s σ H v u Q I r h;exact wpAny_assign_Name (rY I hN hi hx r (λs' I'=>⟨_,H,I',h⟩) hf)
def BV:Nh:=λvs σ H Q=>vs=[]/\Q σ H
def iZ (t:TG)(u:Nh):Nh:=λvs σ H Q=>Ng vs λv r=>t v σ H λσ' H'=>u r σ' H' Q
def bE:Uw X [] BV:=by
 intro ai s σ H vs us Q I r h;obtain⟨e,h⟩:=h;subst e;cases r;exact assignInOrder_nil ⟨σ,H,I,h⟩
def az {e:Expr}{es:z0r}{t:TG}{u:Nh}(h1:PG X e t)(h2:Uw X es u)
  (hs:(assignEach (e::es) X.env).map (·.2)=assign e X.env::(assignEach es X.env).map (·.2):=by rfl):Uw X (e::es) (iZ t u):=by
 intro ai s σ H vs us Q I r h;obtain⟨v,vr,e1,h⟩:=h;subst e1;cases r with
 | cons r rr =>
  rw [hs];refine assignInOrder_cons (dC (h1 ai s σ H _ _ _ I r h) λ_ s1 bI=>?_);obtain⟨σ1,H1,I1,q1⟩:=bI;exact h2 ai s1 σ1 H1 _ _ Q I1 rr q1
def zz (K:bp) (n:Nat)(t:Nh):TG:=λv σ H Q=>Up v (aZ K H) n λxs=>t xs σ H Q
def gu {es:z0r}{k:Nat}{t:Nh}{n:Nat}(hc:X.calm=true)(h:Uw X es t)
  (hn:(assignEach es X.env).length=n:=by rfl)(yl:(assignEach es X.env).findIdx? 87=none:=by rfl):PG X (.Tuple es k pos) (zz X.K n t):=by
 intro ai s σ H v u Q I r hw;obtain⟨a,xs,e1,hq,hl,hw⟩:=hw;subst e1;cases r;obtain⟨aV,rv,ht,hz⟩:=I.tuple hq;refine assign_Tuple_tuple (I.ok.hd hc) ht (by simp [hn,<-hl,rv.length]) yl λh' hx=>?_;have I1:Inv X ai σ H { s with heap:=h' }:=I.kept (t':=s.toks) λb o e=>hx b o (bV (bD e)) e;exact h ai _ σ H xs _ Q I1 (by simpa using rv) hw
def Rg (te:TE)(g:TG):TS:=λD σ H=>te σ H λx H1=>g x σ H1 D.nx
def aA {i:Nat}{x:Str}{e:Expr}{te:TE}{pos':Pos}(hN:X.N.Nodup)(hi:X.N[i]?=some x)(hx:Loc X.env.scope x)(he:PE X e te)(hs:swapsWith e (some (.Name x pos')) pos.line X.env=pure false:=by rfl)(hf:X.fn x=true\/X.env.scope.names.lookup x=some .local:=by first | exact .inl rfl | exact .inr rfl | assumption) :
  PS X (.Assign [.Name x pos'] e pos) (Rg te (dF i)):=by
 intro ai s σ H D I h;refine wpAny_Assign_Name (dC (he ai s σ H _ I h) λv s1 bI=>?_) hs;obtain⟨y,H1,I1,r1,q1⟩:=bI;exact rY I1 hN hi hx r1 (λs2 I2=>⟨_,H1,I2,q1⟩) hf
def WJ (i:Nat)(te:TE)(ti:V6):TS:=λD σ H=>∃x,σ[i]?=some (some x)/\te σ H λy H1=>ti x y H1 λz H2=>D.nx (σ.set i (some z)) H2
def N8 {i:Nat}{x:Str}{e:Expr}{te:TE}{op:Operator}{ti:V6}{pos':Pos}(hN:X.N.Nodup)(hi:X.N[i]?=some x)(hx:Loc X.env.scope x)(he:PE X e te)(ho:PIp X op ti)(hf:X.fn x=true\/X.env.scope.names.lookup x=some .local:=by first | exact .inl rfl | exact .inr rfl | assumption) :
  PS X (.AugAssign (.Name x pos') op e pos) (WJ i te ti):=by
 intro ai s σ H D I h;obtain⟨v,e1,h⟩:=h;obtain⟨m,hn,hl⟩:=I.loc;have vis:V5 X.env.scope x:=by rcases hx with k | k;exact .inl k;exact .inr (.inl k)
 obtain⟨u,r,l⟩:=hl i x v hi e1 vis;refine wpAny_AugAssign_Name ?_;have go:wpAny 151 X.A (eval e X.env) (λw s₂=>wpAny 151 X.A (inplaceOp op u w) (λr s₃=>wpAny 151 X.A (storeName X.env x r) (λ_=>SP X ai D .next) X.xe s₃) X.xe s₂) X.xe s:=by
  refine dC (he ai s σ H _ I h) λw s1 bI=>?_;obtain⟨y,H1,I1,r1,q1⟩:=bI;refine dC (ho ai s1 σ H1 v y u w _ I1 r r1 q1) λz s2 bI=>?_;obtain⟨zv,H2,I2,r2,q2⟩:=bI;exact rY I2 hN hi hx r2 (λs3 I3=>⟨_,H2,I3,q2⟩) hf
 rcases l with ⟨hk,hm⟩ | ⟨hk,c,hc,jE⟩
 .exact wz I.ok.kind hk hn hm go
 rcases hk with hk | hk
 .exact wpAny_loadName_cell I.ok.kind hk hc jE go
 rcases hx with k | k
 .have:X.env.scope.names.lookup x=some .free:=hk;rw [k] at this;cases this
 have:X.env.scope.names.lookup x=some .free:=hk;rw [k] at this;cases this
def ipI (f:Int->Int->Int):V6:=λx y H Q=>∃i j,x=.int i/\y=.int j/\Q (.int (f i j)) H
def OE:PIp X .Add (ipI λi j=>i+j):=by
 intro ai s σ H x y v u Q I r1 r2 h;obtain⟨i,j,e1,e2,q⟩:=h;subst e1;subst e2;obtain⟨t,rfl⟩:=r1;obtain⟨t',rfl⟩:=r2;exact iadd_int ⟨.int _,H,I.tok _,157,q⟩
end
section
variable {X:Cx}{pos:Pos}
def Nu (c:TT)(tb:TS):TS:=λD σ H=>∃W:Nat->St->Hp->Prop,(∃m,W m σ H)/\∀m σ H,W m σ H ->
 c σ H λb H1=>if b=true then ∃N:St->Hp->Prop,(∀σ' H',N σ' H'->∃m',m' < m/\W m' σ' H')/\tb { D with nx:=N,ct:=N,bk:=D.nx } σ H1 else D.nx σ H1
def iw {c:Expr}{body:List Stmt}{tc:TT}{tb:TS}(hp:PassesOwn 151 X.A X.env X.xe)(hc:PT X c tc)(hb:Cj X body tb):PS X (.While c body [] pos) (Nu tc tb):=by
 intro ai s σ H D I h;obtain⟨W,⟨m0,w0⟩,turn⟩:=h;refine wpAny_While (codeAny_whileLoop (λn s'=>∃σ' H',Inv X ai σ' H' s'/\W n σ' H') ?_ m0 ⟨σ,H,I,w0⟩);rintro n s1 ⟨σ1,H1,I1,w1⟩;refine mw hp (dC (hc ai s1 σ1 H1 _ I1 (turn n σ1 H1 w1)) λb s2 bI=>?_);obtain⟨H2,I2,q2⟩:=bI;cases b with
 | true =>
  obtain⟨N,hN,q2⟩:=q2;rw [aw rfl];refine mw hp (dC (hb ai s2 σ1 H2 _ I2 q2) λf s3 q3=>?_);cases f with
  | next =>
   obtain⟨σ3,H3,I3,n3⟩:=q3;obtain⟨m',hm,w3⟩:=hN σ3 H3 n3;exact⟨m',hm,σ3,H3,I3,w3⟩
  | cont =>
   obtain⟨σ3,H3,I3,n3⟩:=q3;obtain⟨m',hm,w3⟩:=hN σ3 H3 n3;exact⟨m',hm,σ3,H3,I3,w3⟩
  | brk=>exact q3
  | ret v=>exact q3
 | false =>
  rw [au cX];exact wpAny_execs_nil ⟨σ1,H2,I2,q2⟩
end
structure It where
 go:Nat->Hp->Prop
 lV:Nat->Hp->V->Hp->Prop
 stop:Nat->Hp->Prop
def yk (X:Cx)(ai:z0e)(H:Hp)(b:Addr):Prop :=
 H b=none/\b≠X.env.locals/\b∉X.fs/\(b∈X.ex\/X.s₀.heap.objs.size<=b)/\(∀x c,X.env.cells.lookup x=some c->c≠b)/\∀p∈X.pn++ai,p.1≠b
def Inv.xR {X:Cx}{ai:z0e}{σ:St}{H H':Hp}{s:Shared}{b:Addr}(I:141)(hb:s.heap.objs.size<=b)(hn:H' b=none):yk X ai H' b:=by
 refine⟨hn,lP (gy I.lt hb),I.Xq hb,.inr (fJ I.sz hb),λx c e z=>?_,λp hp z=>?_⟩
 .obtain⟨v,q⟩:=I.cell x c e;exact absurd (gy q.lt (by rw [z];exact hb)) (lR _)
 exact absurd (gy (bD (I.pin p hp).1) (by rw [z];exact hb)) (lR _)
structure Turn (P:Program)(w:World)(K:bp)(tg:Expr)(J:It)(fp:z0q)(it:Addr)(tn:Nat->Heap->Prop):Prop where
 mem:it∈fp
 obj:∀i h,tn i h->∀b∈fp,∃o,h.get? b=some o/\∀v,o.data≠.cell v
 keep:∀i h h',tn i h->(∀b∈fp,∀o,h.get? b=some o->h'.get? b=some o)->tn i h'
 item:∀(X:Cx),X.prog=P->X.w=w->X.K=K->X.calm=true->∀(i:Nat)(ai:z0e)(s:Shared)(σ:St)(H:Hp)(E:z0b),141->(∀b∈fp,yk X ai H b)->tn i s.heap->J.go i H ->
  wpAny (model P w) X.A (pyNext (.ref it)) (λr s1=>∃u,r=some u /\
   wpAny (model P w) X.A (letOwnedTupleGo tg (.ref it) u) (λ_ s2=>∃x H',Inv X ai σ H' s2/\RelV x u/\J.lV i H x H'/\tn (i+1) s2.heap/\∀b∈fp,H' b=none) E s1) E s
 done:∀(X:Cx),X.prog=P->X.w=w->X.K=K->X.calm=true->∀(i:Nat)(ai:z0e)(s:Shared)(σ:St)(H:Hp)(E:z0b),141->(∀b∈fp,yk X ai H b)->tn i s.heap->J.stop i H ->
  wpAny (model P w) X.A (pyNext (.ref it)) (λr s1=>r=none/\Inv X ai σ H s1) E s
 self:∀(A:Around) (i:Nat)(s:Shared)(Q:z0b)(E:z0b),tn i s.heap->Q (.ref it) s->wpAny (model P w) A (pyIter (.ref it)) Q E s
abbrev TI:=St->Hp->(It->Hp->Prop)->Prop
def PIE (X:Cx)(ai:z0e)(σ:St)(tg:Expr)(R:It->Hp->Prop)(Ve:Value)(s2:Shared):Prop :=
 ∃(it:Addr)(fp:z0q)(tn:Nat->Heap->Prop)(J:It)(H':Hp),Ve=.ref it/\Inv X ai σ H' s2/\Turn X.prog X.w X.K tg J fp it tn/\tn 0 s2.heap/\(∀b∈fp,yk X ai H' b)/\R J H'
def PI (X:Cx)(tg iter:Expr)(wi:TI):Prop :=
 ∀(ai:z0e)(s:Shared)(σ:St)(H:Hp)(R:It->Hp->Prop),141->wi σ H R ->
  wpAny 151 X.A (eval iter X.env) (λv s1=>wpAny 151 X.A (pyIter v) (PIE X ai σ tg R) X.xe s1) X.xe s
def Dk {M:Model}{A:Around}{E:z0b}{s:Shared}{tg:Expr}{it:Addr}{u:Value}{o:Obj}{n:String}{vs:z0l}{Q:Unit->182}(ho:s.heap.get? it=some o)(hc:o.cls=.type n)(hd:o.data=.fields vs)
  (hn:["enumerate","zip","dict_itemiterator","dict_reverseitemiterator","odict_iterator","itertools.zip_longest","itertools.pairwise"].contains n=false)(hQ:Q () s):wpAny M A (letOwnedTupleGo tg (.ref it) u) Q E s:=by
 unfold letOwnedTupleGo;cases tg <;> first
  | exact aH hQ
  | (cases u <;> first
    | exact aH hQ
    | (refine aB (wpAny_load ho ?_)
       rw [hc,hd];show wpAny M A (if (["enumerate","zip","dict_itemiterator","dict_reverseitemiterator","odict_iterator","itertools.zip_longest","itertools.pairwise"].contains n && vs[0]? == some (rawInt _))=true then _ else _) Q E s;rw [au (by intro h;rw [hn,rm] at h;cases h)];exact aH hQ))
def jK (K:bp)(a:Addr):It :=
 ⟨λi H=>∃xs x,aI K H a xs/\xs[i]?=some x,λi H x H'=>H'=H/\∀xs,aI K H a xs->xs[i]?=some x,λi H=>∃xs,aI K H a xs/\xs.length<=i⟩
def ox (K:bp)(a:Addr):It :=
 ⟨λi H=>∃xs x,aZ K H a xs/\xs[i]?=some x,λi H x H'=>H'=H/\∀xs,aZ K H a xs->xs[i]?=some x,λi H=>∃xs,aZ K H a xs/\xs.length<=i⟩
def Mb (lo:Int) (n:Nat):It:=⟨λi _=>i < n,λi H x H'=>H'=H/\x=.int (lo+i),λi _=>n<=i⟩
def DI {P:Program}{w:World}{K:bp}{tg:Expr}(a it:Addr):Turn P w K tg (jK K a) [it] it (λi h=>h.IsListIter it a i) where
 mem:=92
 obj:=λi h st b hb=>by
  have e:b=it:=by simpa using hb
  subst e;obtain⟨o,e,c,d⟩:=st;exact⟨o,e,λv z=>by rw [d] at z;cases z⟩
 keep:=λi h h' st k=>st.at λo e=>k it 144 o e
 item:=by
  intro X hP hw hK hc i ai s σ H E I hf st hg;subst hP hw hK;obtain⟨xs,x,hq,hx⟩:=hg;obtain⟨aV,rv,p,hz⟩:=I.list hq;obtain⟨u,hu,ru⟩:=rv.get hx;obtain⟨f0,f1,f2,f3,f4,f5⟩:=hf it 144;refine wpAny_pyNext_list_item st p.isList (x:=u) (by simpa using hu) λh' u_ sb=>?_;have I1:Inv X ai σ H { s with heap:=h' }:=I.turned (t':=s.toks) (λb o hb e=>(sb.2 b hb).trans e) f0 f1 f3 f4 f5;obtain⟨o,e,c,d⟩:=id u_;exact⟨u,rfl,Dk (s:={ s with heap:=h' }) e c d nofun ⟨x,H,I1,ru,⟨rfl,λys hy=>by rw [I.sY hy hq];exact hx⟩,u_,λb hb=>(hf b hb).1⟩⟩
 done:=by
  intro X hP hw hK hc i ai s σ H E I hf st hg;subst hP hw hK;obtain⟨xs,hq,hx⟩:=hg;obtain⟨aV,rv,p,hz⟩:=I.list hq;obtain⟨f0,f1,f2,f3,f4,f5⟩:=hf it 144;have hl:=rv.length;exact wD (I.ok.hd hc) st p.isList (by simp;omega) 503
 self:=λ_ _ _ _ _ st h=>wpAny_pyIter_listiter st h
def AE {P:Program}{w:World}{K:bp}{tg:Expr}(a it:Addr):Turn P w K tg (ox K a) [it] it (λi h=>h.IsTupleIter it a i) where
 mem:=92
 obj:=λi h st b hb=>by
  have e:b=it:=by simpa using hb
  subst e;obtain⟨o,e,c,d⟩:=st;exact⟨o,e,λv z=>by rw [d] at z;cases z⟩
 keep:=λi h h' st k=>st.at λo e=>k it 144 o e
 item:=by
  intro X hP hw hK hc i ai s σ H E I hf st hg;subst hP hw hK;obtain⟨xs,x,hq,hx⟩:=hg;obtain⟨aV,rv,p,hz⟩:=I.tuple hq;obtain⟨u,hu,ru⟩:=rv.get hx;obtain⟨f0,f1,f2,f3,f4,f5⟩:=hf it 144;refine wpAny_pyNext_tuple_item st (show s.heap.IsTuple a aV.toArray from p) (x:=u) (by simpa using hu) λh' u_ sb=>?_;have I1:Inv X ai σ H { s with heap:=h' }:=I.turned (t':=s.toks) (λb o hb e=>(sb.2 b hb).trans e) f0 f1 f3 f4 f5;obtain⟨o,e,c,d⟩:=id u_;exact⟨u,rfl,Dk (s:={ s with heap:=h' }) e c d nofun ⟨x,H,I1,ru,⟨rfl,λys hy=>by rw [I.jr hy hq];exact hx⟩,u_,λb hb=>(hf b hb).1⟩⟩
 done:=by
  intro X hP hw hK hc i ai s σ H E I hf st hg;subst hP hw hK;obtain⟨xs,hq,hx⟩:=hg;obtain⟨aV,rv,p,hz⟩:=I.tuple hq;obtain⟨f0,f1,f2,f3,f4,f5⟩:=hf it 144;have hl:=rv.length;exact wpAny_pyNext_tuple_end (I.ok.hd hc) st (show s.heap.IsTuple a aV.toArray from p) (by simp;omega) 503
 self:=λ_ _ _ _ _ st h=>wpAny_pyIter_tupleiter st h
def AF {P:Program}{w:World}{K:bp}{tg:Expr}(it:Addr) (lo:Int) (n:Nat):Turn P w K tg (Mb lo n) [it] it (λi h=>IsRangeIter h it (lo+(i:Nat) * 1) ((n:Int) - (i:Nat)) 1) where
 mem:=92
 obj:=λi h st b hb=>by
  have e:b=it:=by simpa using hb
  subst e;exact⟨_,st,λv z=>by
   have z':Data.fields _=Data.cell v:=z;cases z'⟩
 keep:=λi h h' st k=>k it 144 _ st
 item:=by
  intro X hP hw hK hc i ai s σ H E I hf st hg;subst hP hw hK;obtain⟨f0,f1,f2,f3,f4,f5⟩:=hf it 144;have W:=Walks.range (prog:=X.prog) (w:=X.w) (I.ok.hd hc) it lo 1 n;refine W.item i s _ _ hg st λv h' tk hv u_ kk=>?_;obtain⟨t,rfl⟩:=hv;have I1:Inv X ai σ H { s with heap:=h',toks:=tk }:=I.turned (λb o hb e=>kk b o (by simpa using hb) e) f0 f1 f3 f4 f5;refine⟨_,rfl,Dk (s:={ s with heap:=h',toks:=tk }) (n := "range_iterator") u_ rfl rfl nofun ⟨.int (lo+i),H,I1,⟨t,?_⟩,⟨rfl,rfl⟩,u_,λb hb=>(hf b hb).1⟩⟩;rw [Int.mul_one]
 done:=by
  intro X hP hw hK hc i ai s σ H E I hf st hg;subst hP hw hK;obtain⟨f0,f1,f2,f3,f4,f5⟩:=hf it 144;exact wpAny_pyNext_range_end (I.ok.hd hc) st (by have:n<=i:=hg;omega) 503
 self:=λ_ _ _ _ _ st h=>wpAny_pyIter_rangeiter st h
section
variable {X:Cx}{tg:Expr}
def So (K:bp)(tl:TE):TI:=λσ H R=>tl σ H λx H1=>V4 x (λa=>∃xs,aI K H1 a xs) λa=>R (jK K a) H1
def Yd (K:bp)(tl:TE):TI:=λσ H R=>tl σ H λx H1=>V4 x (λa=>∃xs,aZ K H1 a xs) λa=>R (ox K a) H1
def aR {l:Expr}{tl:TE}(hl:PE X l tl):PI X tg l (So X.K tl):=by
 intro ai s σ H R I h;refine dC (hl ai s σ H _ I h) λv s1 bI=>?_;obtain⟨x,H1,I1,r1,q1⟩:=bI;obtain⟨a,e,⟨xs,hq⟩,q⟩:=q1;subst e;cases r1;obtain⟨aV,rv,p,hz⟩:=I1.list hq;refine oP p.isList ?_;refine⟨s1.heap.objs.size,[s1.heap.objs.size],_,_,H1,rfl,I1.kept (t':=s1.toks) λb o e=>cg _ e,DI a _,⟨_,dB _ rfl,rfl,rfl⟩,λb hb=>?_,q⟩;have e:b=s1.heap.objs.size:=by simpa using hb
 subst e;exact I1.xR (aG _) (I1.cw.fresh (aG _))
def eV {l:Expr}{tl:TE}(hl:PE X l tl):PI X tg l (Yd X.K tl):=by
 intro ai s σ H R I h;refine dC (hl ai s σ H _ I h) λv s1 bI=>?_;obtain⟨x,H1,I1,r1,q1⟩:=bI;obtain⟨a,e,⟨xs,hq⟩,q⟩:=q1;subst e;cases r1;obtain⟨aV,rv,p,hz⟩:=I1.tuple hq;refine wc (show s1.heap.IsTuple a aV.toArray from p) ?_;refine⟨s1.heap.objs.size,[s1.heap.objs.size],_,_,H1,rfl,I1.kept (t':=s1.toks) λb o e=>cg _ e,AE a _,⟨_,dB _ rfl,rfl,rfl⟩,λb hb=>?_,q⟩;have e:b=s1.heap.objs.size:=by simpa using hb
 subst e;exact I1.xR (aG _) (I1.cw.fresh (aG _))
def GQ {ai:z0e}{σ:St}{H:Hp}{s:Shared}{R:It->Hp->Prop}{E:z0b}{lo hi:Int}{t u v:Tok}{tk:Nat}(I:141)(h1:-(2 ^ 62)<=lo)(h2:lo < 2 ^ 62)(h3:-(2 ^ 62)<=hi)(h4:hi < 2 ^ 62)
  (q:R (Mb lo (hi - lo).toNat) H):wpAny 151 X.A (pyIter (238)) (PIE X ai σ tg R) E { s with heap:=s.heap.push { cls:=.type "range",data:=.fields #[.int lo t,.int hi u,.int 1 v] },toks:=tk }:=by
 refine wpAny_pyIter_range (IsRange.new ..) (small_one h1 h2 h3 h4) ?_;have I1:Inv X ai σ H { s with heap:=s.heap.push { cls:=.type "range",data:=.fields #[.int lo t,.int hi u,.int 1 v] },toks:=tk }:=I.kept λb o e=>cg _ e;refine⟨(s.heap.push { cls:=.type "range",data:=.fields #[.int lo t,.int hi u,.int 1 v] }).objs.size,[(s.heap.push { cls:=.type "range",data:=.fields #[.int lo t,.int hi u,.int 1 v] }).objs.size],_,_,H,rfl,
  I1.kept (t':=tk) λb o e=>cg _ e,AF _ lo (hi - lo).toNat,?_,λb hb=>?_,q⟩
 .have e1:lo+((0:Nat):Int) * 1=lo:=92
  have e2:(((hi - lo).toNat:Nat):Int) - ((0:Nat):Int)=Builtin.Range.rangeSize lo hi 1:=by rw [rangeSize_one];split <;> omega
  show IsRangeIter _ _ (lo+((0:Nat):Int) * 1) ((((hi - lo).toNat:Nat):Int) - ((0:Nat):Int)) 1;rw [e1,e2];exact dB _ rfl
 have e:b=(s.heap.push { cls:=.type "range",data:=.fields #[.int lo t,.int hi u,.int 1 v] }).objs.size:=by simpa using hb
 subst e;exact I1.xR (aG _) (I1.cw.fresh (aG _))
def Sn (ta:TA):TI:=λσ H R=>ta σ H λvs H1=>XRg vs λj=>R (Mb 0 j.toNat) H1
def ie {a:Expr}{ta:TA}{p pos:Pos}(hg:Gl X "range")(hm:X.mg "range"=none)(ha:PA X [a] ta)(hs:starEach [a] X.env=[(false,eval a X.env)]:=by rfl):PI X tg (.Call (.Name "range" p) [a] [] pos) (Sn ta):=by
 intro ai s σ H R I h;refine Call_ (jU I hg hm boot_range (wK (dC (ha pos ai s σ H _ I h) λus s1 bI=>?_) hs rfl));obtain⟨vs,H1,I1,r1,q1⟩:=bI;obtain⟨j,e,q1,q2,q⟩:=q1;subst e;cases r1 with
 | cons r rr =>
  cases rr;obtain⟨t,rfl⟩:=r;exact call_range_1 (GQ I1 ∅ ∅ q1 q2 (by simpa using q))
def WH (wi:TI)(g:TG)(tb:TS):TS:=λD σ H=>wi σ H λJ H1=>∃W:Nat->Nat->St->Hp->Prop,(∃m,W 0 m σ H1)/\∀i m σ H,W i m σ H ->
 (J.stop i H/\D.nx σ H)\/(J.go i H/\∃N:St->Hp->Prop,(∀σ' H',N σ' H'->∃m',m' < m/\W (i+1) m' σ' H')/\∀x H',J.lV i H x H'->g x σ H' λσ2 H2=>tb { D with nx:=N,ct:=N,bk:=D.nx } σ2 H2)
def o7 (fp:z0q)(h:Heap):z0e:=fp.filterMap λb=>(h.get? b).map λo=>(b,o)
def ig {fp:z0q}{h:Heap}{b:Addr}{o:Obj}(hb:b∈fp)(e:h.get? b=some o):(b,o)∈o7 fp h:=List.mem_filterMap.mpr ⟨b,hb,by rw [e];rfl⟩
def Ei {fp:z0q}{h:Heap}{p:Addr×Obj}(hp:p∈o7 fp h):p.1∈fp/\h.get? p.1=some p.2:=by
 obtain⟨b,hb,e⟩:=List.mem_filterMap.mp hp;cases q:h.get? b with
 | none=>rw [q] at e;cases e
 | some o =>
  rw [q] at e;have e':(b,o)=p:=gJ e;subst e';exact⟨hb,q⟩
def Inv.pinned {ai:z0e}{σ:St}{H:Hp}{s:Shared}{fp:z0q}(I:141)(hf:∀b∈fp,yk X ai H b)(ho:∀b∈fp,∃o,185/\∀v,o.data≠.cell v):Inv X (ai++o7 fp s.heap) σ H s :=
 I.CW λp hp=>(bP.mp hp).elim (λz=>I.pin p (dJ _ z)) λz=>by
  obtain⟨hb,e⟩:=Ei z;obtain⟨f0,f1,f2,_⟩:=hf p.1 hb;obtain⟨o,e',d⟩:=ho p.1 hb;rw [e] at e';cases e';exact⟨e,f0,f1,f2,d⟩
def Inv.kJ {ai pl:z0e}{σ:St}{H:Hp}{s:Shared}(I:Inv X (ai++pl) σ H s):141:=I.CW λp hp=>I.pin p (dJ _ (fg _ hp))
def bJ {iter:Expr}{body:List Stmt}{wi:TI}{g:TG}{tb:TS}{pos:Pos}(hp:PassesOwn 151 X.A X.env X.xe)(hc:X.calm=true)(hi:PI X tg iter wi)(hg:PG X tg g)(hb:Cj X body tb)
  (hs:∀x,foldedSetIterable iter X.env x=pure x:=by intro _;rfl):PS X (.For tg iter body [] pos) (WH wi g tb):=by
 intro ai s σ H D I h;refine wpAny_For (dC (hi ai s σ H _ I h) λv s1 h1=>dC h1 λVe s2 h2=>?_) hs;obtain⟨it,fp,tn,J,H2,e,I2,T,JA,f2,W,⟨m0,w0⟩,turn⟩:=h2;subst e;have rZ:∀{H':Hp},(∀b∈fp,H' b=none)->∀b∈fp,yk X ai H' b:=λhn b hb=>⟨hn b hb,(f2 b hb).2⟩;refine codeAny_forLoop_any (λn s'=>∃i σ' H',Inv X ai σ' H' s'/\tn i s'.heap/\(∀b∈fp,H' b=none)/\W i n σ' H') ?_ m0 ⟨0,σ,H2,I2,JA,λb hb=>(f2 b hb).1,w0⟩;rintro n s3 ⟨i,σ3,H3,I3,Rk,fr3,w3⟩;rcases turn i n σ3 H3 w3 with ⟨stop,qn⟩ | ⟨go,N,hN,step⟩
 .refine mw hp (dC (T.done X rfl rfl rfl hc i ai s3 σ3 H3 X.xe I3 (rZ fr3) Rk stop) λr s4 ⟨hr,I4⟩=>?_);subst hr;exact wpAny_execs_nil ⟨σ3,H3,I4,qn⟩
 refine mw hp (dC (T.item X rfl rfl rfl hc i ai s3 σ3 H3 X.xe I3 (rZ fr3) Rk go) λr s4 ⟨u,hr,h4⟩=>?_);subst hr;refine mw hp (dC h4 λ_ s5 bI=>?_);obtain⟨x,H5,I5,r5,y5,DM,Tw⟩:=bI;have I5':=I5.pinned (rZ Tw) (T.obj _ _ DM);refine mw hp (dC (hg _ s5 σ3 H5 x u _ I5' r5 (step x H5 y5)) λ_ s6 bI=>?_);obtain⟨σ6,H6,I6,q6⟩:=bI;refine mw hp (dC (hb _ s6 σ6 H6 _ I6 q6) λf s7 q7=>?_);have again:∀{σ7:St}{H7:Hp},Inv X (ai++o7 fp s5.heap) σ7 H7 s7->N σ7 H7->∃m,m < n/\∃i σ' H',Inv X ai σ' H' s7/\tn i s7.heap/\(∀b∈fp,H' b=none)/\W i m σ' H':=λ{σ7 H7} I7 n7=>by
  obtain⟨m',hm,w7⟩:=hN σ7 H7 n7;refine⟨m',hm,i+1,σ7,H7,I7.kJ,T.keep _ _ _ DM λb hb o e=>(I7.pin (b,o) (dJ _ (dJ _ (ig hb e)))).1,λb hb=>?_,w7⟩;obtain⟨o,e,d⟩:=T.obj _ _ DM b hb;exact(I7.pin (b,o) (dJ _ (dJ _ (ig hb e)))).2.1
 cases f with
 | next=>obtain⟨σ7,H7,I7,n7⟩:=q7;exact again I7 n7
 | cont=>obtain⟨σ7,H7,I7,n7⟩:=q7;exact again I7 n7
 | brk=>obtain⟨σ7,H7,I7,q7⟩:=q7;exact⟨σ7,H7,I7.kJ,q7⟩
 | ret v=>obtain⟨x7,σ7,H7,I7,r7,q7⟩:=q7;exact⟨x7,σ7,H7,I7.kJ,r7,q7⟩
end
def bQ {K:bp}{a:Addr}{xs:List V}{g:TG}{tb:TS}{D:Ends}{σ:St}{H:Hp}(Pv:Nat->St->Hp->Prop)(h0:Pv 0 σ H)(hl:∀i σ H,i<=xs.length->Pv i σ H->aI K H a xs)
  (hs:∀i x σ H,xs[i]?=some x->Pv i σ H->g x σ H λσ2 H2=>tb { D with nx:=Pv (i+1),ct:=Pv (i+1),bk:=D.nx } σ2 H2)(hd:∀σ H,Pv xs.length σ H->D.nx σ H) :
  ∃W:Nat->Nat->St->Hp->Prop,(∃m,W 0 m σ H)/\∀i m σ H,W i m σ H ->
   ((jK K a).stop i H/\D.nx σ H)\/((jK K a).go i H/\∃N:St->Hp->Prop,(∀σ' H',N σ' H'->∃m',m' < m/\W (i+1) m' σ' H')/\∀x H',(jK K a).lV i H x H'->g x σ H' λσ2 H2=>tb { D with nx:=N,ct:=N,bk:=D.nx } σ2 H2):=by
 refine⟨λi m σ H=>m=xs.length - i/\i<=xs.length/\Pv i σ H,⟨xs.length,92,gr _,h0⟩,?_⟩;rintro i m σ H ⟨rfl,hi,p⟩;have q:=hl i σ H hi p;by_cases jj:i < xs.length
 .refine .inr ⟨⟨xs,xs[i],q,by simp [jj]⟩,Pv (i+1),λσ' H' p'=>⟨xs.length - (i+1),∅,rfl,jj,p'⟩,λx H' y=>?_⟩;obtain⟨e,y⟩:=y;subst e;exact hs i x σ _ (y xs q) p
 have e:i=xs.length:=by omega
 subst e;exact .inl ⟨⟨xs,q,aG _⟩,hd σ H p⟩
def xT {K:bp}{a:Addr}{xs:List V}{g:TG}{tb:TS}{D:Ends}{σ:St}{H:Hp}(Pv:Nat->St->Hp->Prop)(h0:Pv 0 σ H)(hl:∀i σ H,i<=xs.length->Pv i σ H->aZ K H a xs)
  (hs:∀i x σ H,xs[i]?=some x->Pv i σ H->g x σ H λσ2 H2=>tb { D with nx:=Pv (i+1),ct:=Pv (i+1),bk:=D.nx } σ2 H2)(hd:∀σ H,Pv xs.length σ H->D.nx σ H) :
  ∃W:Nat->Nat->St->Hp->Prop,(∃m,W 0 m σ H)/\∀i m σ H,W i m σ H ->
   ((ox K a).stop i H/\D.nx σ H)\/((ox K a).go i H/\∃N:St->Hp->Prop,(∀σ' H',N σ' H'->∃m',m' < m/\W (i+1) m' σ' H')/\∀x H',(ox K a).lV i H x H'->g x σ H' λσ2 H2=>tb { D with nx:=N,ct:=N,bk:=D.nx } σ2 H2):=by
 refine⟨λi m σ H=>m=xs.length - i/\i<=xs.length/\Pv i σ H,⟨xs.length,92,gr _,h0⟩,?_⟩;rintro i m σ H ⟨rfl,hi,p⟩;have q:=hl i σ H hi p;by_cases jj:i < xs.length
 .refine .inr ⟨⟨xs,xs[i],q,by simp [jj]⟩,Pv (i+1),λσ' H' p'=>⟨xs.length - (i+1),∅,rfl,jj,p'⟩,λx H' y=>?_⟩;obtain⟨e,y⟩:=y;subst e;exact hs i x σ _ (y xs q) p
 have e:i=xs.length:=by omega
 subst e;exact .inl ⟨⟨xs,q,aG _⟩,hd σ H p⟩
def jG {lo:Int}{n:Nat}{g:TG}{tb:TS}{D:Ends}{σ:St}{H:Hp}(Pv:Nat->St->Hp->Prop)(h0:Pv 0 σ H)
  (hs:∀i σ H,i < n->Pv i σ H->g (.int (lo+i)) σ H λσ2 H2=>tb { D with nx:=Pv (i+1),ct:=Pv (i+1),bk:=D.nx } σ2 H2)(hd:∀σ H,Pv n σ H->D.nx σ H) :
  ∃W:Nat->Nat->St->Hp->Prop,(∃m,W 0 m σ H)/\∀i m σ H,W i m σ H ->
   ((Mb lo n).stop i H/\D.nx σ H)\/((Mb lo n).go i H/\∃N:St->Hp->Prop,(∀σ' H',N σ' H'->∃m',m' < m/\W (i+1) m' σ' H')/\∀x H',(Mb lo n).lV i H x H'->g x σ H' λσ2 H2=>tb { D with nx:=N,ct:=N,bk:=D.nx } σ2 H2):=by
 refine⟨λi m σ H=>m=n - i/\i<=n/\Pv i σ H,⟨n,92,gr _,h0⟩,?_⟩;rintro i m σ H ⟨rfl,hi,p⟩;by_cases jj:i < n
 .refine .inr ⟨jj,Pv (i+1),λσ' H' p'=>⟨n - (i+1),∅,rfl,jj,p'⟩,λx H' y=>?_⟩;obtain⟨e,y⟩:=y;subst e y;exact hs i σ _ jj p
 have e:i=n:=by omega
 subst e;exact .inl ⟨aG _,hd σ H p⟩
abbrev R2:=V->V->Hp->VK->Prop
def ng (X:Cx)(f:Value->Value->Sem Value)(r:R2):Prop :=
 ∀(ai:z0e)(s:Shared)(σ:St)(H:Hp)(x y:V)(v u:Value)(Q:VK),141->RelV x v->RelV y u->r x y H Q ->
  wpAny 151 X.A (f v u) (EP X ai σ Q) X.xe s
def UnR (X:Cx)(f:Value->Sem Value)(r:V->Hp->VK->Prop):Prop :=
 ∀(ai:z0e)(s:Shared)(σ:St)(H:Hp)(x:V)(v:Value)(Q:VK),141->RelV x v->r x H Q ->
  wpAny 151 X.A (f v) (EP X ai σ Q) X.xe s
def i0 (X:Cx)(f:Value)(r:List V->Hp->VK->Prop):Prop :=
 ∀(ai:z0e)(s:Shared)(σ:St)(H:Hp)(xs:List V)(us:z0n)(Q:VK),141->bH xs us->r xs H Q ->
  wpAny 151 X.A (call f us) (EP X ai σ Q) X.xe s
def aam (X:Cx)(r:V->Hp->(Bool->Hp->Prop)->Prop):Prop :=
 ∀(ai:z0e)(s:Shared)(σ:St)(H:Hp)(x:V)(v:Value)(Q:Bool->Hp->Prop),141->RelV x v->r x H Q ->
  wpAny 151 X.A (truthy v) (TP X ai σ Q) X.xe s
def UP (r:R2)(ta tb:TE):TE:=λσ H Q=>ta σ H λx H1=>tb σ H1 λy H2=>r x y H2 Q
def tUn (r:V->Hp->VK->Prop)(ta:TE):TE:=λσ H Q=>ta σ H λx H1=>r x H1 Q
def rI (C:Int->Int->Prop)(g:Int->Int->V):R2:=λx y H Q=>XI2 x y C λi j=>Q (g i j) H
def N5 (g:Int->Int->V):R2:=λx y H Q=>XI0 x y λi j=>Q (g i j) H
def rU (g:Int->V):V->Hp->VK->Prop:=λx H Q=>XI1 x λi=>Q (g i) H
section
variable {X:Cx}{a b c:Expr}{ta tb tc:TE}{pos:Pos}
def PF (ha:PE X a ta)(hb:PE X b tb){ai:z0e}{s:Shared}{σ:St}{H:Hp}{R:V->V->Hp->Prop}(I:141)
  (h:ta σ H λx H1=>tb σ H1 λy H2=>R x y H2){Q:z0b}{f:Value->Value->Sem Value}
  (hf:∀v u s2 x y H2,Inv X ai σ H2 s2->RelV x v->RelV y u->R x y H2->wpAny 151 X.A (f v u) Q X.xe s2) :
  wpAny 151 X.A (eval a X.env) (λv s₁=>wpAny 151 X.A (eval b X.env) (λu s₂=>wpAny 151 X.A (f v u) Q X.xe s₂) X.xe s₁) X.xe s:=by
 refine dC (ha ai s σ H _ I h) λv s1 bI=>?_;obtain⟨x,H1,I1,r1,q1⟩:=bI;refine dC (hb ai s1 σ H1 _ I1 q1) λu s2 bI=>?_;obtain⟨y,H2,I2,r2,q2⟩:=bI;exact hf v u s2 x y H2 I2 r1 r2 q2
def aN {op:Operator}{r:R2}(ho:ng X (binaryOp op) r)(ha:PE X a ta)(hb:PE X b tb):PE X (.BinOp a op b pos) (UP r ta tb):=by
 intro ai s σ H Q I h;exact wpAny_BinOp (PF ha hb I h λv u s2 x y H2 I2 rx ry q=>ho ai s2 σ H2 x y v u Q I2 rx ry q)
def yR {op:UnaryOp}{r:V->Hp->VK->Prop}(ho:UnR X (unaryOp op) r)(ha:PE X a ta):PE X (.UnaryOp op a pos) (tUn r ta):=by
 intro ai s σ H Q I h;refine UnaryOp_ (dC (ha ai s σ H _ I h) λv s1 bI=>?_);obtain⟨x,H1,I1,r1,q1⟩:=bI;exact ho ai s1 σ H1 x v Q I1 r1 q1
def Xg {f:Value->Value->Sem Value}{C:Int->Int->Prop}{g:Int->Int->Int}
  (rule:∀(i j:Int)(t u:Tok)(s:Shared)(Q:z0b)(E:z0b),C i j->Q (.int (g i j) s.toks) { s with toks:=s.toks+1 }->wpAny 151 X.A (f (.int i t) (.int j u)) Q E s) :
  ng X f (rI C λi j=>.int (g i j)):=by
 intro ai s σ H x y v u Q I rx ry h;obtain⟨i,j,rfl,rfl,hc,q⟩:=h;obtain⟨t,rfl⟩:=rx;obtain⟨t',rfl⟩:=ry;exact rule i j t t' s _ _ hc ⟨.int (g i j),H,I.tok _,157,q⟩
def RM {f:Value->Value->Sem Value}{g:Int->Int->Int}
  (rule:∀(i j:Int)(t u:Tok)(s:Shared)(Q:z0b)(E:z0b),Q (.int (g i j) s.toks) { s with toks:=s.toks+1 }->wpAny 151 X.A (f (.int i t) (.int j u)) Q E s) :
  ng X f (N5 λi j=>.int (g i j)):=by
 intro ai s σ H x y v u Q I rx ry h;obtain⟨i,j,rfl,rfl,q⟩:=h;obtain⟨t,rfl⟩:=rx;obtain⟨t',rfl⟩:=ry;exact rule i j t t' s _ _ ⟨.int (g i j),H,I.tok _,157,q⟩
def Oe {f:Value->Value->Sem Value}{g:Int->Int->Bool}
  (rule:∀(i j:Int)(t u:Tok)(s:Shared)(Q:z0b)(E:z0b),Q (.bool (g i j)) s->wpAny 151 X.A (f (.int i t) (.int j u)) Q E s) :
  ng X f (N5 λi j=>.bl (g i j)):=by
 intro ai s σ H x y v u Q I rx ry h;obtain⟨i,j,rfl,rfl,q⟩:=h;obtain⟨t,rfl⟩:=rx;obtain⟨t',rfl⟩:=ry;exact rule i j t t' s _ _ ⟨.bl (g i j),H,I,rfl,q⟩
def aan (i j:Int):Prop:=0 < j/\j < 1073741824
def PY (i j:Int):Prop:=(-(2 ^ 64) < i/\i < 2 ^ 64)\/(-(2 ^ 64) < j/\j < 2 ^ 64)
def PY.ok {i j:Int}(h:PY i j):IntMulOk i j:=by
 rcases h with ⟨h1,h2⟩ | ⟨h1,h2⟩
 .exact .of_left (intBits_le_64 h1 h2)
 exact .of_right (intBits_le_64 h1 h2)
def df:ng X (binaryOp .Add) (N5 λi j=>.int (i+j)):=RM λ_ _ _ _ _ _ _ q=>add_int q
def Hi:ng X (binaryOp .Sub) (N5 λi j=>.int (i - j)):=RM λ_ _ _ _ _ _ _ q=>sub_int q
def Hj:ng X (binaryOp .Mult) (rI PY λi j=>.int (i * j)):=Xg λ_ _ _ _ _ _ _ hc q=>mul_int q hc.ok
def cY:ng X (binaryOp .FloorDiv) (rI aan λi j=>.int (i / j)):=Xg λi j _ _ _ _ _ hc q=>by
 have h1:(0:Int) < j:=hc.1;have h2:j < 1073741824:=hc.2;exact floordiv_int ∅ (by rw [Int.fdiv_eq_ediv_of_nonneg i ∅];exact q) (.inl (PyProof.noPylong_small ∅))
def de:ng X (binaryOp .Mod) (rI (λ_ j=>0 < j) λi j=>.int (i % j)):=Xg λi j _ _ _ _ _ hc q=>by
 have h1:(0:Int) < j:=hc;exact mod_int' ∅ (by rw [Int.fmod_eq_emod_of_nonneg i ∅];exact q)
def unI {f:Value->Sem Value}{g:Int->Int}
  (rule:∀(i:Int)(t:Tok)(s:Shared)(Q:z0b)(E:z0b),Q (.int (g i) s.toks) { s with toks:=s.toks+1 }->wpAny 151 X.A (f (.int i t)) Q E s) :
  UnR X f (rU λi=>.int (g i)):=by
 intro ai s σ H x v Q I rx h;obtain⟨i,rfl,q⟩:=h;obtain⟨t,rfl⟩:=rx;exact rule i t s _ _ ⟨.int (g i),H,I.tok _,157,q⟩
def rW:UnR X (unaryOp .USub) (rU λi=>.int (-i)):=unI λ_ _ _ _ _ q=>neg_int q
end
def WS:V->V->Bool
 | .fu,.fu=>true | .fu,.int _=>true | .int _,.fu=>true | .fu,.bl _=>true | .bl _,.fu=>true | .fu,.str _=>true | .str _,.fu=>true
 | .int _,.int _=>true | .bl _,.bl _=>true | .str _,.str _=>true | .E4 _,.E4 _=>true
 | .int _,.str _=>true | .str _,.int _=>true | .bl _,.str _=>true | .str _,.bl _=>true
 | _,_=>false
def rEq:R2:=λx y H Q=>WS x y=true/\Q (.bl (decide (x=y))) H
def LK {i j:Int}:decide (V.int i=V.int j)=(i == j):=by
 rw [jl];simp
def Pu {i j:Bool}:decide (V.bl i=V.bl j)=(i == j):=by
 rw [jl];simp
def LI {i j:Str}:decide (V.str i=V.str j)=(i == j):=by
 rw [jl];simp
def LM {i j:Array UInt8}:decide (V.E4 i=V.E4 j)=(i.toList == j.toList):=by
 rw [jl];cases i;cases j;simp
section
variable {X:Cx}{a b c:Expr}{ta tb tc:TE}{pos:Pos}
def gH {ai:z0e}{σ:St}{H:Hp}{s:Shared}{Q:VK}{k k':Bool}(I:141)(q:Q (.bl k) H)(e:k=k'):EP X ai σ Q (.bool k') s:=by
 subst e;exact⟨.bl k,H,I,rfl,q⟩
def jx:ng X (compareOp .Eq) rEq:=by
 intro ai s σ H x y v u Q I rx ry h;obtain⟨hs,q⟩:=h;cases x with
 | fu =>
  cases rx;cases y with
  | fu=>cases ry;exact PySem.EqNone.eq_none_none (gH I q 144)
  | bl j=>cases ry;exact PySem.EqNone.eq_none_bool (gH I q 144)
  | int j=>obtain⟨t',rfl⟩:=ry;exact PySem.EqNone.eq_none_int (gH I q 144)
  | str j=>obtain⟨t',rfl⟩:=ry;exact PySem.EqNone.eq_none_str (gH I q 144)
  | _=>exact absurd (show false=true from hs) cX
 | bl i =>
  cases rx;cases y with
  | fu=>cases ry;exact PySem.EqNone.eq_bool_none (gH I q 144)
  | bl j=>cases ry;exact eq_bool (gH I q Pu)
  | str j=>obtain⟨t',rfl⟩:=ry;exact PySem.EqMixed.eq_bool_str (gH I q 144)
  | _=>exact absurd (show false=true from hs) cX
 | int i =>
  obtain⟨t,rfl⟩:=rx;cases y with
  | fu=>cases ry;exact PySem.EqNone.eq_int_none (gH I q 144)
  | int j=>obtain⟨t',rfl⟩:=ry;exact eq_int (gH I q LK)
  | str j=>obtain⟨t',rfl⟩:=ry;exact PySem.EqMixed.eq_int_str (gH I q 144)
  | _=>exact absurd (show false=true from hs) cX
 | str i =>
  obtain⟨t,rfl⟩:=rx;cases y with
  | fu=>cases ry;exact PySem.EqNone.eq_str_none (gH I q 144)
  | bl j=>cases ry;exact PySem.EqMixed.eq_str_bool (gH I q 144)
  | int j=>obtain⟨t',rfl⟩:=ry;exact PySem.EqMixed.eq_str_int (gH I q 144)
  | str j=>obtain⟨t',rfl⟩:=ry;exact eq_str (gH I q LI)
  | _=>exact absurd (show false=true from hs) cX
 | E4 i =>
  obtain⟨t,rfl⟩:=rx;cases y with
  | E4 j=>obtain⟨t',rfl⟩:=ry;exact PySem.W.eq_bytes (gH I q LM)
  | _=>exact absurd (show false=true from hs) cX
 | _=>cases y <;> exact absurd (show false=true from hs) cX
def lX:ng X (compareOp .Lt) (N5 λi j=>.bl (decide (i < j))):=Oe λ_ _ _ _ _ _ _ q=>lt_int q
def Mv:ng X (compareOp .LtE) (N5 λi j=>.bl (decide (i<=j))):=Oe λ_ _ _ _ _ _ _ q=>le_int q
def Hk:ng X (compareOp .Gt) (N5 λi j=>.bl (decide (j < i))):=Oe λ_ _ _ _ _ _ _ q=>gt_int q
def cA (b:Expr){op:CmpOp}(h:op≠.In:=by decide)(h2:op≠.NotIn:=by decide):behindInMarks op b=false:=by
 have e1:(op == CmpOp.In)=false:=by cases op <;> first | rfl | exact absurd rfl h
 have e2:(op == CmpOp.NotIn)=false:=by cases op <;> first | rfl | exact absurd rfl h2
 cases b <;> simp [behindInMarks,e1,e2]
def fQ {op:CmpOp}{r:R2}(ho:ng X (compareOp op) r)(ha:PE X a ta)(hb:PE X b tb)(hm:behindInMarks op b=false):PE X (.Compare a [op] [b] pos) (UP r ta tb):=by
 intro ai s σ H Q I h;exact wpAny_Compare1 (PF ha hb I h λv u s2 x y H2 I2 rx ry q=>ho ai s2 σ H2 x y v u Q I2 rx ry q) hm
def Q2 (t:TE):TT:=λσ H Q=>t σ H λx H'=>XB x λk=>Q k H'
def bc {op:CmpOp}{r:R2}(ho:ng X (compareOp op) r)(ha:PE X a ta)(hb:PE X b tb)(hm:behindInMarks op b=false):PT X (.Compare a [op] [b] pos) (Q2 (UP r ta tb)):=by
 intro ai s σ H Q I h;refine wpAny_isTrue_Compare1 (dC (ha ai s σ H _ I h) λv s1 ⟨x,H1,I1,r1,q1⟩=>dC (hb ai s1 σ H1 _ I1 q1) λu s2 ⟨y,H2,I2,r2,q2⟩ =>
  dC (ho ai s2 σ H2 x y v u _ I2 r1 r2 q2) λc s3 ⟨z,H3,I3,r3,k,e,q3⟩=>?_) hm
 subst e;cases r3;exact mD ⟨H3,I3,q3⟩
def Jp (K:bp)(x:V)(H:Hp)(k:Bool):Prop :=
 match x with
 | .fu=>k=false
 | .bl b=>k=b
 | .int i=>k=(i != 0)
 | .str y=>y.length<=sizeLine/\k=((y.length:Int) != 0)
 | .E4 y=>y.size<=sizeLine/\k=((y.size:Int) != 0)
 | .ref p=>(∃xs,aI K H p xs/\k=!xs.isEmpty)\/(∃xs,aZ K H p xs/\k=!xs.isEmpty)\/∃kvs,H p=188/\k=!kvs.isEmpty
 | _=>False
def BJ {κ:Type}{kvs:List (κ×V)}{vs:List (κ×Value)}(r:KV kvs vs):(!vs.isEmpty)=!kvs.isEmpty:=by
 cases r <;> rfl
def s_ {xs:List V}{aV:z0n}(r:bH xs aV):(!aV.toArray.isEmpty)=!xs.isEmpty:=by
 cases r <;> simp
def xJ:(sizeLine:Nat) < 2 ^ 63:=by rw [ml];decide
def Nt:aam X (λx H Q=>∃k,Jp X.K x H k/\Q k H):=by
 intro ai s σ H x v Q I rx h;obtain⟨k,e,q⟩:=h;have hl:=xJ;have hs:sizeLine=16777216:=ml;cases x with
 | fu =>
  cases rx;have e':k=false:=e;subst e';exact truthy_none ⟨H,I,q⟩
 | bl b =>
  cases rx;have e':k=b:=e;subst e';exact mD ⟨H,I,q⟩
 | int i =>
  obtain⟨t,rfl⟩:=rx;have e':k=(i != 0):=e;subst e';exact PySem.P.truthy_int ⟨H,I,q⟩
 | str y =>
  obtain⟨t,rfl⟩:=rx;obtain⟨hy,e'⟩:y.length<=sizeLine/\k=((y.length:Int) != 0):=e;subst e';exact PySem.P.truthy_str ∅ ⟨H,I.tok _,q⟩
 | E4 y =>
  obtain⟨t,rfl⟩:=rx;obtain⟨hy,e'⟩:y.size<=sizeLine/\k=((y.size:Int) != 0):=e;subst e';exact PySem.W.truthy_bytes ∅ ⟨H,I.tok _,q⟩
 | ref p =>
  cases rx;have e':(∃xs,aI X.K H p xs/\k=!xs.isEmpty)\/(∃xs,aZ X.K H p xs/\k=!xs.isEmpty)\/∃kvs,H p=188/\k=!kvs.isEmpty:=e;rcases e' with ⟨xs,hx,e'⟩ | ⟨xs,hx,e'⟩ | ⟨kvs,hx,e'⟩
  .subst e';obtain⟨aV,r,pl,hz⟩:=I.list hx;have bO:=r.length;exact wpAny_truthy_list pl.isList (by simp only [cJ];omega) ⟨H,I.tok _,by rw [s_ r];exact q⟩
  .subst e';obtain⟨aV,r,pl,hz⟩:=I.tuple hx;have bO:=r.length;exact truthy_tuple pl (by simp only [cJ];omega) ⟨H,I.tok _,by rw [s_ r];exact q⟩
  subst e';obtain⟨hz,hS,vs,r,m⟩:kvs.length<=sizeLine/\(p == sysModules)=false/\∃vs,KV kvs vs/\s.heap.DictOf (aY X.prog X.w) p vs:=I.cw p _ hx;have bO:kvs.length=vs.length:=a7 r;exact wpAny_truthy_dict hS m ∅ ⟨H,I.tok _,by rw [BJ r];exact q⟩
 | _=>exact(show False from e).elim
def iT (ha:PE X a ta)(he:∀whole,isTrue a X.env whole=(do let v <-whole;standAt a.pos;holding [v] (truthy v))) :
  PT X a (λσ H Q=>ta σ H λx H'=>∃k,Jp X.K x H' k/\Q k H'):=by
 intro ai s σ H Q I h;refine isTrue_plain (dC (ha ai s σ H _ I h) λv s1 bI=>?_) (he _);obtain⟨x,H1,I1,r1,q1⟩:=bI;exact Nt ai s1 σ H1 x v Q I1 r1 q1
def Bi:ng X (binaryOp .Add) (λx y H Q=>∃i j,x=.str i/\y=.str j/\i.length+j.length<=sizeLine/\Q (.str (i++j)) H):=by
 intro ai s σ H x y v u Q I rx ry h;obtain⟨i,j,rfl,rfl,hz,q⟩:=h;obtain⟨t,rfl⟩:=rx;obtain⟨t',rfl⟩:=ry;exact add_str (λt' tk=>⟨.str (i++j),H,I.tok _,157,q⟩) hz
def vals1 {x:V}{us:z0n}(r:bH [x] us):∃u,us=[u]/\RelV x u:=by
 cases r with
 | cons r1 r2=>cases r2;exact⟨_,rfl,r1⟩
def vals2 {x y:V}{us:z0n}(r:bH [x,y] us):∃u w',us=[u,w']/\RelV x u/\RelV y w':=by
 cases r with
 | cons r1 r2 =>
  cases r2 with
  | cons r3 r4=>cases r4;exact⟨_,_,rfl,r1,r3⟩
def vQ (hc:X.calm=true):i0 X (.builtin "max") (λxs H Q=>∃i j,xs=[.int i,.int j]/\Q (.int (if j > i then j else i)) H):=by
 intro ai s σ H xs us Q I r h;obtain⟨i,j,rfl,q⟩:=h;obtain⟨u,w',rfl,⟨t,rfl⟩,⟨t',rfl⟩⟩:=vals2 r;refine max_two_ints (I.ok.hd hc) λh' tk k=>⟨_,H,I.kept k,?_,q⟩;by_cases hj:j > i
 .rw [aw hj,aw hj];exact 157
 rw [au hj,au hj];exact 157
def E3 (hc:X.calm=true):i0 X (.builtin "min") (λxs H Q=>∃i j,xs=[.int i,.int j]/\Q (.int (if j < i then j else i)) H):=by
 intro ai s σ H xs us Q I r h;obtain⟨i,j,rfl,q⟩:=h;obtain⟨u,w',rfl,⟨t,rfl⟩,⟨t',rfl⟩⟩:=vals2 r;refine min_two_ints (I.ok.hd hc) λh' tk k=>⟨_,H,I.kept k,?_,q⟩;by_cases hj:j < i
 .rw [aw hj,aw hj];exact 157
 rw [au hj,au hj];exact 157
end
structure Ck (h:Heap)(x dx C:Addr)(mA:z0c):Prop where
 obj:h.get? x=some (PySem.W.instObj C dx)
 ns:h.Ns1 dx mA
 ne:dx≠x
def Et {h:Heap}{dx:Addr}{mA:z0c}(n:h.Ns1 dx mA):∃od,h.get? dx=some od/\∀name,PySem.W.lookIn name od=some (mA name):=by
 obtain⟨o,es,ep,ho,hd,hk,_,hm⟩:=n;refine⟨o,ho,λname=>?_⟩;have e:=hm name;unfold nsFind findBy at e;rw [<-Array.find?_toList] at e;unfold PySem.W.lookIn;rw [hd];dsimp only
 split
 .rename_i y q
  rw [q] at e;exact congrArg some e
 rename_i q
 rw [q] at e;have a:es.toList.any (·.refKey)=false:=by
  rw [List.any_eq_false];intro y hy;obtain⟨z,t,YI⟩:=hk y (Array.mem_toList_iff.mp hy);simp [DictEntry.refKey,YI]
 have a':¬es.toList.any (·.refKey)=true:=by rw [a];exact cX
 rw [au a'];exact congrArg some e
def Ck.look {h:Heap}{x dx C:Addr}{mA:z0c}(I:Ck h x dx C mA):∃od,PySem.W.InstAt h x (PySem.W.instObj C dx) C (some od)/\∀name,PySem.W.lookIn name od=some (mA name) :=
 let ⟨od,ho,hl⟩:=Et I.ns
 ⟨od,⟨I.obj,rfl,rfl,ho⟩,hl⟩
section
variable {prog:Program}{w:World}{A:Around}{E:z0b}{s:Shared}{K:bp}{x dx C f:Addr}{mA:z0c}{name:Str}{v:Value}
def get_map {expr:Bool}{Q:z0b}(X:K.In s.heap)(I:Ck s.heap x dx C mA)(hg:PySem.W.plainGet K C name=true)(hh:PySem.W.hasDictIn K C=true)
  (ha:PySem.W.findIn K (.ref C) name=some none)(hv:mA name=some v)(hv':PySem.W.handedIn v=true)(h:Q v { s with toks:=s.toks+1 }) :
  wpAny 158 A (getAttr (.ref x) name expr) Q E s:=by
 obtain⟨od,J,hl⟩:=I.look;exact PySem.W.get_value X J (PySem.W.plainGet_of hg).1 (PySem.W.findObj_own hh ha rfl (by rw [hl,hv])) hv' h
def IJ {pl:Sem Bool}{Q:Value×z0n->182}(X:K.In s.heap)(I:Ck s.heap x dx C mA)(hg:PySem.W.plainGet K C name=true)
  (hf:PySem.W.findIn K (.ref C) name=some (some (.ref f)))(ht:PySem.W.isFn K (.ref f)=true)(hv:mA name=none)(h:Q (.ref f,[.ref x]) s) :
  wpAny 158 A (getMethod (.ref x) name pl) Q E s:=by
 obtain⟨od,J,hl⟩:=I.look;exact PySem.W.method_fn X J (PySem.W.plainGet_of hg).1 (PySem.W.plainGet_of hg).2 hf (beq_iff_eq.mp ht) (by show (PySem.W.lookIn name od).map (·.isSome)=some false;rw [hl,hv];rfl) h
def Kc {ns:z0t}{Q:Unit->182}(X:K.In s.heap)(I:Ck s.heap x dx C mA)
  (hs:PySem.W.findIn K (.ref C) "__setattr__"=some (some (.builtin "object.__setattr__")))(hp:PySem.W.plainOver K C=true)(ht:PySem.W.takerIn K C name=some none)(hh:PySem.W.hasDictIn K C=true)
  (hw:PySem.Within mA ns)(hsz:ns.length<=sizeLine)
  (h:∀h',Ck h' x dx C (λy=>if y=name then some v else mA y)->Heap.SameBut dx s.heap h'->Q () { s with heap:=h',toks:=s.toks+2 }) :
  wpAny 158 A (setAttr (.ref x) name v) Q E s:=by
 obtain⟨od,J,hl⟩:=I.look;refine PySem.W.set_plain X J hs (PySem.W.osa_open (s:={ s with toks:=s.toks+1 }) (r:=none) X J hp ht λb=>?_);obtain⟨cd,hc,EH⟩:=PySem.W.any_some hh;have hx:s.heap.get? x=some ⟨.ref C,some dx,.plain,#[]⟩:=I.obj;refine aB (aH (aB (aB (wpAny_loadPart hx (aB (PySem.W.Looks.here (s:={ s with toks:=s.toks+1 }) (PySem.W.looks_clsIn X hc) ?_))))));rw [EH];refine aH (a:=some dx) (aB (aH (aB ?_)));refine wpAny_nsSet1 (s:={ s with toks:=s.toks+1 }) I.ns λh' Fw hs2=>?_;obtain⟨oD,esD,epD,hoD,hdD,hcD⟩:=Fw.count (PySem.Within.cons name v hw);refine aB (wpAny_lookBehind hoD (by rw [hdD];exact pastItsLine_dict (fJ hcD (by rw [dI];omega))) ?_);exact aH (h _ ⟨(hs2.2 _ (d8 I.ne)).trans I.obj,Fw,I.ne⟩ hs2)
def Ic {R:Result->182}{vs:z0n}{kw:z0d}(X:K.In s.heap)(hm:PySem.W.makesIn K C=true)
  (hi:PySem.W.findIn K (.ref C) "__init__"=some (some (.ref f)))(hf:PySem.W.typeIn K (.ref f)=some (.type "function"))
  (h:codeAny 158 (A.under (.builtin "type.__call__" ⟨.ref C::vs,kw⟩)) (.call (.ref f) ⟨.ref (s.heap.objs.size+1)::vs,kw⟩) (PySem.W.InitBack (s.heap.objs.size+1) R)
   { s with heap:=(s.heap.push PySem.W.emptyDict).push (PySem.W.instObj C s.heap.objs.size) }) :
  codeAny 158 A (.call (.ref C) ⟨vs,kw⟩) R s:=by
 obtain⟨hh,g,d,t,os⟩:=s;exact PySem.W.make_core (PySem.W.makes_of X hm) (PySem.W.looks_findIn X hi) (λself=>PySem.W.bind_fn X self hf) (.inl rfl) h
end
def dW (f:Str)(v:V):List (Str×V)->List (Str×V)
 | []=>[(f,v)]
 | (g,x)::r=>if g=f then (g,v)::r else (g,x)::dW f v r
theorem qb (f g:Str)(v:V):∀fs:List (Str×V),(dW f v fs).lookup g=if g=f then some v else fs.lookup g
 | []=>by
  show List.lookup g [(f,v)]=_;by_cases h:g=f
  .have hb:(g == f)=true:=beq_iff_eq.mpr h;simp only [List.lookup,hb,aw h]
  have hb:(g == f)=false:=ki.mpr h;simp only [List.lookup,hb,au h]
 | (k,x)::r=>by
  have ih:=qb f g v r;rw [show dW f v ((k,x)::r)=(if k=f then (k,v)::r else (k,x)::dW f v r) from rfl];by_cases hk:k=f
  .rw [aw hk];by_cases h:g=k
   .have hb:(g == k)=true:=beq_iff_eq.mpr h;simp only [List.lookup,hb,aw (h.trans hk)]
   have hb:(g == k)=false:=ki.mpr h;simp only [List.lookup,hb,au (λe:g=f=>h (e.trans hk.symm))]
  rw [au hk];by_cases h:g=k
  .have hb:(g == k)=true:=beq_iff_eq.mpr h;simp only [List.lookup,hb,au (λe:g=f=>hk (h.symm.trans e))]
  have hb:(g == k)=false:=ki.mpr h;simp only [List.lookup,hb];exact ih
theorem px (f:Str)(v:V):∀fs:List (Str×V),f∈(dW f v fs).map 87/\∀g,g∈fs.map 87->g∈(dW f v fs).map 87
 | []=>⟨by simp [dW],λg h=>by simp at h⟩
 | (k,x)::r=>by
  obtain⟨i1,i2⟩:=px f v r;rw [show dW f v ((k,x)::r)=(if k=f then (k,v)::r else (k,x)::dW f v r) from rfl];by_cases hk:k=f
  .rw [aw hk];subst hk;exact⟨92,λg h=>by simpa using h⟩
  rw [au hk];refine⟨?_,λg h=>?_⟩
  .rw [cI];exact cT _ i1
  rw [cI] at h ⊢;rcases b8.mp h with e | e
  .exact b8.mpr (.inl e)
  exact cT _ (i2 g e)
theorem qc (f:Str)(v:V):∀fs:List (Str×V),(dW f v fs).length<=fs.length+1
 | []=>by simp [dW]
 | (k,x)::r=>by
  have ih:=qc f v r;rw [show dW f v ((k,x)::r)=(if k=f then (k,v)::r else (k,x)::dW f v r) from rfl];by_cases hk:k=f
  .rw [aw hk,dI,dI];omega
  rw [au hk,dI,dI];omega
def jY.some_of {v:V}{o:z0k}(r:jY (some v) o):∃u,o=some u/\RelV v u:=by
 cases o with
 | none=>exact(show False from r).elim
 | some u=>exact⟨u,rfl,r⟩
def jY.none_of {o:z0k}(r:jY none o):o=none:=by
 cases o with
 | none=>rfl
 | some u=>exact(show False from r).elim
def EJ {v:V}{u:Value}(r:RelV v u):PySem.W.handedIn u=true:=by
 cases v with
 | fu=>cases (show u=Value.none from r);rfl
 | bl b=>cases (show u=Value.bool b from r);rfl
 | int i=>obtain⟨t,e⟩:=(show ∃t,u=Value.int i t from r);cases e;rfl
 | str x=>obtain⟨t,e⟩:=(show ∃t,u=Value.str x t from r);cases e;rfl
 | E4 b=>obtain⟨t,e⟩:=(show ∃t,u=Value.bytes b t from r);cases e;rfl
 | Tz b=>obtain⟨t,e⟩:=(show ∃t,u=Value.float b t from r);cases e;rfl
 | ref a=>cases (show u=Value.ref a from r);rfl
 | ty n=>cases (show u=Value.type n from r);rfl
section
variable {P:Program}{w:World}{H H':Hp}{h h':Heap}{a C dx:Addr}{fs MZ:List (Str×V)}
def xO (cw:m_ P w H h)(e:H a=some (.ins C dx fs)):∃mA,Ck h a dx C mA/\(∀f,jY (fs.lookup f) (mA f))/\PySem.Within mA (fs.map 87)/\fs.length<=1000/\H dx=some (.own a):=by
 obtain⟨d,z,ne,ob,mA,n,r,q⟩:=(show cQ P w H h a (.ins C dx fs) from cw a _ e);exact⟨mA,⟨ob,n,ne⟩,r,q,z,d⟩
end
structure Fi (K:bp)(C:Addr):Prop where
 pg:PySem.W.plainGet K C Str.empty=true
 hd:PySem.W.hasDictIn K C=true
 po:PySem.W.plainOver K C=true
 sa:PySem.W.findIn K (.ref C) "__setattr__"=some (some (.builtin "object.__setattr__"))
def Fi.get {K:bp}{C:Addr}(c:Fi K C)(f:Str):PySem.W.plainGet K C f=true:=c.pg
def d0 (K:bp)(C:Addr)(f:Str):Prop:=PySem.W.findIn K (.ref C) f=some none
def d0.QZ {K:bp}{C:Addr}{f:Str}(n:d0 K C f):PySem.W.takerIn K C f=some none:=by
 unfold PySem.W.takerIn;rw [show PySem.W.findIn K (.ref C) f=some none from n];rfl
structure Meth (K:bp)(C:Addr)(m:Str)(f:Addr):Prop where
 at_:PySem.W.findIn K (.ref C) m=some (some (.ref f))
 fn:PySem.W.isFn K (.ref f)=true
 kp:PySem.W.keepIn K (.ref f)=true
section
variable {X:Cx}{ai:z0e}{σ:St}{H:Hp}{s:Shared}{a C dx:Addr}{fs:List (Str×V)}{f:Str}{v:V}{A:Around}{E:z0b}
def BU {b:Bool}{Q:z0b}(I:141)(e:H a=some (.ins C dx fs))(c:Fi X.K C)(n:d0 X.K C f)(l:fs.lookup f=some v)
  (h:∀u s',Inv X ai σ H s'->RelV v u->Q u s'):wpAny 151 A (getAttr (.ref a) f b) Q E s:=by
 obtain⟨mA,O,r,_,_,_⟩:=xO I.cw e;obtain⟨u,hu,ru⟩:=jY.some_of (v:=v) (o:=mA f) (by rw [<-l];exact r f);exact get_map I.zo O (c.get f) c.hd n hu (EJ ru) (h u _ (I.tok _) ru)
def mU {m:Str}{g:Addr}{pl:Sem Bool}{Q:Value×z0n->182}(I:141)(e:H a=some (.ins C dx fs))(c:Fi X.K C)(k:Meth X.K C m g)(l:fs.lookup m=none)
  (h:Q (.ref g,[.ref a]) s):wpAny 151 A (getMethod (.ref a) m pl) Q E s:=by
 obtain⟨mA,O,r,_,_,_⟩:=xO I.cw e;have hn:mA m=none:=jY.none_of (by rw [<-l];exact r m);exact IJ I.zo O (c.get m) k.at_ k.fn hn h
def AN {y:V}{u:Value}{Q:Unit->182}(I:141)(e:H a=some (.ins C dx fs))(c:Fi X.K C)(n:d0 X.K C f)(hl:fs.length < 1000)(ry:RelV y u)
  (h:∀s',Inv X ai σ (upd H a (.ins C dx (dW f y fs))) s'->Q () s'):wpAny 151 A (setAttr (.ref a) f u) Q E s:=by
 obtain⟨mA,O,r,wi,_,ho⟩:=xO I.cw e;have hz:(fs.map 87).length<=sizeLine:=by rw [ar,ml];omega
 refine Kc I.zo O c.sa c.po n.QZ c.hd wi hz λh' O' sb=>h _ ?_;have hd:∃o,h'.get? dx=some o:=let ⟨o,_,_,e',_⟩:=O'.ns;⟨o,e'⟩;refine I.write (x:=a) (e:=dx) (by rw [e];exact True.intro) (.inr ho) (λb q hb z=>(sb.2 b hb).trans z) hd ?_;refine⟨by rw [aj O.ne];exact ho,?_,O.ne,O'.obj,_,O'.ns,λg=>?_,λg hg=>?_⟩
 .have:=qc f y fs;omega
 .show jY ((dW f y fs).lookup g) (if g=f then some u else mA g);rw [qb];by_cases q:g=f
  .rw [aw q,aw q];exact ry
  rw [au q,au q];exact r g
 by_cases q:g=f
 .rw [q];exact(px f y fs).1
 refine(px f y fs).2 g (wi g λz=>hg ?_);show (if g=f then some u else mA g)=none;rw [au q];exact z
def Inv.made (I:141):Inv X ai σ (upd (upd H s.heap.objs.size (.own (s.heap.objs.size+1))) (s.heap.objs.size+1) (.ins C s.heap.objs.size []))
  { s with heap:=(s.heap.push PySem.W.emptyDict).push (PySem.W.instObj C s.heap.objs.size) }:=by
 have e1:(s.heap.push PySem.W.emptyDict).get? s.heap.objs.size=some PySem.W.emptyDict:=dB s.heap rfl;have e2:((s.heap.push PySem.W.emptyDict).push (PySem.W.instObj C s.heap.objs.size)).get? (s.heap.objs.size+1)=some (PySem.W.instObj C s.heap.objs.size):=by
  have:=dB (s.heap.push PySem.W.emptyDict) (o:=PySem.W.instObj C s.heap.objs.size) rfl;rwa [oJ] at this
 have e3:(s.heap.push PySem.W.emptyDict).Ns s.heap.objs.size (λ_=>none):=⟨PySem.W.emptyDict,#[],_,e1,rfl,(λe he=>absurd he 144),λ_=>rfl⟩;have I1:=I.laid (a:=s.heap.objs.size) (o:=.own (s.heap.objs.size+1)) (h':=s.heap.push PySem.W.emptyDict) (t':=s.toks) (λb u q=>cg _ q) (aG _) ⟨_,e1⟩;refine I1.laid (a:=s.heap.objs.size+1) (o:=.ins C s.heap.objs.size []) (t':=s.toks) (λb u q=>cg _ q) (Nat.le_of_eq (oJ _ _)) ?_;have ne:s.heap.objs.size≠s.heap.objs.size+1:=bV (lS _);refine⟨by rw [aj ne,ae],gr _,ne,e2,λ_=>none,(Heap.Ns1.of_empty e3).at λo q=>cg _ q,λ_=>True.intro,λy hy=>absurd rfl hy⟩
def LS {prog:Program}{w:World}{env:Env}{e:Expr}{f:Str}{pos:Pos}{s:Shared}{Q:z0b}(hb:attributeBase e f env (eval e env)=eval e env)
  (h:wpAny 158 A (eval e env) (λo s₁=>wpAny 158 A (getAttr o f true) Q E s₁) E s):wpAny 158 A (eval (.Attribute e f pos) env) Q E s :=
 Attribute_any_ h (by rw [arm_eval_Attribute,hb])
end
inductive Ur (K:bp)(H:Hp)(f:Str)(x:V)(R:V->Prop):Prop
|mk(a C dx:Addr)(fs:List (Str×V))(v:V)(e:x=.ref a)(h:H a=some (.ins C dx fs))(c:Fi K C)(n:d0 K C f)(l:fs.lookup f=some v)(q:R v)
inductive XSf (K:bp)(H:Hp)(f:Str)(x:V)(R:Addr->Addr->Addr->List (Str×V)->Prop):Prop
|mk(a C dx:Addr)(fs:List (Str×V))(e:x=.ref a)(h:H a=some (.ins C dx fs))(c:Fi K C)(n:d0 K C f)(l:fs.length < 1000)(q:R a C dx fs)
def Q9 (K:bp)(ta:TE)(f:Str):TE:=λσ H Q=>ta σ H λx H1=>Ur K H1 f x λv=>Q v H1
def WT (K:bp)(ta tv:TE)(f:Str):TS:=λD σ H=>tv σ H λy H1=>ta σ H1 λx H2=>XSf K H2 f x λa C dx fs=>D.nx σ (upd H2 a (.ins C dx (dW f y fs)))
section
variable {X:Cx}{o e value:Expr}{f:Str}{pos pos' wW:Pos}{ta tv:TE}
def dA (he:PE X e ta)(hb:attributeBase e f X.env (eval e X.env)=eval e X.env):PE X (.Attribute e f pos) (Q9 X.K ta f):=by
 intro ai s σ H Q I h;refine LS hb (dC (he ai s σ H _ I h) λu s1 bI=>?_);obtain⟨x,H1,I1,rx,a,C,dx,fs,v,ex,ea,c,n,l,q⟩:=bI;subst ex;obtain rfl:u=Value.ref a:=rx;exact BU I1 ea c n l λu' s2 I2 ru=>⟨v,H1,I2,ru,q⟩
def gX (ha:PE X o ta)(hv:PE X value tv)(hs:swapsWith value (some (.Attribute o f pos')) pos.line X.env=pure false):PS X (.Assign [.Attribute o f pos'] value pos) (WT X.K ta tv f):=by
 intro ai s σ H D I h;refine plainObj_wpAny_Assign_Attribute (dC (hv ai s σ H _ I h) λu s1 bI=>?_) hs;obtain⟨y,H1,I1,ry,q⟩:=bI;refine dC (ha ai s1 σ H1 _ I1 q) λov s2 bI=>?_;obtain⟨x,H2,I2,rx,a,C,dx,fs,ex,ea,c,n,l,q2⟩:=bI;subst ex;obtain rfl:ov=Value.ref a:=rx;exact AN I2 ea c n l ry λs3 I3=>⟨σ,_,I3,q2⟩
def MC {pl:Sem Bool}{m:Str}{apos:Pos}{args:z0r}{ai:z0e}{s:Shared}{σ:St}{H:Hp}{Q:z0b}{te:TE}(he:PE X e te)(I:141)
  (h:te σ H λx H1=>∃a C dx fs g,x=.ref a/\H1 a=some (.ins C dx fs)/\Fi X.K C/\Meth X.K C m g/\fs.lookup m=none /\
   ∀s1,Inv X ai σ H1 s1->wpAny 151 X.A (callWith pos (.ref g) [.ref a] (backTo pos (starEach args X.env)) (backToKw pos (keywordEach [] X.env))) Q X.xe s1)
  (ht:eval (.Call (.Attribute e m apos) args [] pos) X.env=(do
   let ov <-eval e X.env
   standAt apos.atName
   let (f,first) <-holding [ov] (getMethod ov m pl)
   callWith pos f first (backTo pos (starEach args X.env)) (backToKw pos (keywordEach [] X.env)))) :
  wpAny 151 X.A (eval (.Call (.Attribute e m apos) args [] pos) X.env) Q X.xe s:=by
 refine PySem.W.methodCall_KW (pl:=pl) (dC (he ai s σ H _ I h) λu s1 bI=>?_) ht;obtain⟨x,H1,I1,rx,a,C,dx,fs,g,ex,ea,c,k,l,q⟩:=bI;subst ex;obtain rfl:u=Value.ref a:=rx;exact mU I1 ea c k l (q s1 I1)
end
section
variable {X:Cx}{ai:z0e}{σ:St}{H:Hp}{s:Shared}{A:Around}{E:z0b}{Q:z0b}{c:Value}{b:Bool}
end
structure gF (k:Nat)(A:Around):Prop where
 hd:A.handled=none
 dp:A.depth+3 * k+5 < recursionLimit
 un:A.units+16 * k+200 < cLine
 gd:A.guards=some []
def gF.mono {j k:Nat}{A:Around}(r:gF k A)(h:j<=k):gF j A:=⟨r.hd,by have:=r.dp;omega,by have:=r.un;omega,r.gd⟩
theorem gF.deeper {k:Nat}{A:Around}(r:gF (k+1) A)(env:Env):gF k (A.deeper env) :=
 ⟨r.hd,by have:=r.dp;show A.depth+1+3 * k+5 < _;omega,by have:=r.un;show A.units+3+16 * k+200 < _;omega,r.gd⟩
def Bu {A:Around}{C:Addr}{us:z0n}{kw:z0d}:(A.under (.builtin "type.__call__" ⟨.ref C::us,kw⟩)).depth=A.depth+1:=by
 first | rfl | simp [Around.under,Code.weight,Code.isCreation,Code.isGuard,Code.isCaller,Code.frames,Code.isFrame,guardIds]
def Bt {A:Around}{C:Addr}{us:z0n}{kw:z0d}:(A.under (.builtin "type.__call__" ⟨.ref C::us,kw⟩)).units=A.units+1:=by
 first | rfl | simp [Around.under,Code.cUnits,Code.frames,Code.isFrame]
def zk {A:Around}{C:Addr}{us:z0n}{kw:z0d}:(A.under (.builtin "type.__call__" ⟨.ref C::us,kw⟩)).guards=A.guards:=by
 first | rfl | simp [Around.under,Code.guards,Code.isGuard,guardIds,pushGuards]
def gF.make {k:Nat}{A:Around}(r:gF (k+1) A)(C:Addr)(us:z0n)(kw:z0d):gF k (A.under (.builtin "type.__call__" ⟨.ref C::us,kw⟩)) :=
 ⟨r.hd,by have:=r.dp;rw [Bu];omega,by have:=r.un;rw [Bt];omega,by rw [zk];exact r.gd⟩
theorem gF.depth {k:Nat}{A:Around}(r:gF k A):A.depth < recursionLimit:=by have:=r.dp;omega
theorem gF.units {k:Nat}{A:Around}(r:gF k A):A.units+64 < cLine:=by have:=r.un;omega
def qp:TA:=λ_ H Q=>Q [] H
def gT (ta:TE)(tr:TA):TA:=λσ H Q=>ta σ H λx H1=>tr σ H1 λxs H2=>Q (x::xs) H2
section
variable {X:Cx}{e:Expr}{es:z0r}{te:TE}{t:TA}{pos:Pos}
def ak:PA X [] qp:=λ_ _ _ _ H Q I h=>Calls.spliced_nil ⟨[],H,I,.nil,h⟩
def ab (ha:PE X e te)(hr:PA X es t)(hs:501:=by rfl):PA X (e::es) (gT te t):=by
 intro pos ai s σ H Q I h;rw [hs];show wpAny _ _ (spliced ((false,eval e X.env)::backTo pos (starEach es X.env))) _ _ s;refine oS (dC (ha ai s σ H _ I h) λu s1 bI=>?_);obtain⟨x,H1,I1,r1,q1⟩:=bI;refine dC (hr pos ai s1 σ H1 _ I1 q1) λus s2 bI=>?_;obtain⟨xs,H2,I2,r2,q2⟩:=bI;exact⟨x::xs,H2,I2,.cons r1 r2,q2⟩
def uA (t:TA):TE:=λσ H Q=>t σ H λxs H1=>xs.length<=sizeLine/\∀p,H1 p=none->Q (.ref p) (upd H1 p (.tup xs))
def Q7 (t:TA):TE:=λσ H Q=>t σ H λxs H1=>xs.length<=sizeLine/\∀p,H1 p=none->Q (.ref p) (upd H1 p (.lst xs))
def bX {x1}(h:PA X es t):PE X (.Tuple es x1 pos) (uA t):=by
 intro ai s σ H Q I hq;refine wpAny_Tuple_spliced (dC (h pos ai s σ H _ I hq) λus s1 bI=>?_);obtain⟨xs,H1,I1,r,z,q⟩:=bI;refine⟨by rw [<-r.length];exact z,?_⟩;have hf:H1 s1.heap.objs.size=none:=I1.cw.fresh (aG _);refine⟨.ref s1.heap.objs.size,upd H1 s1.heap.objs.size (.tup xs),I1.laid (t':=s1.toks) (λb u e=>cg _ e) (aG _) ?_,rfl,q _ hf⟩;exact⟨z,us,r,⟨_,dB _ rfl,rfl,_,rfl⟩⟩
def bK (h:PA X es t):PE X (.List es pos) (Q7 t):=by
 intro ai s σ H Q I hq;refine wpAny_List_spliced (dC (h pos ai s σ H _ I hq) λus s1 bI=>?_);obtain⟨xs,H1,I1,r,z,q⟩:=bI;refine⟨by rw [<-r.length];exact z,?_⟩;have hf:H1 s1.heap.objs.size=none:=I1.cw.fresh (aG _);refine⟨.ref s1.heap.objs.size,upd H1 s1.heap.objs.size (.lst xs),I1.laid (t':=s1.toks) (λb u e=>cg _ e) (aG _) ?_,rfl,q _ hf⟩;exact⟨z,us,0,r,dB _ rfl⟩
end
abbrev Sp:=List V->Hp->VK->XK->Prop
abbrev Fj:=List Env->Hp->Shared->XK->Value->182
structure Aa (P:Program)(w:World)(K:bp)(mg:z0c)(base:Heap)(A:Around)(outer:List Env)(s:Shared)(H:Hp):Prop where
 frames:A.frames=some outer
 mod:Mod K mg base
 bs:∀b o,base.get? b=some o->185/\H b=none
 LR:base.objs.size<=s.heap.objs.size
 qz:s.heap.FunFrames base outer
 O4:∀b∈EM outer,H b=none
 cw:m_ P w H s.heap
 bare:AllBare s.gens
def CE (outer:List Env)(P:Program)(w:World)(H:Hp)(s:Shared)(Q:VK)(u:Value)(s':Shared):Prop :=
 ∃v H',s'.os=s.os/\AllBare s'.gens/\Un (EM outer) [] H H' s.heap s'.heap/\m_ P w H' s'.heap/\RelV v u/\Q v H'
def CR (CX:Fj)(outer:List Env)(P:Program)(w:World)(H:Hp)(s:Shared)(Q:VK)(E:XK)(r:Result)(s':Shared):Prop :=
 match r with
 | .ok (.ret u)=>CE outer P w H s Q u s'
 | .ok _=>False
 | .error e=>CX outer H s E e s'
structure bR (P:Program)(w:World)(K:bp)(mg:z0c)(base:Heap)(CX:Fj) (k:Nat)(f:Addr)(fd:FuncData) (ps:z0t)(sp:Sp):Prop where
 len:∀vs H Q E,sp vs H Q E->vs.length=ps.length
 run:∀(A:Around)(outer:List Env)(s:Shared)(H:Hp)(args:Args)(us:z0n)(vs:List V)(Q:VK)(E:XK),gF k A->Aa P w K mg base A outer s H->BindsTo s fd args (ps.zip us)->bH vs us->sp vs H Q E ->
  codeAny (model P w) A (.call (.ref f) args) (CR CX outer P w H s Q E) s
theorem bR.mono {P:Program}{w:World}{K:bp}{mg:z0c}{base:Heap}{CX:Fj}{j k:Nat}{f:Addr}{fd:FuncData}{ps:z0t}{sp:Sp}(F:bR P w K mg base CX j f fd ps sp)(h:j<=k) :
  bR P w K mg base CX k f fd ps sp:=⟨F.len,λA outer s H args us vs Q E hr=>F.run A outer s H args us vs Q E (hr.mono h)⟩
def Aa.make {P:Program}{w:World}{K:bp}{mg:z0c}{base:Heap}{A:Around}{outer:List Env}{s:Shared}{H:Hp}(e:Aa P w K mg base A outer s H)(C:Addr)(us:z0n)(kw:z0d) :
  Aa P w K mg base (A.under (.builtin "type.__call__" ⟨.ref C::us,kw⟩)) outer s H:=⟨by first | exact e.frames | (simpa [Around.under,Code.envs,Code.isFrame,pushEnvs] using e.frames),e.mod,e.bs,e.LR,e.qz,e.O4,e.cw,e.bare⟩
section
variable {X:Cx}{ai:z0e}{σ:St}{H:Hp}{s s':Shared}
def Inv.Pd (I:141):Aa X.prog X.w X.K X.mg X.base X.A X.stack s H :=
 ⟨I.ok.frames,I.ok.mod,I.bs,fJ I.ok.LR I.sz,I.stack,I.Cz,I.cw,I.bare⟩
def Inv.after {Q:VK}{u:Value}(I:141)(h:CE X.stack X.prog X.w H s Q u s'):EP X ai σ Q u s':=by
 obtain⟨v,H',os,bare,un,cw,r,q⟩:=h;obtain⟨hh,g,d,t,os'⟩:=s';obtain rfl:os'=s.os:=os;exact⟨v,H',I.call (h':=hh) (g':=g) (d':=d) (t':=t) (ch:=[]) un cw bare (λb z=>absurd z 144),r,q⟩
end
def Mh (sp:Sp)(dvs:List V)(E:XK)(t:TA):TE:=λσ H Q=>t σ H λvs H1=>sp (vs++dvs) H1 Q E
def Mg (C:Addr)(m:Str)(sp:Sp)(dvs:List V)(E:XK)(ta:TE)(t:TA):TE:=λσ H Q=>ta σ H λx H1=>∃a dx fs,x=.ref a/\H1 a=some (.ins C dx fs)/\fs.lookup m=none /\
 t σ H1 λvs H2=>sp (x::(vs++dvs)) H2 Q E
def Q6 (C:Addr)(sp:Sp)(dvs:List V)(E:XK)(t:TA):TE:=λσ H Q=>t σ H λvs H1=>∀x dx,H1 x=none->H1 dx=none->dx≠x ->
 sp (.ref x::(vs++dvs)) (upd (upd H1 dx (.own x)) x (.ins C dx [])) (λv H2=>v=.fu/\Q (.ref x) H2) E
def Binds (K:bp)(fd:FuncData) (ps:z0t)(ds:z0n):Prop :=
 ∀(s:Shared)(us:z0n),K.In s.heap->(us++ds).length=ps.length->BindsTo s fd ⟨us,[]⟩ (ps.zip (us++ds))
def Binds.all {K:bp}{fd:FuncData}{ps:z0t}(h:∀us:z0n,us.length=ps.length->bindArgs fd ⟨us,[]⟩=pure (ps.zip us)):Binds K fd ps []:=λs us _ hl=>by
 rw [dN] at hl ⊢;exact .of_eq (h us hl)
def Passes (CX:Fj)(X:Cx)(E:XK):Prop:=∀(ai:z0e)(σ:St)(H:Hp)(s:Shared)(e:Value)(s':Shared),141->CX X.stack H s E e s'->X.xe e s'
section
variable {X:Cx}{CX:Fj}{k:Nat}{f C:Addr}{fd:FuncData}{ps:z0t}{sp:Sp}{dvs:List V}{ds:z0n}{E:XK}{x m:Str}{p pos apos:Pos}{e o:Expr}{es:z0r}{ta:TE}{t:TA}
def A8 {ai:z0e}{σ:St}{H:Hp}{s:Shared}{Q:VK}{us:z0n}{vs:List V}(F:bR X.prog X.w X.K X.mg X.base CX k f fd ps sp)(hr:gF k X.A)(hb:Binds X.K fd ps ds)(hd:bH dvs ds)(hx:Passes CX X E)
  (I:141)(r:bH vs us)(h:sp (vs++dvs) H Q E):wpAny 151 X.A (call (.ref f) us) (EP X ai σ Q) X.xe s:=by
 have r2:bH (vs++dvs) (us++ds):=r.append hd;have hl:(us++ds).length=ps.length:=by rw [<-r2.length];exact F.len _ _ _ _ h
 refine kn (codeAny_mono (F.run X.A X.stack s H ⟨us,[]⟩ (us++ds) (vs++dvs) Q E hr I.Pd (hb s us I.zo hl) r2 h) λr s' hq=>?_);cases r with
 | error e=>exact hx ai σ H s e s' I hq
 | ok fl =>
  cases fl with
  | ret u=>exact I.after hq
  | next=>exact False.elim hq
  | brk=>exact False.elim hq
  | cont=>exact False.elim hq
def Kz (F:bR X.prog X.w X.K X.mg X.base CX k f fd ps sp)(hr:gF k X.A)(hg:Gl X x)(hm:X.mg x=some (.ref f))(hk:PySem.W.keepIn X.K (.ref f)=true)(hb:Binds X.K fd ps ds)(hd:bH dvs ds)(hx:Passes CX X E)
  (ha:PA X (e::es) t)(EG:(x == ("__debug__":Str))=false:=by decide)(he:501:=by rfl)(C_:(backTo pos (starEach es X.env)).any 87=false:=by rfl) :
  PE X (.Call (.Name x p) (e::es) [] pos) (Mh sp dvs E t):=by
 intro ai s σ H Q I h;refine q0 (xM I hg hm ?_ EG);refine PySem.W.callWith_K (h₀:=X.base) I.ok.mod.Sk hk (dC (ha pos ai s σ H _ I h) λus s1 bI=>?_) he C_;obtain⟨vs,H1,I1,r,q⟩:=bI;refine⟨I1.zo,?_⟩;exact A8 F hr hb hd hx I1 r q
def nY {pl:Sem Bool}(he:PE X o ta)(c:Fi X.K C)(hm:Meth X.K C m f)(F:bR X.prog X.w X.K X.mg X.base CX k f fd ps sp)(hr:gF k X.A)(hb:Binds X.K fd ps ds)(hd:bH dvs ds)(hx:Passes CX X E)(ha:PA X (e::es) t)
  (yl:501:=by rfl)(C_:(backTo pos (starEach es X.env)).any 87=false:=by rfl)
  (ht:eval (.Call (.Attribute o m apos) (e::es) [] pos) X.env=(do
   let ov <-eval o X.env
   standAt apos.atName
   let (f,first) <-holding [ov] (getMethod ov m pl)
   callWith pos f first (backTo pos (starEach (e::es) X.env)) (backToKw pos (keywordEach [] X.env))):=by rfl) :
  PE X (.Call (.Attribute o m apos) (e::es) [] pos) (Mg C m sp dvs E ta t):=by
 intro ai s σ H Q I h;refine PySem.W.methodCall_KW (pl:=pl) (dC (he ai s σ H _ I h) λu s1 bI=>?_) ht;obtain⟨x,H1,I1,rx,a,dx,fs,ex,ea,l,q⟩:=bI;subst ex;obtain rfl:u=Value.ref a:=rx;refine mU I1 ea c hm l ?_;refine PySem.W.callWith_K (first:=[.ref a]) (h₀:=X.base) I.ok.mod.Sk hm.kp (dC (ha pos ai s1 σ H1 _ I1 q) λus s2 bI=>?_) yl C_;obtain⟨vs,H2,I2,r,q2⟩:=bI;refine⟨I2.zo,?_⟩;exact A8 (us:=.ref a::us) (vs:=.ref a::vs) F hr hb hd hx I2 (.cons rfl r) q2
def G9 {pl:Sem Bool}(he:PE X o ta)(c:Fi X.K C)(hm:Meth X.K C m f)(F:bR X.prog X.w X.K X.mg X.base CX k f fd ps sp)(hr:gF k X.A)(hb:Binds X.K fd ps ds)(hd:bH dvs ds)(hx:Passes CX X E)
  (ht:eval (.Call (.Attribute o m apos) [] [] pos) X.env=(do
   let ov <-eval o X.env
   standAt apos.atName
   let (f,first) <-holding [ov] (getMethod ov m pl)
   callWith pos f first (backTo pos (starEach [] X.env)) (backToKw pos (keywordEach [] X.env))):=by rfl) :
  PE X (.Call (.Attribute o m apos) [] [] pos) (Mg C m sp dvs E ta qp):=by
 intro ai s σ H Q I h;refine PySem.W.methodCall_KW (pl:=pl) (dC (he ai s σ H _ I h) λu s1 bI=>?_) ht;obtain⟨x,H1,I1,rx,a,dx,fs,ex,ea,l,q⟩:=bI;subst ex;obtain rfl:u=Value.ref a:=rx;refine mU I1 ea c hm l ?_;exact PySem.W.callWith_K0 (first:=[.ref a]) I1.zo hm.kp (A8 (us:=[.ref a]) (vs:=[.ref a]) F hr hb hd hx I1 (.cons rfl .nil) q)
structure Mk (K:bp)(C f:Addr):Prop where
 makes:PySem.W.makesIn K C=true
 init:PySem.W.findIn K (.ref C) "__init__"=some (some (.ref f))
 fn:PySem.W.isFn K (.ref f)=true
 kp:PySem.W.keepIn K (.ref C)=true
def GI {ai:z0e}{σ:St}{H:Hp}{s:Shared}{Q:VK}{us:z0n}{vs:List V}(M:Mk X.K C f)(F:bR X.prog X.w X.K X.mg X.base CX k f fd ps sp)(hr:gF (k+1) X.A)(hb:Binds X.K fd ps ds)(hd:bH dvs ds)
  (hx:Passes CX X E)(I:141)(r:bH vs us)
  (h:∀x dx,H x=none->H dx=none->dx≠x->sp (.ref x::(vs++dvs)) (upd (upd H dx (.own x)) x (.ins C dx [])) (λv H2=>v=.fu/\Q (.ref x) H2) E) :
  wpAny 151 X.A (call (.ref C) us) (EP X ai σ Q) X.xe s:=by
 have hq:=h (s.heap.objs.size+1) s.heap.objs.size (I.cw.fresh (oE _)) (I.cw.fresh (aG _)) (bV (lS _));have I2:=Inv.made (C:=C) I;have r2:bH (V.ref (s.heap.objs.size+1)::(vs++dvs)) (Value.ref (s.heap.objs.size+1)::(us++ds)):=.cons rfl (r.append hd);have hl:(Value.ref (s.heap.objs.size+1)::us++ds).length=ps.length:=by
  have e:=r2.length;rw [F.len _ _ _ _ hq] at e;exact e.symm
 refine kn (Ic (f:=f) I.zo M.makes M.init (beq_iff_eq.mp M.fn) (codeAny_mono (F.run _ X.stack _ _ ⟨Value.ref (s.heap.objs.size+1)::us,[]⟩ (Value.ref (s.heap.objs.size+1)::(us++ds)) _ _ E (hr.make C us [])
  (I2.Pd.make C us []) (hb _ (Value.ref (s.heap.objs.size+1)::us) I2.zo hl) r2 hq) λr s' Qm=>?_))
 cases r with
 | error e=>exact hx ai σ _ _ e s' I2 Qm
 | ok fl =>
  cases fl with
  | ret u =>
   obtain⟨v,H',I3,rv,ev,q3⟩:=I2.after Qm;subst ev;exact⟨rv,⟨V.ref (s.heap.objs.size+1),H',I3,rfl,q3⟩⟩
  | next=>exact False.elim Qm
  | brk=>exact False.elim Qm
  | cont=>exact False.elim Qm
def xC (M:Mk X.K C f)(F:bR X.prog X.w X.K X.mg X.base CX k f fd ps sp)(hr:gF (k+1) X.A)(hg:Gl X x)(hm:X.mg x=some (.ref C))(hb:Binds X.K fd ps ds)(hd:bH dvs ds)(hx:Passes CX X E)
  (ha:PA X (e::es) t)(EG:(x == ("__debug__":Str))=false:=by decide)(he:501:=by rfl)(C_:(backTo pos (starEach es X.env)).any 87=false:=by rfl) :
  PE X (.Call (.Name x p) (e::es) [] pos) (Q6 C sp dvs E t):=by
 intro ai s σ H Q I h;refine q0 (xM I hg hm ?_ EG);refine PySem.W.callWith_K (h₀:=X.base) I.ok.mod.Sk M.kp (dC (ha pos ai s σ H _ I h) λus s1 bI=>?_) he C_;obtain⟨vs,H1,I1,r,q⟩:=bI;refine⟨I1.zo,?_⟩;exact GI M F hr hb hd hx I1 r q
end
section
variable {X:Cx}{CX:Fj}{k:Nat}{f C:Addr}{fd:FuncData}{ps ks:z0t}{sp:Sp}{E:XK}{x m:Str}{p pos apos aaw:Pos}{e o:Expr}{es:z0r}{kws:List Keyword}{te ta:TE}{t tk:TA}{nm:Option Str}
variable {g:z0n->z0n->z0n}{gV:List V->List V->List V}
end
structure aK (N P:z0t)(sc:Scope):Prop where
 kind:sc.kind=.function
 co:sc.isCoroutine=false
 gen:sc.isGenerator=false
 nd:N.Nodup
 pre:N.take P.length=P
 par:∀x∈P,sc.names.lookup x=some .local\/sc.names.lookup x=some .cell
 Oj:∀y∈sc.names,y.2≠.free
def iG {N P:z0t}{sc:Scope}(a:sc.kind=.function)(b:sc.isCoroutine=false)(c:sc.isGenerator=false)(d:N.take P.length=P)(e:N.Nodup/\(∀x∈P,sc.names.lookup x=some .local\/sc.names.lookup x=some .cell)/\∀y∈sc.names,y.2≠.free):aK N P sc:=⟨a,b,c,e.1,d,e.2.1,e.2.2⟩
theorem vU {kindOf:Str->Option NameKind}{x:Str}:∀{binds:z0d}{m:z0c},(∀v,(x,v)∉binds)->bindL kindOf binds m x=m x
 | [],_,_=>rfl
 | (n,v)::r,m,h=>by
  unfold bindL;rw [vU λw hw=>h w (cT _ hw)]
  split
  .have:x≠n:=by rintro rfl;exact h v cS
   simp [this]
  rfl
theorem vW {kindOf:Str->Option NameKind}{x:Str}:∀{binds:z0d}{m:z0c},(∀v,(x,v)∉binds)->bindC kindOf binds m x=m x
 | [],_,_=>rfl
 | (n,v)::r,m,h=>by
  unfold bindC;rw [vW λw hw=>h w (cT _ hw)]
  split
  .rfl
  have:x≠n:=by rintro rfl;exact h v cS
  simp [this]
theorem vV {kindOf:Str->Option NameKind}{x:Str}{v:Value}:∀{P:z0t}{vs:z0n}{i:Nat}{m:z0c},P.Nodup->P[i]?=some x->vs[i]?=some v->kindOf x=some .local ->
  bindL kindOf (P.zip vs) m x=some v
 | [],_,_,_,_,h,_,_=>by simp at h
 | _::_,[],_,_,_,_,h,_=>by simp at h
 | p::P,w::vs,0,m,nd,h1,h2,hk=>by
  simp at h1 h2;subst h1;subst h2;show bindL kindOf ((p,w)::P.zip vs) m p=_;unfold bindL;rw [vU λv hv=>(hU.mp nd).1 (List.of_mem_zip hv).1,aw hk];simp
 | p::P,w::vs,i+1,m,nd,h1,h2,hk=>by
  show bindL kindOf ((p,w)::P.zip vs) m x=_;unfold bindL;exact vV (i:=i) (hU.mp nd).2 (by simpa using h1) (by simpa using h2) hk
theorem vX {kindOf:Str->Option NameKind}{x:Str}{v:Value}:∀{P:z0t}{vs:z0n}{i:Nat}{m:z0c},P.Nodup->P[i]?=some x->vs[i]?=some v->kindOf x≠some .local ->
  bindC kindOf (P.zip vs) m x=some v
 | [],_,_,_,_,h,_,_=>by simp at h
 | _::_,[],_,_,_,_,h,_=>by simp at h
 | p::P,w::vs,0,m,nd,h1,h2,hk=>by
  simp at h1 h2;subst h1;subst h2;show bindC kindOf ((p,w)::P.zip vs) m p=_;unfold bindC;rw [vW λv hv=>(hU.mp nd).1 (List.of_mem_zip hv).1,au hk];simp
 | p::P,w::vs,i+1,m,nd,h1,h2,hk=>by
  show bindC kindOf ((p,w)::P.zip vs) m x=_;unfold bindC;exact vX (i:=i) (hU.mp nd).2 (by simpa using h1) (by simpa using h2) hk
def start (N:z0t)(vs:List V):St:=vs.map some++List.replicate (N.length - vs.length) none
def pM (CX:Fj)(P:Program)(w:World)(K:bp)(mg:z0c)(base:Heap) (N:z0t)(qual:Str)(scope:Scope)(f:Addr)(cd:Value)(A:Around)(outer:List Env)(s:Shared)(H:Hp)(E:XK):Cx where
 prog:=P
 w:=w
 K:=K
 mg:=mg
 base:=base
 A:=A.deeper (envOfC qual scope s.heap.objs.size f cd)
 N:=N
 s₀:=s
 H₀:=H
 env:=envOfC qual scope s.heap.objs.size f cd
 outer:=outer
 stack:=envOfC qual scope s.heap.objs.size f cd::outer
 ex:=[]
 calm:=true
 fn:=λ_=>true
 pn:=[]
 xe:=λe s'=>wpAny (model P w) (A.deeper (envOfC qual scope s.heap.objs.size f cd)) (leaving (envOfC qual scope s.heap.objs.size f cd) e) (λ_ Rx=>CX outer H s E e Rx) (λe' Rx=>CX outer H s E e' Rx) s'
def zS {sc:Scope}{n:Nat}{x:Str}(h:sc.names.lookup x=some .cell):∃c,(cellsFrom n sc.names []).lookup x=some c:=by
 have q:=PySem.W.cellsFrom_some sc.names n [] (.inl h);exact ni.mp q
def vx {CX:Fj}{P:Program}{w:World}{K:bp}{mg:z0c}{base:Heap}{N ps:z0t}{qual:Str}{scope:Scope}{f:Addr}{cd:Value}{A:Around}{outer:List Env}{s s1:Shared}{H:Hp}{E:XK}{us:z0n}{vs:List V}
  (S:aK N ps scope)(hd:A.handled=none)(e0:Aa P w K mg base A outer s H)(hl:vs.length=ps.length)(r:bH vs us)
  (x:InCallC s s.heap.objs.size (bindL (envOfC qual scope s.heap.objs.size f cd).kindOf (ps.zip us) λ_=>none) (cellsFrom (s.heap.objs.size+1) scope.names []) (bindC (envOfC qual scope s.heap.objs.size f cd).kindOf (ps.zip us) λ_=>none) s1) :
  Inv (pM CX P w K mg base N qual scope f cd A outer s H E) [] (start N vs) H s1:=by
 have C_:ps.length<=N.length:=by have:=congrArg List.length S.pre;rw [du] at this;omega
 obtain⟨h1,tk,rfl,hk⟩:=x.done;have Xu:∀b:Addr,b∉(pM CX P w K mg base N qual scope f cd A outer s H E).ex:=λb z=>absurd (show b∈([]:z0q) from z) 144;refine⟨⟨e0.mod,S.kind,rfl,rfl,aG _,λy z c h1 h2=>?_,λy hy=>?_,λy c _ h=>?_,λ_=>hd,Around.frames_deeper e0.frames,.inr ⟨rfl,rfl⟩,λb z=>absurd z (Xu b),e0.bs,e0.LR,λb _ _=>Xu b,λb z=>absurd z (Xu b),e0.qz,e0.O4⟩,
  rfl,e0.bare,Un.kept hk,⟨_,x.toInCall.ns,λi y v h1 h2 h3=>?_⟩,λy c h=>⟨_,x.cell y c h⟩,e0.cw.fresh (aG _),λy c h=>?_,λp hp=>absurd (show p∈([]:z0e) from hp) 144,e0.cw.kept hk,?_⟩
 .exact name_of_addr x.apart (rK h1) (rK h2)
 .have hy:scope.names.lookup y=some .cell\/scope.names.lookup y=some .free:=hy;rcases hy with hy | hy
  .exact zS hy
  exact absurd rfl (S.Oj _ (rK hy))
 .exact lN (x.above y c (rK h))
 .have hi:i < vs.length:=by
   unfold start at h2;by_cases hi:i < vs.length
   .exact hi
   rw [lU (by simpa using hi)] at h2;rw [List.getElem?_replicate] at h2
   split at h2 <;> cases h2
  have ha:vs[i]?=some v:=by
   unfold start at h2;rw [nj (by simpa using hi),aX] at h2;cases e:vs[i]? with
   | none=>rw [e] at h2;cases h2
   | some a=>rw [e] at h2;cases h2;rfl
  obtain⟨u,hu,rv⟩:=r.get ha;have hp:ps[i]?=some y:=by
   rw [<-S.pre,yo ∅];exact h1
  have ndP:ps.Nodup:=by rw [<-S.pre];exact S.nd.sublist (List.take_sublist _ _)
  refine⟨u,rv,?_⟩;rcases S.par y (cE hp) with k | k
  .exact .inl ⟨k,vV ndP hp hu k⟩
  obtain⟨c,e⟩:=zS (n:=s.heap.objs.size+1) k;refine .inr ⟨.inl k,c,e,?_⟩;have q:=x.cell y c e;rw [vX ndP hp hu (by show scope.names.lookup y≠_;rw [k];decide)] at q;exact q
 .exact e0.cw.fresh (lN (x.above y c (rK h)))
 unfold start;show _=N.length;rw [a8,ar,List.length_replicate];omega
def IS {CX:Fj}{P:Program}{w:World}{K:bp}{mg:z0c}{base:Heap}{k:Nat}{f:Addr}{name qual:Str}{params:Arguments}{body:List Stmt}{scope:Scope}{dV kV doc pm d6 ct oc:Value}{an od:z0m}
  {yS:z0a}{N ps:z0t}{sp:Sp}(lk:K.lookup f=some ⟨oc,od,.func (PySem.W.fnOf name qual params body scope dV kV doc pm an d6 ct),yS⟩)(ym:PySem.W.codeIn K d6 qual=true)(S:aK N ps scope)
  (len:∀vs H Q E,sp vs H Q E->vs.length=ps.length)
  (jF:∀(A:Around)(outer:List Env)(s:Shared)(H:Hp)(vs:List V)(Q:VK)(E:XK),gF k (A.deeper (envOfC qual scope s.heap.objs.size f d6))->sp vs H Q E ->
   ∃t,Cj (pM CX P w K mg base N qual scope f d6 A outer s H E) body t/\t { nx:=λ_ H'=>Q .fu H',rt:=Q } (start N vs) H) :
  bR P w K mg base CX (k+1) f (PySem.W.fnOf name qual params body scope dV kV doc pm an d6 ct) ps sp:=by
 refine⟨len,λA outer s H args us vs Q E hr e0 hb r Fv=>?_⟩;have hl:=len _ _ _ _ Fv;have KX:K.In s.heap:=e0.mod.Sk.keeps λb o e=>(e0.bs b o e).1;have lim:s.heap.NoLimit:=e0.mod.nolimit.keeps λb o e=>(e0.bs b o e).1;have jD:∀y∈ps.zip us,scope.names.lookup y.1=some .local\/(scope.names.lookup y.1=some .cell/\((cellsFrom (s.heap.objs.size+1) scope.names []).lookup y.1).isSome=true):=λ⟨n,v⟩ hy=>by
  rcases S.par n (List.of_mem_zip hy).1 with q | q
  .exact .inl q
  exact .inr ⟨q,PySem.W.cellsFrom_some _ _ _ (.inl q)⟩
 refine codeAny_call_function hr.depth (KX _ _ lk) rfl S.co S.gen rfl (PySem.W.codeRec_of KX ym) (hb _ _ _ _ ?_);refine wpAny_newFunctionEnv_cells S.kind jD λenv he s1 x=>?_;subst he;refine⟨lim.keeps x.toInCall.keep,codeAny_func ?_⟩;obtain⟨t,ht,hq⟩:=jF A outer s H vs Q E (hr.deeper _) Fv;have I:Inv (pM CX P w K mg base N qual scope f d6 A outer s H E) [] (start N vs) H s1:=vx S hr.hd e0 hl r x;refine dS (ht [] s1 (start N vs) H _ I hq) (λfl s' hs=>?_) λe s' hs=>hs;have fin:∀{σ':St}{H':Hp}{v:V}{u:Value},Inv (pM CX P w K mg base N qual scope f d6 A outer s H E) [] σ' H' s'->RelV v u->Q v H'->CE outer P w H s Q u s' :=
  λ{σ' H' v u} J rv q=>⟨v,H',J.os,J.bare,J.base,J.cw,rv,q⟩
 cases fl with
 | ret u =>
  obtain⟨v,σ',H',J,rv,q⟩:=hs;exact fin J rv q
 | next =>
  obtain⟨σ',H',J,q⟩:=hs;exact fin (v:=V.fu) (u:=Value.none) J rfl q
 | brk =>
  obtain⟨_,_,_,q⟩:=hs;exact False.elim q
 | cont =>
  obtain⟨_,_,_,q⟩:=hs;exact False.elim q
section
variable {X:Cx}{x:Str}{p pos:Pos}{e:Expr}{es:z0r}{t:TA}{id T:String}{r:List V->Hp->VK->Prop}
def tCB (r:List V->Hp->VK->Prop)(t:TA):TE:=λσ H Q=>t σ H λvs H1=>r vs H1 Q
def aP (hc:i0 X (.builtin id) r)(hg:Gl X x)(hm:X.mg x=none)(hv:bootBuiltins x=some (.builtin id))(ha:PA X (e::es) t)(hn:x ≠ "__name__" := by decide)(EG:(x == ("__debug__":Str))=false:=by decide)
  (he:501:=by rfl)(C_:(backTo pos (starEach es X.env)).any 87=false:=by rfl):PE X (.Call (.Name x p) (e::es) [] pos) (tCB r t):=by
 intro ai s σ H Q I h;refine q0 (jU I hg hm hv ?_ hn EG);refine PyProof.Rows.callWith_builtin1 (dC (ha pos ai s σ H _ I h) λus s1 bI=>?_) he C_;obtain⟨vs,H1,I1,r1,q1⟩:=bI;exact hc ai s1 σ H1 vs us Q I1 r1 q1
def bN (hc:i0 X (.type T) r)(hg:Gl X x)(hm:X.mg x=none)(hv:bootBuiltins x=some (.type T))(ha:PA X (e::es) t)(hn:x ≠ "__name__" := by decide)(EG:(x == ("__debug__":Str))=false:=by decide)
  (he:501:=by rfl)(C_:(backTo pos (starEach es X.env)).any 87=false:=by rfl):PE X (.Call (.Name x p) (e::es) [] pos) (tCB r t):=by
 intro ai s σ H Q I h;refine q0 (jU I hg hm hv ?_ hn EG);refine wK (dC (ha pos ai s σ H _ I h) λus s1 bI=>?_) he C_;obtain⟨vs,H1,I1,r1,q1⟩:=bI;exact hc ai s1 σ H1 vs us Q I1 r1 q1
end
end L2
namespace HT
open PySem PyProof.Rows
section
open PySem.SeqAt
open PySem.AutoSeq1 (wpAny_loadPart')
open PySem.MeetsSeq PySem.MeetsSeq2 PySem.MeetsSeq3
end
section
variable {prog:Program}{w:World}{A:Around}{E:z0b}{s:Shared}
def LQ {t b:Addr}{vs ws:z0n}{Q:z0b}(ht:IsTup s.heap t vs.toArray)(hb:IsTup s.heap b ws.toArray)(hv:vs≠[])
  (h1:ws=[]->Q (.ref t) s)(h2:ws≠[]->Q (238) { s with heap:=s.heap.push { cls:=.type "tuple",data:=.seq (vs++ws).toArray } })
  (hsz:vs.length+ws.length<=sizeLine):wpAny 158 A (binaryOp .Add (.ref t) (.ref b)) Q E s:=by
 obtain⟨⟨cls,dd,data,sl⟩,ho,hc,n,hd⟩:=id ht;obtain⟨⟨Z7,QH,data2,UW⟩,ED,Tn,n2,hd2⟩:=id hb;simp only at hc hd Tn hd2;subst hc hd Tn hd2;have e:vs.toArray++ws.toArray=(vs++ws).toArray:=92
 by_cases hw:ws=[]
 .exact concat_meets ⟨_,ho,rfl⟩ ⟨_,ED,rfl⟩ noFill_tuple_add seq_tuple_add Ar Au (Ax _ _)
   (tuple_addW1 t b vs.toArray ws.toArray n n2 dd QH sl UW (by simpa using hv) (by simp [hw])) ⟨ho,ED,h1 hw⟩
 refine concat_meets ⟨_,ho,rfl⟩ ⟨_,ED,rfl⟩ noFill_tuple_add seq_tuple_add Ar Au (Ax _ _)
  (tuple_addW2 t b vs.toArray ws.toArray n n2 dd QH sl UW (by simpa using hv) (by simpa using hw) (by rw [cJ,cJ];exact hsz)) ⟨ho,ED,?_⟩
 rw [e];exact h2 hw
def fR (n d:Nat):z0p->Nat
 | none=>d
 | some v=>if v < 0 then (v+(n:Int)).toNat else min v.toNat n
def nU (n d:Nat):fR n d none=d:=rfl
def lF (n d k:Nat):fR n d (some (k:Int))=min k n:=by
 show (if (k:Int) < 0 then ((k:Int)+(n:Int)).toNat else min (k:Int).toNat n)=min k n;rw [au ∅,jn]
def NP (n d:Nat)(hd:d<=n)(o:z0p):fR n d o<=n:=by
 cases o with
 | none=>exact hd
 | some v =>
  show (if v < 0 then (v+(n:Int)).toNat else min v.toNat n)<=n;by_cases hv:v < 0
  .rw [aw hv];omega
  rw [au hv];exact Nat.min_le_right _ _
def Dq (v:Int) (n d:Nat):(if v < 0 then max (v+(n:Int)) 0 else min v (n:Int))=((fR n d (some v):Nat):Int):=by
 show (if v < 0 then max (v+(n:Int)) 0 else min v (n:Int))=(((if v < 0 then (v+(n:Int)).toNat else min v.toNat n):Nat):Int);by_cases hv:v < 0
 .simp only [aw hv];omega
 simp only [au hv];omega
def Cf (lo hi:z0p) (n:Nat):Builtin.Slice.sliceAdjust lo hi 1 (n:Int)=(((fR n 0 lo:Nat):Int),((fR n n hi:Nat):Int)):=by
 have h1:¬((1:Int) < 0):=by omega
 unfold Builtin.Slice.sliceAdjust;simp only [h1,if_false];refine gQ ?_ ?_
 .cases lo with
  | none=>rfl
  | some v=>exact Dq v n 0
 cases hi with
 | none=>rfl
 | some v=>exact Dq v n n
def Bc (i j:Nat):Builtin.Slice.slicePlaces (i:Int) (j:Int) 1=j - i:=by
 unfold Builtin.Slice.slicePlaces;have h1:(1:Int) > 0:=by omega
 simp only [h1,if_true,Int.ediv_one]
 split <;> omega
def sq {v:Value}{o:z0p}{Q:z0p->182}(p:IsPart v o)(h:Q o s):wpAny 158 A (Builtin.Slice.slicePartIndex v) Q E s:=by
 cases p with
 | none=>exact slicePart_none h
 | int i t=>exact slicePart_int h
def ju {sl:Addr}{vl vu:Value}{lo hi:z0p}{n:Nat}{Q:Int×Int×Nat->182}(hs:s.heap.IsSliceOf sl vl vu .none)(pl:IsPart vl lo)(pu:IsPart vu hi)
  (h:Q (((fR n 0 lo:Nat):Int),1,fR n n hi - fR n 0 lo) s):wpAny 158 A (Builtin.Slice.sliceApplied (.ref sl) (pure (n:Int))) Q E s:=by
 obtain⟨os,OM,Vy,Lq⟩:=id hs;unfold Builtin.Slice.sliceApplied Builtin.Slice.sliceFields;refine aB (aB (jk OM Lq (x:=vl) rfl (aB (jk OM Lq (x:=vu) rfl (aB (jk OM Lq (x:=.none) rfl (aH ?_)))))));refine aB (slicePart_none ?_);show wpAny _ _ (if ((1:Int) == 0)=true then _ else _) _ _ s;rw [au nofun];refine aB (sq pl (aB (sq pu (aB (aH ?_)))));show wpAny _ _ (match Builtin.Slice.sliceAdjust lo hi 1 (n:Int) with | (lo,hi)=>pure (lo,(1:Int),Builtin.Slice.slicePlaces lo hi 1)) _ _ s
 rw [Cf lo hi n];show wpAny _ _ (pure (((fR n 0 lo:Nat):Int),(1:Int),Builtin.Slice.slicePlaces ((fR n 0 lo:Nat):Int) ((fR n n hi:Nat):Int) 1)) _ _ s;rw [Bc];exact aH h
def G6 (xs:z0l) (i k:Nat):((List.range k).filterMap λ(m:Nat)=>xs[((i:Int)+(m:Int) * 1).toNat]?).toArray=((xs.toList.drop i).take k).toArray:=by
 have e:(λ(m:Nat)=>xs[((i:Int)+(m:Int) * 1).toNat]?)=λm=>xs[i+m]?:=by
  funext m
  have:((i:Int)+(m:Int) * 1).toNat=i+m:=by omega
  rw [this]
 rw [e];have:=pick_run xs i k;rw [List.filterMap_map] at this;have e2:((λx=>xs[x]?) ∘ λx=>i+x)=λm=>xs[i+m]?:=rfl;rw [e2] at this;rw [this]
def oi {t sl:Addr}{items:z0l}{vl vu:Value}{lo hi:z0p}{Q:z0b}(ht:IsTup s.heap t items)(hs:s.heap.IsSliceOf sl vl vu .none)(pl:IsPart vl lo)(pu:IsPart vu hi)
  (hw:¬(fR items.size 0 lo=0/\fR items.size items.size hi=items.size))
  (h:Q (238) { s with heap:=s.heap.push { cls:=.type "tuple",data:=.seq ((items.toList.drop (fR items.size 0 lo)).take (fR items.size items.size hi - fR items.size 0 lo)).toArray } })
  (hsz:items.size<=sizeLine):wpAny 158 A (getItem (.ref t) (.ref sl)) Q E s:=by
 have C9:sizeOk (.seq ((items.toList.drop (fR items.size 0 lo)).take (fR items.size items.size hi - fR items.size 0 lo)).toArray):=by
  show ((items.toList.drop (fR items.size 0 lo)).take (fR items.size items.size hi - fR items.size 0 lo)).toArray.size<=sizeLine;rw [cJ,du,mC,q_];omega
 have hj:fR items.size items.size hi<=items.size:=NP _ _ (aG _) hi;obtain⟨os,OM,Vy,Lq⟩:=id hs;have Y3:s.TypeIs (.ref sl) "slice" := ⟨os,OM,Vy⟩;unfold getItem
 try with_reducible refine j5 ?_
 first | refine aB (aH ?_) | skip
 refine aB (wpAny_sequenceKey ht.typeIs nofun ?_);refine aB (pV (name:=Str.ofString "__getitem__") ht.typeIs uV
  (ke uV ht.typeIs entry_tuple_getitem ?_ (args_tuple_getitem _ _)))
 show wpAny _ _ (Builtin.Tuple.tupleItemsOf (.ref t) >>= _) _ _ s;refine aB (tupleItemsOf_ ht ?_);refine aB (jb Y3 ?_);rw [aw nofun];refine aB (ju hs pl pu ?_);have hno:¬((((fR items.size 0 lo:Nat):Int) == 0 && (1:Int) == 1 && (fR items.size items.size hi - fR items.size 0 lo) == items.size)=true):=by
  intro q;rw [nh,nh] at q;have q1:((fR items.size 0 lo:Nat):Int)=0:=eq_of_beq q.1.1;have q2:fR items.size items.size hi - fR items.size 0 lo=items.size:=eq_of_beq q.2;exact hw ⟨∅,∅⟩
 show wpAny _ _ (if (((fR items.size 0 lo:Nat):Int) == 0 && (1:Int) == 1 && (fR items.size items.size hi - fR items.size 0 lo) == items.size)=true then _ else _) _ _ s;rw [au hno,G6]
 first
  | exact aB (m:=Builtin.Tuple.tupleExact _) (j7 (aH ⟨_,rfl,aH h⟩) C9)
  | exact aB (m:=Builtin.Tuple.tupleExact _) (j7 (aB (aH (aH ⟨_,rfl,aH h⟩))) C9)
  | exact aB (aB (m:=Builtin.Tuple.tupleExact _) (j7 (aH (aH ⟨_,rfl,aH h⟩)) C9))
  | exact aB (aB (m:=Builtin.Tuple.tupleExact _) (j7 (aH ⟨_,rfl,aH h⟩) C9))
end
end HT
namespace L2
open PySem PySem.Spec PyProof.Rows
abbrev TO:=St->Hp->(z0p->Hp->Prop)->Prop
def PO (X:Cx)(e:Option Expr)(t:TO):Prop :=
 ∀(ai:z0e)(s:Shared)(σ:St)(H:Hp)(Q:z0p->Hp->Prop),141->t σ H Q ->
  wpAny 151 X.A (evalPart e X.env) (λu s'=>∃o H',Inv X ai σ H' s'/\IsPart u o/\Q o H') X.xe s
def Ka:TO:=λ_ H Q=>Q none H
def Q3 (t:TE):TO:=λσ H Q=>t σ H λx H1=>XI1 x λi=>Q (some i) H1
def intsAre_of {ns:z0u}:∀{us:z0n},bH (ns.map V.int) us->IntsAre us ns:=by
 induction ns with
 | nil=>intro us r;rw [mn] at r;cases r;exact .nil
 | cons n ns ih =>
  intro us r;rw [cI] at r;cases r with
  | cons r1 r2 =>
   obtain⟨t,e⟩:=r1;subst e;exact .cons n t (ih r2)
section
variable {X:Cx}{e:Expr}{te:TE}{lo hi:Option Expr}{tl th:TO}{pos p2:Pos}
def gY:PO X none Ka:=by
 intro ai s σ H Q I h;rw [evalPart_none];exact aH ⟨none,H,I,.none,h⟩
def eU (h:PE X e te):PO X (some e) (Q3 te):=by
 intro ai s σ H Q I hw;rw [evalPart_some];refine dC (h ai s σ H _ I hw) λu s1 bI=>?_;obtain⟨x,H1,I1,r1,q1⟩:=bI;obtain⟨i,rfl,q⟩:=q1;obtain⟨t,rfl⟩:=r1;exact⟨some i,H1,I1,.int i t,q⟩
def Uu (X:Cx)(r:V->z0p->z0p->Hp->VK->Prop):Prop :=
 ∀(ai:z0e)(s:Shared)(σ:St)(H:Hp)(x:V)(v vl vu:Value)(lo hi:z0p)(sl:Addr)(Q:VK),141->RelV x v->s.heap.IsSliceOf sl vl vu .none->IsPart vl lo->IsPart vu hi->r x lo hi H Q ->
  ∃T id,typeLookup (.type T) "__getitem__"=pure (some (.builtin id))/\s.TypeIs v T/\wpAny 151 X.A (getItem v (.ref sl)) (EP X ai σ Q) X.xe s
def tSl (r:V->z0p->z0p->Hp->VK->Prop)(te:TE)(tl th:TO):TE:=λσ H Q=>te σ H λx H1=>tl σ H1 λl H2=>th σ H2 λu H3=>r x l u H3 Q
def dX {r:V->z0p->z0p->Hp->VK->Prop}(hr:Uu X r)(he:PE X e te)(hl:PO X lo tl)(hu:PO X hi th):PE X (.Subscript e (.Slice lo hi none p2) pos) (tSl r te tl th):=by
 intro ai s σ H Q I h;refine Subscript_ (dC (he ai s σ H _ I h) λv s1 bI=>?_);obtain⟨x,H1,I1,r1,q1⟩:=bI;refine wpAny_Slice (dC (hl ai s1 σ H1 _ I1 q1) λvl s2 bI=>?_);obtain⟨l,H2,I2,pl,q2⟩:=bI;refine dC (hu ai s2 σ H2 _ I2 q2) λvu s3 bI=>?_;obtain⟨u,H3,I3,pu,q3⟩:=bI;rw [evalPart_none];refine aH ?_;have I4:Inv X ai σ H3 { s3 with heap:=s3.heap.push { cls:=.type "slice",data:=.fields #[vl,vu,.none] } }:=I3.kept (t':=s3.toks) λb ob q=>cg _ q;obtain⟨T,id,hT,ht,hg⟩:=hr ai { s3 with heap:=s3.heap.push { cls:=.type "slice",data:=.fields #[vl,vu,.none] } } σ H3 x v vl vu l u s3.heap.objs.size Q I4 r1 (Heap.IsSliceOf.new ..) pl pu q3;show wpAny 151 X.A (subscriptTail e (.Slice lo hi none p2) v (.ref s3.heap.objs.size)) (EP X ai σ Q) X.xe { s3 with heap:=s3.heap.push { cls:=.type "slice",data:=.fields #[vl,vu,.none] } };exact tail_any (ops:=[.ref s3.heap.objs.size,v]) ht hT hg (by with_unfolding_all rfl)
def g_ (xs:List V)(lo hi:z0p):List V:=(xs.drop (HT.fR xs.length 0 lo)).take (HT.fR xs.length xs.length hi - HT.fR xs.length 0 lo)
def qg (xs:List V)(lo hi:z0p):(g_ xs lo hi).length<=xs.length:=by
 unfold g_;rw [du,mC];omega
def W9 (K:bp):V->z0p->z0p->Hp->VK->Prop:=λx lo hi H Q=>∃a xs,x=.ref a/\aZ K H a xs /\
 ¬(HT.fR xs.length 0 lo=0/\HT.fR xs.length xs.length hi=xs.length)/\∀p,H p=none->Q (.ref p) (upd H p (.tup (g_ xs lo hi)))
def AM:Uu X (W9 X.K):=by
 intro ai s σ H x v vl vu lo hi sl Q I rx hs pl pu h;obtain⟨a,xs,rfl,hx,hw,q⟩:=h;cases rx;obtain⟨aV,r,ht,hz⟩:=I.tuple hx;have bO:aV.toArray.size=xs.length:=by rw [cJ];exact r.length.symm
 refine⟨"tuple",_,uV.lookup,ht.typeIs,?_⟩;refine HT.oi ht hs pl pu (by rw [bO];exact hw) ?_ (by rw [bO];exact hz);rw [bO];refine⟨238,_,I.laid (t':=s.toks) (o:=.tup (g_ xs lo hi)) (λb ob q=>cg _ q) (aG _) ?_,rfl,q _ (I.cw.fresh (aG _))⟩;exact⟨fJ (qg xs lo hi) hz,_,(r.drop (HT.fR xs.length 0 lo)).take (HT.fR xs.length xs.length hi - HT.fR xs.length 0 lo),IsTup.new _ _⟩
def RE (K:bp):R2:=λx y H Q=>∃a b xs ys,x=.ref a/\y=.ref b/\aZ K H a xs/\aZ K H b ys/\xs≠[]/\xs.length+ys.length<=sizeLine /\
 (ys=[]->Q (.ref a) H)/\(ys≠[]->∀p,H p=none->Q (.ref p) (upd H p (.tup (xs++ys))))
def bH.qL {xs:List V}{us:z0n}(r:bH xs us):us=[]↔xs=[]:=by
 cases r with
 | nil=>simp
 | cons _ _=>simp
def KG:ng X (binaryOp .Add) (RE X.K):=by
 intro ai s σ H x y v u Q I rx ry h;obtain⟨a,b,xs,ys,rfl,rfl,ha,hb,hx,hz,q1,q2⟩:=h;cases rx;cases ry;obtain⟨aV,r1,p1,_⟩:=I.tuple ha;obtain⟨fq,r2,p2,_⟩:=I.tuple hb;refine HT.LQ p1 p2 (λz=>hx (r1.qL.mp z)) (λz=>⟨.ref a,H,I,rfl,q1 (r2.qL.mp z)⟩) (λz=>?_) (by rw [<-r1.length,<-r2.length];exact hz);refine⟨238,_,I.laid (t':=s.toks) (o:=.tup (xs++ys)) (λb ob q=>cg _ q) (aG _) ?_,rfl,q2 (λw=>z (r2.qL.mpr w)) _ (I.cw.fresh (aG _))⟩;exact⟨by rw [a8];exact hz,_,r1.append r2,IsTup.new _ _⟩
end
def Qg (n:Nat) (i:Int):Option Nat:=if 0<=i then (if i < n then some i.toNat else none) else if -(n:Int)<=i then some (i+n).toNat else none
def pQ {α:Type}(xs:List α) (i:Int):Option α:=(Qg xs.length i).bind λj=>xs[j]?
def Lg {n:Nat}{i:Int}{j:Nat}(h:Qg n i=some j):seqIndex? i n=some j/\j < n/\-(n:Int)<=i/\i < n:=by
 unfold Qg at h;by_cases h0:0<=i
 .rw [aw h0] at h;by_cases h1:i < n
  .rw [aw h1] at h;have e:i.toNat=j:=gJ h;exact⟨by rw [seqIndex_of h0 h1,e],∅,∅,h1⟩
  rw [au h1] at h;cases h
 rw [au h0] at h;by_cases h1:-(n:Int)<=i
 .rw [aw h1] at h;have e:(i+n).toNat=j:=gJ h;exact⟨by rw [seqIndex_neg ∅ h1,e],∅,h1,∅⟩
 rw [au h1] at h;cases h
def Dt {α:Type}{xs:List α}{i:Int}{v:α}(h:pQ xs i=some v):∃j,seqIndex? i xs.length=some j/\xs[j]?=some v/\j < xs.length/\-(xs.length:Int)<=i/\i < xs.length:=by
 unfold pQ at h;cases e:Qg xs.length i with
 | none=>rw [e] at h;cases h
 | some j =>
  rw [e] at h;obtain⟨h1,h2,h3,h4⟩:=Lg e;exact⟨j,h1,h,h2,h3,h4⟩
def cH {α:Type}{xs:List α}{j:Nat}{v:α}(h:xs[j]?=some v):pQ xs (j:Int)=some v:=by
 have hj:j < xs.length:=(bu.mp h).1;have e:Qg xs.length (j:Int)=some j:=by
  unfold Qg;rw [aw ∅,aw ∅];simp
 unfold pQ;rw [e];exact h
def Ma (b:Expr):Prop:=∀o i,subscripted b false o i=operate [o,i] (getItem o i)
def QO (X:Cx)(r:R2):Prop :=
 ∀(value slice:Expr)(ai:z0e)(s:Shared)(σ:St)(H:Hp)(x y:V)(v u:Value)(Q:VK),141->RelV x v->RelV y u->r x y H Q ->
  subscripted slice false v u=operate [v,u] (getItem v u)->wpAny 151 X.A (subscriptTail value slice v u) (EP X ai σ Q) X.xe s
def MtR (X:Cx)(id:String)(r:V->List V->Hp->VK->Prop):Prop :=
 ∀(ai:z0e)(s:Shared)(σ:St)(H:Hp)(x:V)(xs:List V)(v:Value)(us:z0n)(Q:VK),141->RelV x v->bH xs us->r x xs H Q ->
  wpAny 151 X.A (call (.builtin id) (v::us)) (EP X ai σ Q) X.xe s
section
variable {X:Cx}{a b:Expr}{ta tb:TE}{pos:Pos}
def a_ {r:R2}(hr:QO X r)(ha:PE X a ta)(hb:PE X b tb)(hs:Ma b):PE X (.Subscript a b pos) (UP r ta tb):=by
 intro ai s σ H Q I h;exact Subscript_ (PF ha hb I h λv u s2 x y H2 I2 rx ry q=>hr a b ai s2 σ H2 x y v u Q I2 rx ry q (hs _ _))
inductive V3 (S:Addr->List V->Prop)(x y:V)(R:V->Prop):Prop
|mk(p:Addr)(xs:List V) (i:Int)(v:V)(e:x=.ref p)(e2:y=.int i)(s:S p xs)(a:pQ xs i=some v)(q:R v)
def RB (K:bp):R2:=λx y H Q=>V3 (aI K H) x y λv=>Q v H
def RA (K:bp):R2:=λx y H Q=>V3 (aZ K H) x y λv=>Q v H
def cO:QO X (RB X.K):=by
 intro value slice ai s σ H x y v u Q I rx ry h hs;obtain⟨p,xs,i,z,rfl,rfl,hq,he,q⟩:=h;cases rx;obtain⟨t,rfl⟩:=ry;obtain⟨aV,r,pl,hz⟩:=I.list hq;obtain⟨j,h1,h2,h3,h4,h5⟩:=Dt he;obtain⟨w,ew,A7⟩:=r.get h2;have hl:=r.length;have hn:=xJ;have fin:EP X ai σ Q w s:=⟨z,H,I,A7,q⟩;by_cases h0:0<=i
 .have hj:i.toNat=j:=by
   rw [seqIndex_of h0 h5] at h1;exact gJ h1
  exact item_listR pl.isList h0 ∅ (by rw [hj];simpa using ew) fin hs
 have hj:(i+(aV.toArray.size:Int)).toNat=j:=by
  rw [seqIndex_neg ∅ h4] at h1;rw [cJ,<-hl];exact gJ h1
 exact subscriptTail_builtinR (x:=w) pl.isList.typeIs slot_list_getitem.lookup
  (wpAny_getItem_list_neg (Q:=λr s'=>r=w/\EP X ai σ Q r s') pl.isList ∅ (by rw [cJ] <;> omega) ∅ (by rw [hj];simpa using ew) ⟨rfl,fin⟩) hs
def bF:QO X (RA X.K):=by
 intro value slice ai s σ H x y v u Q I rx ry h hs;obtain⟨p,xs,i,z,rfl,rfl,hq,he,q⟩:=h;cases rx;obtain⟨t,rfl⟩:=ry;obtain⟨aV,r,pl,hz⟩:=I.tuple hq;obtain⟨j,h1,h2,h3,h4,h5⟩:=Dt he;obtain⟨w,ew,A7⟩:=r.get h2;have hl:=r.length;have hn:=xJ;have fin:EP X ai σ Q w s:=⟨z,H,I,A7,q⟩;exact subscriptTail_builtinR (x:=w) pl.typeIs slot_tuple_getitem.lookup
  (getItem_tuple (j:=j) (Q:=λr s'=>r=w/\EP X ai σ Q r s') pl ∅ ∅ (by rw [cJ,<-hl];exact h1) (by simpa using ew) ⟨rfl,fin⟩) hs
def xb (lo hi:z0p) (n:Nat):(sliceBounds lo hi none n).1=((HT.fR n 0 lo:Nat):Int)/\(sliceBounds lo hi none n).2.1=((HT.fR n n hi:Nat):Int)/\(sliceBounds lo hi none n).2.2=1:=by
 refine⟨?_,?_,rfl⟩
 .cases lo with
  | none=>simp [sliceBounds,HT.fR]
  | some i =>
   simp only [sliceBounds,HT.fR,Option.getD_none,show (1:Int) > 0 by decide,if_true];by_cases h:i < 0
   .simp only [h,if_true] <;> omega
   simp only [h,if_false] <;> omega
 cases hi with
 | none=>simp [sliceBounds,HT.fR]
 | some i =>
  simp only [sliceBounds,HT.fR,Option.getD_none,show (1:Int) > 0 by decide,if_true];by_cases h:i < 0
  .simp only [h,if_true] <;> omega
  simp only [h,if_false] <;> omega
def uC (aV:z0n)(lo hi:z0p):slicePick aV.toArray lo hi none=((aV.drop (HT.fR aV.length 0 lo)).take (HT.fR aV.length aV.length hi - HT.fR aV.length 0 lo)).toArray:=by
 obtain⟨h1,h2,h3⟩:=xb lo hi aV.toArray.size;unfold slicePick;rw [h1,h2,h3];simp only [sliceRange_one,pick_run,cJ] <;> rfl
def W_ (K:bp):V->z0p->z0p->Hp->VK->Prop:=λx lo hi H Q=>XSq x (aI K H) λxs=>∀p,H p=none->Q (.ref p) (upd H p (.lst (g_ xs lo hi)))
def xc:Uu X (W_ X.K):=by
 intro ai s σ H x v vl vu lo hi sl Q I rx hs pl pu h;obtain⟨a,xs,rfl,hx,q⟩:=h;cases rx;obtain⟨aV,r,ht,hz⟩:=I.list hx;have bO:=r.length;refine⟨"list",_,slot_list_getitem.lookup,ht.isList.typeIs,?_⟩;refine wpAny_getItem_list_slice ht.isList hs pl pu .none 144 ?_ (by rw [cJ] <;> omega)
 rw [uC,<-bO];refine⟨238,_,I.laid (t':=s.toks) (o:=.lst (g_ xs lo hi)) (λb ob q=>cg _ q) (aG _) ?_,rfl,q _ (I.cw.fresh (aG _))⟩;exact⟨fJ (qg xs lo hi) hz,_,0,(r.drop (HT.fR xs.length 0 lo)).take (HT.fR xs.length xs.length hi - HT.fR xs.length 0 lo),dB _ rfl⟩
def jI:V->Bool
 | .fu=>true
 | .bl _=>true
 | .int _=>true
 | .str _=>true
 | _=>false
def vH:V->V->Bool
 | .fu,.fu=>true
 | .bl a,.bl b=>a == b
 | .bl a,.int b=>(if a then 1 else 0) == b
 | .int a,.bl b=>a == (if b then 1 else 0)
 | .int a,.int b=>a == b
 | .str a,.str b=>a == b
 | _,_=>false
def B5 {A:Around}{s:Shared}{y x:V}{u v:Value}(ry:RelV y u)(rx:RelV x v)(fy:jI y=true)(fx:jI x=true):SeqAt.EqAt A s u v (vH y x):=by
 cases y with
 | fu =>
  cases ry;cases x with
  | fu=>cases rx;exact SeqAt.EqAt.same _
  | bl b=>cases rx;exact SeqAt.EqAt.none_bool b
  | int b=>obtain⟨t,rfl⟩:=rx;exact SeqAt.EqAt.none_int b t
  | str b=>obtain⟨t,rfl⟩:=rx;exact SeqAt.EqAt.none_str b t
  | _=>exact absurd (show false=true from fx) cX
 | bl a =>
  cases ry;cases x with
  | fu=>cases rx;exact SeqAt.EqAt.bool_none a
  | bl b=>cases rx;exact SeqAt.EqAt.bool_bool a b
  | int b=>obtain⟨t,rfl⟩:=rx;exact SeqAt.EqAt.bool_int a b t
  | str b=>obtain⟨t,rfl⟩:=rx;exact SeqAt.EqAt.bool_str a b t
  | _=>exact absurd (show false=true from fx) cX
 | int a =>
  obtain⟨t',rfl⟩:=ry;cases x with
  | fu=>cases rx;exact SeqAt.EqAt.int_none a t'
  | bl b=>cases rx;exact SeqAt.EqAt.int_bool a t' b
  | int b=>obtain⟨t,rfl⟩:=rx;exact wb a t' b t
  | str b=>obtain⟨t,rfl⟩:=rx;exact SeqAt.EqAt.int_str a t' b t
  | _=>exact absurd (show false=true from fx) cX
 | str a =>
  obtain⟨t',rfl⟩:=ry;cases x with
  | fu=>cases rx;exact SeqAt.EqAt.str_none a t'
  | bl b=>cases rx;exact SeqAt.EqAt.str_bool a t' b
  | int b=>obtain⟨t,rfl⟩:=rx;exact SeqAt.EqAt.str_int a t' b t
  | str b=>obtain⟨t,rfl⟩:=rx;exact SeqAt.EqAt.str_str a t' b t
  | _=>exact absurd (show false=true from fx) cX
 | _=>exact absurd (show false=true from fy) cX
def B4 (x:V)(u:Value):Bool:=match u with
 | .none=>vH .fu x
 | .bool b=>vH (.bl b) x
 | .int i _=>vH (.int i) x
 | .str z _=>vH (.str z) x
 | _=>false
def IW {x y:V}{u:Value}(r:RelV y u)(f:jI y=true):B4 x u=vH y x:=by
 cases y with
 | fu=>cases r;rfl
 | bl b=>cases r;rfl
 | int i=>obtain⟨t,rfl⟩:=r;rfl
 | str z=>obtain⟨t,rfl⟩:=r;rfl
 | _=>exact absurd (show false=true from f) cX
theorem ou {x:V}:∀{xs:List V}{us:z0n},bH xs us->xs.all jI=true->us.any (B4 x)=xs.any λy=>vH y x
 | _,_,.nil,_=>rfl
 | y::xs,u::us,.cons r t,f=>by
  rw [List.all_cons,nh] at f;rw [oK,oK,IW r f.1,ou t f.2]
theorem kT {A:Around}{s:Shared}{x:V}{v:Value}(rx:RelV x v)(fx:jI x=true):∀{xs:List V}{us:z0n},bH xs us->xs.all jI=true->∀u∈us,SeqAt.EqAt A s u v (B4 x u)
 | _,_,.nil,_=>λu hu=>by cases hu
 | y::xs,u::us,.cons r t,f=>λu' hu=>by
  rw [List.all_cons,nh] at f;rcases b8.mp hu with rfl | hu
  .rw [IW r f.1];exact B5 r rx f.1 fx
  exact kT rx fx t f.2 u' hu
def OF (x:V)(xs:List V):Bool:=xs.any λy=>vH y x
inductive XIn (S:Addr->List V->Prop)(x y:V)(R:List V->Prop):Prop
|mk(p:Addr)(xs:List V)(e:y=.ref p)(s:S p xs)(f:jI x=true)(g:xs.all jI=true)(q:R xs)
def U5 (K:bp)(neg:Bool):R2:=λx y H Q=>XIn (λp xs=>aI K H p xs\/aZ K H p xs) x y λxs=>Q (.bl (if neg then !OF x xs else OF x xs)) H
def jw:ng X (compareOp .In) (U5 X.K false):=by
 intro ai s σ H x y v u Q I rx ry h;obtain⟨p,xs,rfl,hq,fx,fs,q⟩:=h;cases ry;rcases hq with hq | hq
 .obtain⟨aV,r,pl,hz⟩:=I.list hq;refine SeqAt.in_listAt (B4 x) pl.isList (λw hw=>kT rx fx r fs w (by simpa using hw)) ⟨.bl _,H,I,rfl,?_⟩;rw [show aV.toArray.any (B4 x)=aV.any (B4 x) by simp,ou r fs];exact q
 obtain⟨aV,r,pl,hz⟩:=I.tuple hq;refine SeqAt.in_tupleAt (B4 x) pl (λw hw=>kT rx fx r fs w (by simpa using hw)) ⟨.bl _,H,I,rfl,?_⟩;rw [show aV.toArray.any (B4 x)=aV.any (B4 x) by simp,ou r fs];exact q
def iF:ng X (compareOp .NotIn) (U5 X.K true):=by
 intro ai s σ H x y v u Q I rx ry h;obtain⟨p,xs,rfl,hq,fx,fs,q⟩:=h;cases ry;rcases hq with hq | hq
 .obtain⟨aV,r,pl,hz⟩:=I.list hq;refine SeqAt.notIn_listAt (B4 x) pl.isList (λw hw=>kT rx fx r fs w (by simpa using hw)) ⟨.bl _,H,I,rfl,?_⟩;rw [show aV.toArray.any (B4 x)=aV.any (B4 x) by simp,ou r fs];exact q
 obtain⟨aV,r,pl,hz⟩:=I.tuple hq;refine SeqAt.notIn_tupleAt (B4 x) pl (λw hw=>kT rx fx r fs w (by simpa using hw)) ⟨.bl _,H,I,rfl,?_⟩;rw [show aV.toArray.any (B4 x)=aV.any (B4 x) by simp,ou r fs];exact q
def aU:i0 X (.builtin "len") (λxs H Q=>PL xs (λp ys=>aI X.K H p ys\/aZ X.K H p ys) λys=>Q (.int ys.length) H):=by
 intro ai s σ H xs us Q I r h;obtain⟨p,ys,rfl,hq,q⟩:=h;obtain⟨u,rfl,rx⟩:=vals1 r;cases rx;have hn:=xJ;rcases hq with hq | hq
 .obtain⟨aV,r',pl,hz⟩:=I.list hq;have bO:=r'.length;exact Calls.call_len_list pl.isList (by simp only [cJ] <;> omega) ⟨.int ys.length,H,I.tok _,⟨s.toks+1,by rw [cJ,bO]⟩,q⟩
 obtain⟨aV,r',pl,hz⟩:=I.tuple hq;have bO:=r'.length;exact len_tuple pl (by simp only [cJ] <;> omega) ⟨.int ys.length,H,I.tok _,⟨s.toks+1,by rw [cJ,bO]⟩,q⟩
def gq:i0 X (.type "list") (λxs H Q=>PL xs (λp ys=>aI X.K H p ys\/aZ X.K H p ys) λys=>∀l,H l=none->Q (.ref l) (upd H l (.lst ys))):=by
 intro ai s σ H xs us Q I r h;obtain⟨p,ys,rfl,hq,q⟩:=h;obtain⟨u,rfl,rx⟩:=vals1 r;cases rx;have fin:∀(aV:z0n),bH ys aV->ys.length<=sizeLine->∀(h':Heap) (c':Nat),(∀b o',s.heap.get? b=some o'->h'.get? b=some o') ->
   h'.get? s.heap.objs.size=some { cls:=.type "list",dict:=none,data:=.seq aV.toArray c',slots:=#[] }->EP X ai σ Q (238) { s with heap:=h' }:=λaV r' hz h' c' kp e =>
  ⟨238,_,I.laid (t':=s.toks) kp (aG _) (show cQ X.prog X.w _ h' _ (.lst ys) from ⟨hz,aV,c',r',e⟩),rfl,q _ (I.cw.fresh (aG _))⟩
 rcases hq with hq | hq
 .obtain⟨aV,r',pl,hz⟩:=I.list hq;have bO:=r'.length;obtain⟨o,ho,hc,n,hd⟩:=pl.isList;exact call_list_seq p (.inl rfl) ho hc hd (λh' c' kp e=>fin aV r' hz h' c' kp e) (by simp only [cJ] <;> omega)
 obtain⟨aV,r',pl,hz⟩:=I.tuple hq;have bO:=r'.length;obtain⟨o,ho,hc,n,hd⟩:=pl;exact call_list_seq p (.inr rfl) ho hc hd (λh' c' kp e=>fin aV r' hz h' c' kp e) (by simp only [cJ] <;> omega)
def ji:i0 X (.type "tuple") (λxs H Q=>∃p ys,xs=[.ref p]/\((aI X.K H p ys/\∀l,H l=none->Q (.ref l) (upd H l (.tup ys)))\/(aZ X.K H p ys/\Q (.ref p) H))):=by
 intro ai s σ H xs us Q I r h;obtain⟨p,ys,rfl,h⟩:=h;obtain⟨u,rfl,rx⟩:=vals1 r;cases rx;rcases h with ⟨hq,q⟩ | ⟨hq,q⟩
 .obtain⟨aV,r',pl,hz⟩:=I.list hq;have bO:=r'.length;refine call_tuple_list pl.isList (λh' kp=>?_) (by simp only [cJ] <;> omega)
  have I1:Inv X ai σ H { s with heap:=h' }:=I.kept (t':=s.toks) kp;have I2:Inv X ai σ (upd H h'.objs.size (.tup ys)) { s with heap:=h'.push { cls:=.type "tuple",data:=.seq aV.toArray } } :=
   I1.laid (t':=s.toks) (λb o e=>cg _ e) (aG _) (show cQ X.prog X.w _ _ _ (.tup ys) from ⟨hz,aV,r',IsTup.new _ _⟩)
  exact⟨.ref h'.objs.size,_,I2,rfl,q _ (I1.cw.fresh (aG _))⟩
 obtain⟨aV,r',pl,hz⟩:=I.tuple hq;exact call_tuple_same pl ⟨.ref p,H,I,rfl,q⟩
def Wy (K:bp)(T:String)(x:V)(H:Hp):Prop:=match x with
 | .str _=>T = "str"
 | .int _=>T = "int"
 | .ref p=>(T = "list" /\ ∃xs,aI K H p xs)\/(T = "tuple" /\ ∃o,K.lookup p=some o/\o.cls=.type "tuple" /\ o.dict=none) \/
   (T = "dict" /\ ((∃kvs,H p=188)\/∃kvs,H p=some (.dT kvs)))\/(T = "set" /\ ∃S n,H p=some (.set S n))
 | _=>False
def FR {ai:z0e}{σ:St}{H:Hp}{s:Shared}{T:String}{x:V}{v:Value}(I:141)(r:RelV x v)(ty:Wy X.K T x H) :
  s.TypeIs v T/\∀a,v=.ref a->∃ob,s.heap.get? a=some ob/\ob.dict=none:=by
 cases x with
 | str z =>
  obtain⟨t,rfl⟩:=r;cases (show T = "str" from ty);exact⟨typeIs_str s z t,λ_ e=>nomatch e⟩
 | int i =>
  obtain⟨t,rfl⟩:=r;cases (show T = "int" from ty);exact⟨typeIs_int s i t,λ_ e=>nomatch e⟩
 | ref p =>
  cases r;rcases ty with ⟨rfl,xs,hq⟩ | ⟨rfl,o,hk,hc,hd⟩ | ⟨rfl,hk⟩ | ⟨rfl,S,n,hk⟩
  .obtain⟨aV,_,pl,_⟩:=I.list hq;refine⟨pl.isList.typeIs,λa e=>?_⟩;cases e;obtain⟨o,n,e,c,hd,_⟩:=pl;exact⟨o,e,hd⟩
  .refine⟨⟨o,I.zo p o hk,hc⟩,λa e=>?_⟩;cases e;exact⟨o,I.zo _ o hk,hd⟩
  .have z:∃o,s.heap.get? p=some o/\o.ExactDict:=by
    rcases hk with ⟨kvs,hk⟩ | ⟨kvs,hk⟩
    .obtain⟨_,_,_,_,o,_,_,e,ex,_⟩:=I.cw p _ hk;exact⟨o,e,ex⟩
    obtain⟨_,_,_,_,o,_,_,e,ex,_⟩:=I.cw p _ hk;exact⟨o,e,ex⟩
   obtain⟨o,e,ex⟩:=z;refine⟨⟨o,e,ex.1⟩,λa e2=>?_⟩;cases e2;exact⟨o,e,ex.2.1⟩
  obtain⟨o,_,_,_,e,ex,_⟩:=I.cw p _ hk;refine⟨⟨o,e,ex.1⟩,λa e2=>?_⟩;cases e2;exact⟨o,e,ex.2.1⟩
 | _=>exact False.elim ty
def WI (K:bp)(T:String)(r:V->List V->Hp->VK->Prop)(to:TE):TE:=λσ H Q=>to σ H λx H1=>Wy K T x H1/\r x [] H1 Q
def tBM (K:bp)(T:String)(r:V->List V->Hp->VK->Prop)(to:TE)(t:TA):TE:=λσ H Q=>to σ H λx H1=>Wy K T x H1/\t σ H1 λxs H2=>r x xs H2 Q
variable {o e:Expr}{es:z0r}{to:TE}{t:TA}{name:Str}{apos g9:Pos}{T id:String}{r:V->List V->Hp->VK->Prop}
def Hc (pa:PlainAttrs T)(slot:Slot T name id)(Yk:typeOf (.builtin id)=pure (.type "method_descriptor"))(hm:MtR X id r)(ho:PE X o to)
  (IF:attributeBase o name X.env (eval o X.env)=eval o X.env:=by rfl)(Iv:(apos.endLine == g9.line)=true:=by rfl):PE X (.Call (.Attribute o name apos) [] [] g9) (WI X.K T r to):=by
 intro ai s σ H Q I h;refine wpAny_Call_method0_late IF Iv (dC (ho ai s σ H _ I h) λv s1 bI=>?_);obtain⟨x,H1,I1,r1,ty,q1⟩:=bI;obtain⟨h1,h2⟩:=FR I1 r1 ty;exact⟨T,id,pa,slot,Yk,h1,h2,rM rfl (PySem.evalArgs_none (hm ai s1 σ H1 x [] v [] Q I1 r1 .nil q1))⟩
def gZ (pa:PlainAttrs T)(slot:Slot T name id)(Yk:typeOf (.builtin id)=pure (.type "method_descriptor"))(hm:MtR X id r)(ho:PE X o to)(ha:PA X (e::es) t)
  (IF:attributeBase o name X.env (eval o X.env)=eval o X.env:=by rfl)
  (YQ:((backTo g9 (starEach (e::es) X.env)).all (λx=>!x.1) && (backToKw g9 (keywordEach [] X.env)).all (λx=>x.1.isSome)
   && decide ((e::es).length+([]:List Keyword).length+(if ([]:List Keyword).isEmpty then 0 else 1) < 30))=true:=by rfl)
  (Iv:(apos.endLine == g9.line)=true:=by rfl)(hs:501:=by rfl)(OJ:(backTo g9 (starEach es X.env)).any 87=false:=by rfl) :
  PE X (.Call (.Attribute o name apos) (e::es) [] g9) (tBM X.K T r to t):=by
 intro ai s σ H Q I h;refine wpAny_Call_method_late IF YQ Iv rfl (dC (ho ai s σ H _ I h) λv s1 bI=>?_);obtain⟨x,H1,I1,r1,ty,q1⟩:=bI;obtain⟨h1,h2⟩:=FR I1 r1 ty;refine⟨T,id,pa,slot,Yk,h1,h2,?_⟩;have hA:=ha g9 ai s1 σ H1 _ I1 q1;rw [hs] at hA ⊢;refine rM (by show (false || (backTo g9 (starEach es X.env)).any 87)=false;rw [OJ] <;> rfl) (wo ?_)
 refine dC hA λus s2 bI=>?_;obtain⟨vs,H2,I2,r2,q2⟩:=bI;exact hm ai s2 σ H2 x vs v us Q I2 r1 r2 q2
end
def V8 (X:Cx)(id:String)(r:V->List V->Hp->VK->Prop):Prop :=
 ∀(ai:z0e)(s:Shared)(σ:St)(H:Hp)(x:V)(xs:List V)(v:Value)(us:z0n)(Q:VK),141->RelV x v->bH xs us->r x xs H Q ->
  wpAny 151 X.A (call (.builtin id) (v::us)) (EP X ai σ Q) X.xe s
def bH.one {x:V}{us:z0n}(h:bH [x] us):∃u,us=[u]/\RelV x u:=by
 cases h with | cons r t=>cases t;exact⟨_,rfl,r⟩
def bH.zero:∀{us:z0n},bH [] us->us=[]
 | _,.nil=>rfl
theorem bH.dropLast {xs:List V}{us:z0n}(h:bH xs us):bH xs.dropLast us.dropLast:=by
 induction h with
 | nil=>exact .nil
 | cons r t ih =>
  cases t with
  | nil=>exact .nil
  | cons q t'=>exact .cons r ih
def B3 {α:Type}(l:List α):l.eraseIdx (l.length - 1)=l.dropLast:=by
 induction l with
 | nil=>rfl
 | cons a r ih =>
  cases r with
  | nil=>rfl
  | cons b r =>
   have e:(a::b::r).length - 1=((b::r).length - 1)+1:=by
    have h1:(a::b::r).length=r.length+2:=rfl;have h2:(b::r).length=r.length+1:=rfl;omega
   rw [e,List.eraseIdx_cons_succ,ih]
   all_goals rfl
section
variable {X:Cx}{ai:z0e}{σ:St}{H:Hp}{s:Shared}{l b:Addr}{xs ys zs:List V}
def Inv.Ov {aV uE:z0n}{n:Nat}{f:z0l->z0l}{t':Nat}(I:141)(hH:H l=some (.lst xs))
  (e:s.heap.get? l=some { cls:=.type "list",data:=.seq aV.toArray n })(hf:f aV.toArray=uE.toArray)(hv:bH ys uE)(hz:ys.length<=sizeLine) :
  Inv X ai σ (upd H l (.lst ys)) { s with heap:=s.heap.update l (Obj.mapSeq f),toks:=t' }:=by
 have q:=PySem.IsL.update e f;rw [hf] at q;refine I.write (x:=l) (e:=l) (by rw [hH];exact trivial) (.inl rfl) (λb' u hb hu=>(uU s.heap (Obj.mapSeq f) (d8 hb)).trans hu) ⟨_,q⟩ ?_;exact⟨hz,uE,_,hv,q⟩
def Inv.XU {aV:z0n}{t':Nat}(I:141)(hv:bH ys aV)(hz:ys.length<=sizeLine) :
  Inv X ai σ (upd H s.heap.objs.size (.lst ys)) { s with heap:=s.heap.push { cls:=.type "list",data:=.seq aV.toArray },toks:=t' } :=
 I.laid (λ_ _ q=>cg _ q) (aG _) ⟨hz,aV,0,hv,dB _ rfl⟩
theorem Inv.fresh (I:141):H s.heap.objs.size=none:=I.cw.fresh (aG _)
def Inv.Bw (I:141)(hH:H l=some (.lst xs)):xs.length<=sizeLine/\∃(aV:z0n) (n:Nat),bH xs aV/\xs.length=aV.length/\s.heap.get? l=some { cls:=.type "list",data:=.seq aV.toArray n }:=by
 obtain⟨z,aV,n,r,e⟩:=I.cw l _ hH;exact⟨z,aV,n,r,r.length,e⟩
def HU {n:Nat}(h:n<=sizeLine):Builtin.List.listTooLong n=false:=by
 unfold Builtin.List.listTooLong;exact dU ∅
end
section
variable {X:Cx}
inductive Ut (H:Hp)(x:V)(vs:List V)(R:Addr->List V->V->Prop):Prop
|mk(l:Addr)(xs:List V)(y:V)(e:x=.ref l)(e2:vs=[y])(h:H l=some (.lst xs))(z:xs.length < sizeLine)(q:R l xs y)
def Kq:V->List V->Hp->VK->Prop:=λx vs H Q=>Ut H x vs λl xs y=>Q .fu (upd H l (.lst (xs++[y])))
def cx:V8 X "list.append" Kq:=by
 intro ai s σ H x vs v us Q I rx rv h;obtain⟨l,xs,y,rfl,rfl,hH,hz,q⟩:=h;cases rx;obtain⟨u,rfl,ru⟩:=rv.one;obtain⟨z,aV,n,r,hl,e⟩:=I.Bw hH;refine call_meets F.slot_list_append ⟨_,e,rfl⟩ F.entry_list_append (F.args_list_append_2 _ _) (PySem.list_append l aV.toArray n u (by rw [cJ];omega)) ⟨e,?_⟩;refine⟨.fu,_,I.Ov (uE:=aV++[u]) hH e 144 (r.append (.cons ru .nil)) ?_,rfl,q⟩;rw [a8,fU];omega
def Ko:V->List V->Hp->VK->Prop:=λx vs H Q=>∃l b xs zs,x=.ref l/\vs=[.ref b]/\H l=some (.lst xs)/\H b=some (.lst zs)/\xs.length+zs.length<=sizeLine/\Q .fu (upd H l (.lst (xs++zs)))
def vp:V8 X "list.extend" Ko:=by
 intro ai s σ H x vs v us Q I rx rv h;obtain⟨l,b,xs,zs,rfl,rfl,hH,hB,hz,q⟩:=h;cases rx;obtain⟨u,rfl,ru⟩:=rv.one;cases ru;obtain⟨z,aV,n,r,hl,e⟩:=I.Bw hH;obtain⟨z2,fq,n2,r2,uG,e2⟩:=I.Bw hB;have hsz:aV.toArray.size+fq.toArray.size<=sizeLine:=by rw [cJ,cJ];omega
 have SX:¬(!aV.toArray.isEmpty && Builtin.List.listTooLong (aV.toArray.size+fq.toArray.size))=true:=by
  rw [HU hsz,Bool.and_false];exact cX
 refine call_meets F.slot_list_extend ⟨_,e,rfl⟩ F.entry_list_extend (F.args_list_extend_2 _ _)
  (AutoSeq1.list_extend_list_list_0 l aV.toArray n b fq.toArray n2 SX (by rw [cJ];omega) ∅) ⟨e,e2,?_⟩
 refine⟨.fu,_,I.Ov (uE:=aV++fq) hH e 144 (r.append r2) ?_,rfl,q⟩;rw [a8];omega
def Xa:V->List V->Hp->VK->Prop:=λx vs H Q=>∃l xs y,x=.ref l/\vs=[]/\H l=some (.lst xs)/\xs[xs.length - 1]?=some y/\Q y (upd H l (.lst xs.dropLast))
def Ia:V8 X "list.pop" Xa:=by
 intro ai s σ H x vs v us Q I rx rv h;obtain⟨l,xs,y,rfl,rfl,hH,hy,q⟩:=h;cases rx;have BM:=rv.zero;subst BM;obtain⟨z,aV,n,r,hl,e⟩:=I.Bw hH;obtain⟨u,hu,ru⟩:=r.get hy;have Yg:aV.toArray[aV.toArray.size - 1]?=some u:=by
  show aV.toArray[aV.length - 1]?=some u;rw [<-rN,<-hl];exact hu
 refine call_meets F.slot_list_pop ⟨_,e,rfl⟩ F.entry_list_pop (F.args_list_pop_1 _) (MeetsSeq.list_pop_last l aV.toArray n u Yg (by rw [cJ];omega)) ⟨e,?_⟩;refine⟨y,_,I.Ov (uE:=aV.dropLast) hH e ?_ r.dropLast ?_,ru,q⟩
 .show aV.toArray.eraseIdxIfInBounds (aV.toArray.size - 1)=aV.dropLast.toArray;rw [cJ,List.eraseIdxIfInBounds_toArray,B3]
 rw [List.length_dropLast];omega
def Xc:R2:=λx y H Q=>XC2 (λl xs=>H l=some (.lst xs)) x y λxs zs=>∀p,H p=none->Q (.ref p) (upd H p (.lst (xs++zs)))
def jh:ng X (binaryOp .Add) Xc:=by
 intro ai s σ H x y v u Q I rx ry h;obtain⟨l,b,xs,zs,rfl,rfl,hH,hB,hz,q⟩:=h;cases rx;cases ry;obtain⟨z,aV,n,r,hl,e⟩:=I.Bw hH;obtain⟨z2,fq,n2,r2,uG,e2⟩:=I.Bw hB;refine PySem.P.add_list e e2 ?_ (by rw [cJ,cJ];omega);have ea:aV.toArray++fq.toArray=(aV++fq).toArray:=92
 rw [ea];exact⟨.ref _,_,I.XU (t':=s.toks) (r.append r2) (by rw [a8];omega),rfl,q _ I.fresh⟩
end
section
variable {prog:Program}{w:World}{A:Around}{E:z0b}{s:Shared}
end
section
variable {X:Cx}
end
end L2
namespace v8
open PySem PySem.W PySem.Calls PyProof.Rows
def qv {P:Params}{h:Heap}:∀(ns:z0u)(vs:z0n),WellAll P h vs (ns.map WData.int)->IntsAre vs ns:=by
 intro ns
 induction ns with
 | nil =>
  intro vs w;rw [mn] at w;cases w;exact .nil
 | cons n ns ih =>
  intro vs w;rw [cI] at w;cases w with
  | cons a b =>
   cases a;exact .cons _ _ (ih _ b)
def DO {l:OpenLaw}{n:Nat}(hn:l.most=some n){P:Params}{h:Heap}{args:List WData}{vals:z0n}
  (Lm:l.row.toRowW.claim.pre args=true)(Yi:WellAll P h vals args) :
  ∃a vs ns,vals=[Value.ref a]/\args=[WData.list (ns.map WData.int)]/\h.get? a=some { cls:=.type "list",data:=.seq vs.toArray }/\IntsAre vs ns/\ns.length<=n:=by
 have Vl:WShape.hasAll [] args [.list .int]=true:=(pre_splitW Lm).1;have hc:l.pre.holds [] { args:=args }=true:=(pre_splitW Lm).2;obtain⟨d,r,rfl,h1,h2⟩:=hasAllW_cons Vl;obtain rfl:=hasAllW_nil h2;obtain⟨xs,rfl,h3⟩:=hasW_list h1;obtain⟨ns,rfl⟩:=items_int h3;have bO:ns.length<=n:=by
  unfold OpenLaw.pre at hc;have h4:(WTm.not (.lt (.lit (.int (n:Int))) (.len (.arg 0)))).holds [] { args:=[.list (ns.map .int)] }=true:=by
   have h4:=(holds_andW hc).1;rw [hn] at h4;exact h4
  have h5:=condW_of h4 (w_not (w_lt w_lit (w_len_list (w_arg rfl))));rw [ar] at h5;refine Nat.le_of_not_lt λq=>?_;have q':(n:Int) < ((ns.length:Nat):Int):=by omega
  first
   | (rw [cv q'] at h5;exact absurd h5 nofun)
   | (simp at h5;omega)
 cases Yi with
 | cons w1 w2 =>
  cases w2;cases w1 with
  | list ho qy=>exact⟨_,_,ns,rfl,rfl,ho,qv ns _ qy,bO⟩
def DV (l:OpenLaw)(args:List WData):l.row.toRowW.claim.post args (.bool true) args=true :=
 postW_of (r:=l.row.toRowW) (X:=(true == true))
  (show WShape.has [] (.bool true) .bool=true by first | rfl | decide | simp [WShape.has,WShape.arms,WShape.armsAll])
  (show (WTm.eq .res (.lit (.bool true))).value [] { args:=args,res:=some (.bool true),after:=args }=some (.bool (true == true)) from w_eq_bool (w_res rfl) w_lit) rfl
def zW {l:OpenLaw}{n:Nat}{q:Program}{loose:z0t}{XP:z0c->Heap->Prop}{YP:World->Heap->Prop}{d:DefRec}
  (hn:l.most=some n)(Th:d.params.defaults=[])
  (call:∀(w:World)(s₀ s₁:Shared)(mg mb:z0c)(fa:Addr)(o:Obj)(pm cd doc:Value)(a:Addr)(vs:z0n)(ns:z0u),
   Ground q loose [] XP w s₀ mg mb s₁.heap->YP w s₁.heap ->
   s₁.heap.get? fa=some o->o.data=.func (docDef d.name d.params d.body d.scope pm cd doc)->s₁.heap.CodeRec cd d.name->mg d.name=some (.ref fa) ->
   s₁.heap.get? a=some { cls:=.type "list",data:=.seq vs.toArray }->IntsAre vs ns->ns.length<=n->s₁.gens=#[] ->
   codeAny (model l.prog w) callerA (.call (.ref fa) ⟨[.ref a],[]⟩) (λr s'=>r=.ok (.ret (.bool true))/\OldK s₁.heap s'.heap/\s'.os=s₁.os/\AllBare s'.gens) s₁) :
  WalkO q loose XP YP l.row.toRowW d [] (λf vs=>PySem.call f vs):=by
 intro w s₀ s₁ mg mb G Y fa o pm cd doc dV kV ho hd ym hD SW hg args vals as Lm aaA hrd Yi hlo;obtain rfl:dV=.none:=Dflts.none hD Th;obtain rfl:kV=.none:=Dflts.noKw hD;obtain⟨a,vs,ns,rfl,rfl,ON,hints,bO⟩:=DO hn Lm Yi;refine enter_call (codeAny_mono (call w s₀ s₁ mg mb fa o pm cd doc a vs ns G Y ho (fd_plain hd) ym SW ON hints bO hg) λr s' hq=>?_);obtain⟨rfl,h2,h3,h4⟩:=hq;exact⟨.inl ⟨.bool true,.bool true,[],rfl,λ_=>rfl,.bool true,DV l _,λ_=>⟨List.Pairwise.nil,λ_ hm=>(nomatch hm)⟩⟩,h2,h3,h4⟩
section
variable {prog:Program}{w:World}{A:Around}{E:z0b}{s:Shared}{K:Frag}
def pb (h:Heap):Heap:={ h with objs:=#[] }
def jS (h:Heap)(b:Addr):(pb h).get? b=none:=by
 cases e:(pb h).get? b with
 | none=>rfl
 | some o=>exact absurd (bD e) (mz _)
def ledger (h:Heap)(L d:Addr):z0e:=(List.range h.objs.size).filterMap λa=>if a=L\/a=d then none else (h.get? a).map λo=>(a,o)
def f_ {h:Heap}{L d a:Addr}{o:Obj}:(a,o)∈ledger h L d↔a≠L/\a≠d/\h.get? a=some o:=by
 unfold ledger;rw [List.mem_filterMap];constructor
 .rintro⟨b,_,e⟩
  split at e
  .cases e
  rename_i hb
  obtain⟨o',ho,e'⟩:=bT.mp e;cases e';exact⟨λq=>hb (.inl q),λq=>hb (.inr q),ho⟩
 rintro⟨n1,n2,ho⟩;refine⟨a,j6.mpr (bD ho),?_⟩;rw [au (show ¬(a=L\/a=d) from λq=>q.elim n1 n2),ho] <;> rfl
def qa {h:Heap}{L d:Addr}{od:Obj}(jX:d≠L)(ho:h.get? d=some od):News (pb h) L h ([]++(d,od)::ledger h L d):=by
 rintro⟨a,o⟩ hp;rcases b8.mp hp with e | hp
 .cases e;exact⟨ho,jX,jS _ _⟩
 obtain⟨n1,n2,e⟩:=f_.mp hp;exact⟨e,n1,jS _ _⟩
def IP {h:Heap}{L:Addr}{m:z0c}(n:h.Ns L m):Fr (pb h) L h m :=
 ⟨n,λb o e=>(by rw [jS] at e;cases e),gr _⟩
end
end v8
namespace L2
open PySem PySem.Spec PyProof.Rows
theorem uY:∀{vs:z0n}{ns:z0u},IntsAre vs ns->bH (ns.map V.int) vs
 | _,_,.nil=>.nil
 | _,_,.cons n t h=>.cons ⟨t,rfl⟩ (uY h)
def dH (s:Stmt):Arguments:=match s with
 | .FunctionDef _ a _ _ _ _ _ _ _ _=>a
 | _=>{ posonlyargs:=[],args:=[],vararg:=none,kwonlyargs:=[],kw_defaults:=[],kwarg:=none,defaults:=[] }
def cP (s:Stmt):List Stmt:=match s with
 | .FunctionDef _ _ b _ _ _ _ _ _ _=>b
 | _=>[]
def ay (s:Stmt):Scope:=match s with
 | .FunctionDef _ _ _ _ _ _ sc _ _ _=>sc
 | _=>{ kind:=.function,names:=[],isGenerator:=false,isCoroutine:=false }
abbrev fI:Fj:=λ_ _ _ _ _ _=>False
abbrev E0:XK:=λ_ _ _=>False
def lW {X:Cx}:Passes fI X E0:=λ_ _ _ _ _ _ _ h=>h.elim
structure iz (K:bp)(x qual:Str)(st:Stmt)(f:Addr)(fd:FuncData):Prop where
 ex:∃(oc:Value)(od:z0m)(kV doc pm:Value)(an:z0m)(d6 ct:Value)(yS:z0a),
  fd=PySem.W.fnOf x qual (dH st) (cP st) (ay st) .none kV doc pm an d6 ct/\K.lookup f=some ⟨oc,od,.func fd,yS⟩/\PySem.W.codeIn K d6 qual=true
 kp:PySem.W.keepIn K (.ref f)=true
section
variable {P:Program}{w:World}{K:bp}{mg:z0c}{base:Heap}
def iz.ok {x qual:Str}{st:Stmt}{f:Addr}{fd:FuncData}{N ps:z0t}{k:Nat}{sp:Sp}(F:iz K x qual st f fd)(S:aK N ps (ay st))(len:∀vs H Q E,sp vs H Q E->vs.length=ps.length)
  (jF:∀(d6:Value)(A:Around)(outer:List Env)(s:Shared)(H:Hp)(vs:List V)(Q:VK)(E:XK),gF k (A.deeper (envOfC qual (ay st) s.heap.objs.size f d6))->sp vs H Q E ->
   ∃t,Cj (pM fI P w K mg base N qual (ay st) f d6 A outer s H E).KW (cP st) t/\t { nx:=λ_ H'=>Q .fu H',rt:=Q } (start N vs) H):bR P w K mg base fI (k+1) f fd ps sp:=by
 obtain⟨oc,od,kV,doc,pm,an,d6,ct,yS,rfl,lk,ym⟩:=F.ex;refine IS lk ym S len λA outer s H vs Q E hr Fv=>?_;obtain⟨t,h,q⟩:=jF d6 A outer s H vs Q E hr Fv;exact⟨t,h.KW,q⟩
def iz.binds {x qual:Str}{st:Stmt}{f:Addr}{fd:FuncData}{ps:z0t}(F:iz K x qual st f fd)
  (h:∀(kV doc pm:Value)(an:z0m)(d6 ct:Value)(us:z0n),us.length=ps.length->bindArgs (PySem.W.fnOf x qual (dH st) (cP st) (ay st) .none kV doc pm an d6 ct) ⟨us,[]⟩=pure (ps.zip us)):Binds K fd ps []:=by
 obtain⟨oc,od,kV,doc,pm,an,d6,ct,yS,rfl,lk,ym⟩:=F.ex;exact .all (h kV doc pm an d6 ct)
def IM {x qual:Str}{st:Stmt}{f:Addr}{oc:Value}{od an:z0m}{yS:z0a}{kV doc pm d6 ct:Value}(l:K.lookup f=some ⟨oc,od,.func (PySem.W.fnOf x qual (dH st) (cP st) (ay st) .none kV doc pm an d6 ct),yS⟩)
  (c:PySem.W.codeIn K d6 qual=true)(k:PySem.W.keepIn K (.ref f)=true):iz K x qual st f (PySem.W.fnOf x qual (dH st) (cP st) (ay st) .none kV doc pm an d6 ct):=⟨⟨oc,od,kV,doc,pm,an,d6,ct,yS,rfl,l,c⟩,k⟩
end
def gh {A:Around}{k:Nat}(hr:gF k A):A.units+1 < cLine:=rE (Nat.add_le_add_left (by decide:1<=64) _) hr.units
section
variable {X:Cx}
def pv (i:Nat){x:Str}{pos:Pos}(hN:X.N[i]?=some x:=by rfl)(hv:V5 X.env.scope x:=by first | exact Or.inl rfl | exact Or.inr 90 | exact Or.inr (Or.inr rfl))(hd:(x == ("__debug__":Str))=false:=by decide)
  (ym:(x == ("__classdict__":Str))=false:=by decide):PE X (.Name x pos) (gN i):=N9 hN hv hd ym
end
def iY {A B:Prop}(h:B):if false=true then A else B:=by
 rw [au cX];exact h
def BI {A B:Prop}(h:A):if true=true then A else B:=by
 rw [aw rfl];exact h
def b_ {c A B:Prop} [Decidable c] (h1:c->A)(h2:¬c->B):if c then A else B:=by
 by_cases h:c
 .rw [aw h];exact h1 h
 rw [au h];exact h2 h
def aD (H H':Hp):Prop:=∀b o,H b=some o->H' b=some o
def aD.refl (H:Hp):aD H H:=λ_ _ h=>h
def aD.trans {H H1 H2:Hp}(a:aD H H1)(b:aD H1 H2):aD H H2:=λc o h=>b c o (a c o h)
def aD.free {H H':Hp}(e:aD H H'){l:Addr}(h:H' l=Option.none):H l=Option.none:=by
 cases q:H l with
 | none=>rfl
 | some o =>
  rw [e l o q] at h;cases h
def aD.seq {K:bp}{H H':Hp}{a:Addr}{xs:List V}(e:aD H H')(h:aI K H a xs):aI K H' a xs:=by
 rcases h with (h | ⟨o,h⟩) | h
 .exact .inl (.inl (e _ _ h))
 .exact .inl (.inr ⟨o,e _ _ h⟩)
 exact .inr h
end L2
namespace HD
open PySem PySem.W
def GK (st:SharedT->Thread->Option (SharedT×Thread))(ok:Thread->Bool):Nat->SharedT->Thread->Option SharedT
 | 0,_,_=>none
 | n+1,s,t=>match through t with
  | true=>some s
  | false=>match ok t with
   | false=>none
   | true=>match st s t with
    | some (s',t')=>GK st ok n s' t'
    | none=>none
theorem CT {tb:String->Option Builtin}{p:Program}{w:World}{n₀:Nat}{ann:z0k}:∀{n:Nat}{s s':SharedT}{t:Thread},GK (stepT (denote tb) p w) (stepOk n₀ ann) n s t=some s'->topRun tb p w n₀ ann n s.abs t=some s'.abs
 | 0,_,_,_,h=>by cases h
 | n+1,s,s',t,h=>by
  unfold GK at h;unfold topRun;cases he:through t with
  | true=>rw [he] at h;cases h;rfl
  | false =>
   rw [he] at h;cases hk:stepOk n₀ ann t with
   | false=>rw [hk] at h;cases h
   | true =>
    rw [hk] at h;cases hs:stepT (denote tb) p w s t with
    | none=>rw [hs] at h;cases h
    | some r=>obtain⟨s₂,t₂⟩:=r;rw [hs] at h;rw [stepT_spec hs];exact CT h
def ofL:List Obj->Nat->BT->BT
 | [],_,t=>t
 | o::r,i,t=>ofL r (i+1) (t.ins i o)
noncomputable def Dr (P:Params):BT:=ofL (boot_heap P).objs.toList 0 .nil
def E5 (P:Params):absHeap (Dr P) 11 {}=boot_heap P:=by kernel_rfl
def O6 {β:Type}:Obj->(Obj->β)->β
 | ⟨c,d,t,s⟩,k=>k ⟨c,d,t,s⟩
def qS {β:Type}:List Obj->(List Obj->β)->β
 | [],k=>k []
 | x::r,k=>O6 x λy=>qS r λys=>k (y::ys)
theorem tG {β:Type}:∀(l:List Obj)(k:List Obj->β),qS l k=k l
 | [],_=>rfl
 | ⟨c,d,t,s⟩::r,k=>by
  show qS r (λys=>k (⟨c,d,t,s⟩::ys))=_;rw [tG r]
def Ig (p q:Program) (loose:z0t)(Xt:Shared->Bool){α:Type}(Yf:Shared->α)(g0:Bool)(h₀:Heap)(s:Shared) :=
 ((staticsOk (importedModules p.main.body) h₀ s.heap && namesBound p s.heap && gensDone s && laidKept h₀ s.heap),openSeen q loose (importedModules p.main.body) Xt g0 s,Yf s)
def Gi {β:Type}(f:Shared->β)(s:SharedT):β:=qS (s.tree.list s.n) λl=>f ⟨⟨l.toArray,s.life⟩,s.gens,s.drawn,s.toks,s.os⟩
def Gh {β:Type}(f:Shared->β)(s:SharedT):Gi f s=f s.abs:=tG _ _
def Sa {p q:Program}{loose:z0t}{Xt:Shared->Bool}{α:Type}{Yf:Shared->α}{Ya:World->α}{N:Nat}{g0:Bool}{ann:z0k}{M:Nat}
  (Hh:∀w:World,(fencedOpening treeTable p w N).map (λs=>(s.heap,s.gens,s.drawn,s.toks))=some (boot_heap w.params,Array.mk [],boot_drawn,boot_toks))
  (size:∀w:World,((boot_heap w.params).isNs mainGlobals && (Array.mk []:Array GenState).size == 0,(boot_heap w.params).objs.size,(boot_heap w.params).nsMap mainGlobals "__annotations__")=(true,11,ann))
  (run:∀(w:World)(os:OsState),(GK (stepT (denote treeTable) p w) (stepOk 11 ann) M ⟨Dr w.params,11,{},Array.mk [],boot_drawn,boot_toks,os⟩ (topStub p)).map (Gi (Ig p q loose Xt Yf g0 (boot_heap w.params)))=some (true,openGood q loose,Ya w))
  (le:Nat.ble M N=true):LeftO p q loose Xt Yf Ya N g0:=λw=>by
 obtain⟨⟨h,gs,d,k,os⟩,e,e'⟩:=bT.mp (Hh w);obtain⟨rfl,rfl,rfl,rfl⟩:h=boot_heap w.params/\gs=Array.mk []/\d=boot_drawn/\k=boot_toks:=by simpa using e'
 obtain⟨z1,z2,z3⟩:_/\_/\_:=by simpa only [oM] using size w
 obtain⟨s',r0,l0⟩:=bT.mp (run w os);rw [Gh] at l0;obtain⟨l1,l2,l3⟩:_/\_/\_:=by simpa only [Ig,oM] using l0
 have r:=CT r0;have ea:SharedT.abs ⟨Dr w.params,11,{},Array.mk [],boot_drawn,boot_toks,os⟩=⟨boot_heap w.params,Array.mk [],boot_drawn,boot_toks,os⟩:=by
  unfold SharedT.abs;rw [E5]
 rw [ea] at r;have r:=topRun_mono (N - M) _ _ _ _ r;rw [show M+(N - M)=N by have:=Nat.le_of_ble_eq_true le;omega] at r;have t:topFrom treeTable p w N ⟨boot_heap w.params,Array.mk [],boot_drawn,boot_toks,os⟩=some s'.abs:=by
  unfold topFrom;dsimp only;rw [z1,z2,z3,r];show (match staticsOk (importedModules p.main.body) (boot_heap w.params) s'.abs.heap && namesBound p s'.abs.heap && gensDone s'.abs && laidKept (boot_heap w.params) s'.abs.heap with | true=>_ | false=>_)=_
  rw [l1]
 unfold openEnds;rw [e];show (topFrom treeTable p w N _).map _=_;rw [t];exact congrArg some (gQ l2 l3)
end HD
set_option maxHeartbeats 0
namespace HD
open PySem PySem.W L2 PySem.Challenge
def dE (P:Params)(x:Str)(t:Tok)(v:Value):DictEntry:=⟨PyData.keyHash P x,.str x t,v⟩
def top (p:Program) (i:Nat):Stmt:=p.main.body.getD i (.Pass ⟨0,0,0,0⟩)
def jz (p:Program) (i j:Nat):Stmt:=match top p i with
 | .ClassDef _ _ _ body _ _ _ _ _ _ _=>body.getD j (.Pass ⟨0,0,0,0⟩)
 | _=>.Pass ⟨0,0,0,0⟩
def posOf (s:Stmt):Pos:=match s with
 | .FunctionDef _ _ _ _ _ _ _ _ _ p=>p
 | _=>⟨0,0,0,0⟩
def cF (a:Addr)(n q:Str)(i:Nat)(l m:Int)(x y:Addr)(u v s t:Value)(z:Int)(w:Nat):Addr×Obj:=(a,⟨.type "code",none,.fields #[.str n i,.str q (i+1),.str "/claim/cut.py" (i+2),.int l 0,.int m 0,.int 0 0,.int 0 0,.int 3 0,.ref x,.bool true,.int 181 0,.ref y,u,v,s,t,.int z 0,.int l 0,.str "/claim/cut.py" w],#[]⟩)
def fF (a:Addr)(n q:Str)(s:Stmt)(m:Value):Addr×Obj:=(a,⟨.type "function",none,.func (fnOf n q (dH s) (cP s) (ay s) .none .none .none m none (.ref (a-1)) .none),#[]⟩)
def dR (P:Params)(x:Str)(t:Tok)(a:Addr):DictEntry:=dE P x t (.ref a)
def m0:Value:=.str "__main__" 164
def m1:Value:=.str "wright.rules" 194
def m2:Value:=.str "wright.places" 226
def m3:Value:=.str "wright.begin_tables" 269
def m4:Value:=.str "wright.errors" 364
def m5:Value:=.str "wright.loops" 525
def m6:Value:=.str "wright.tree_sizes" 555
def m7:Value:=.str "wright.grammar_faults" 576
def m8:Value:=.str "wright.least_trees" 603
def m9:Value:=.str "wright.grammars" 689
def lY:Value:=.str "law_wright_k39_places_moved" 732
noncomputable def K' (p:Program)(P:Params):Frag:=[
 (2,⟨.none,none,.dict #[] 0,#[]⟩),
 (3,⟨.type "dict",none,.dict #[dE P "__name__" 165 (.str "law_wright_k39_places_moved" 732),dE P "__doc__" 166 (.none),dE P "__package__" 167 (.none),dE P "__loader__" 168 (.builtin "__main__.__loader__#opaque"),dE P "__spec__" 169 (.none),dR P "__annotations__" 170 6,dR P "__builtins__" 171 4,dE P "__file__" 173 (.str "/claim/cut.py" 172),dE P "__cached__" 174 (.none),dR P "_wall" 193 21,dR P "heads_of" 201 26,dR P "words_in" 207 31,dR P "numbers_by_name" 213 36,dR P "standings_by_part" 225 43,dR P "part_at" 236 50,dR P "parts_of" 244 57,dR P "closed_list" 250 62,dR P "texts_behind" 262 69,dR P "moved_list" 268 74,dR P "found_empties" 276 79,dR P "first_places" 287 86,dR P "BeginTable" 363 134,dR P "WrightError" 383 148,dR P "NoRules" 399 161,dR P "Twice" 424 180,dR P "Endless" 449 199,dR P "Unmet" 474 218,dR P "Loop" 499 237,dR P "Vast" 524 256,dR P "find_loop" 532 263,dR P "steps_with_like_rows" 538 268,dR P "way_back" 554 275,dR P "least_sizes" 562 280,dR P "greatest_empty_sizes" 569 287,dR P "settled_sizes" 575 292,dE P "MOST_RULES" 579 (.int (60) 578),dR P "refuse_faults" 585 297,dR P "refuse_twice" 596 304,dR P "names_met" 602 309,dR P "least_by_part" 610 314,dR P "rule_size" 616 319,dR P "empty_by_name" 622 324,dR P "LeastTrees" 688 367,dR P "Grammar" 731 396,dR P "_law_cell_at" 741 407,dR P "_law_names" 747 412,dR P "_law_words" 754 419,dR P "_law_digits" 766 426,dR P "_law_skeleton" 780 433,dR P "_law_more" 796 440,dR P "_law_ended" 802 445,dR P "_law_not_vast" 808 450,dR P "_law_good" 814 455,dR P "_law_grammar" 828 462,dR P "_law_begins" 834 467,dR P "_law_parts" 842 474,dR P "_law_ahead" 848 479,dR P "_law_closed" 854 484,dR P "_law_place" 864 491,dR P "law" 870 496] 60,#[]⟩),
 (cF 20 "_wall" "_wall" 187 1 1 15 16 .none (.ref 17) (.ref 18) (.ref 19) 191 192),
 (fF 21 "_wall" "_wall" (top p 0) m0),
 (cF 25 "heads_of" "heads_of" 196 5 1 22 23 .none .none .none (.ref 24) 199 200),
 (fF 26 "heads_of" "heads_of" (top p 2) m1),
 (cF 30 "words_in" "words_in" 202 7 1 27 28 .none .none .none (.ref 29) 205 206),
 (fF 31 "words_in" "words_in" (top p 3) m1),
 (cF 35 "numbers_by_name" "numbers_by_name" 208 15 1 32 33 .none .none .none (.ref 34) 211 212),
 (fF 36 "numbers_by_name" "numbers_by_name" (top p 4) m1),
 (cF 42 "standings_by_part" "standings_by_part" 214 20 1 37 38 .none (.ref 39) (.ref 40) (.ref 41) 223 224),
 (fF 43 "standings_by_part" "standings_by_part" (top p 5) m1),
 (cF 49 "part_at" "part_at" 228 27 2 44 45 .none (.ref 46) (.ref 47) (.ref 48) 234 235),
 (fF 50 "part_at" "part_at" (top p 7) m2),
 (cF 56 "parts_of" "parts_of" 237 30 2 51 52 .none (.ref 53) (.ref 54) (.ref 55) 242 243),
 (fF 57 "parts_of" "parts_of" (top p 8) m2),
 (cF 61 "closed_list" "closed_list" 245 32 2 58 59 .none .none .none (.ref 60) 248 249),
 (fF 62 "closed_list" "closed_list" (top p 9) m2),
 (cF 68 "texts_behind" "texts_behind" 251 46 3 63 64 .none (.ref 65) (.ref 66) (.ref 67) 260 261),
 (fF 69 "texts_behind" "texts_behind" (top p 10) m2),
 (cF 73 "moved_list" "moved_list" 263 54 3 70 71 .none .none .none (.ref 72) 266 267),
 (fF 74 "moved_list" "moved_list" (top p 11) m2),
 (cF 78 "found_empties" "found_empties" 271 58 1 75 76 .none .none .none (.ref 77) 274 275),
 (fF 79 "found_empties" "found_empties" (top p 13) m3),
 (cF 85 "first_places" "first_places" 277 69 2 80 81 .none (.ref 82) (.ref 83) (.ref 84) 285 286),
 (fF 86 "first_places" "first_places" (top p 14) m3),
 (cF 97 "__init__" "BeginTable.__init__" 300 78 2 94 95 .none .none .none (.ref 96) 303 304),
 (fF 98 "__init__" "BeginTable.__init__" (jz p 15 0) m3),
 (cF 104 "find_begins" "BeginTable.find_begins" 306 89 3 99 100 .none (.ref 101) (.ref 102) (.ref 103) 315 316),
 (fF 105 "find_begins" "BeginTable.find_begins" (jz p 15 1) m3),
 (cF 111 "words_of_part" "BeginTable.words_of_part" 318 97 2 106 107 .none (.ref 108) (.ref 109) (.ref 110) 323 324),
 (fF 112 "words_of_part" "BeginTable.words_of_part" (jz p 15 2) m3),
 (cF 118 "first_words" "BeginTable.first_words" 326 100 2 113 114 .none (.ref 115) (.ref 116) (.ref 117) 334 335),
 (fF 119 "first_words" "BeginTable.first_words" (jz p 15 3) m3),
 (cF 123 "all_empty" "BeginTable.all_empty" 337 107 2 120 121 .none .none .none (.ref 122) 340 341),
 (fF 124 "all_empty" "BeginTable.all_empty" (jz p 15 4) m3),
 (cF 130 "words_of_parts" "BeginTable.words_of_parts" 343 110 3 125 126 .none (.ref 127) (.ref 128) (.ref 129) 349 350),
 (fF 131 "words_of_parts" "BeginTable.words_of_parts" (jz p 15 5) m3),
 (133,⟨.type "dict",none,.dict #[dE P "__module__" 295 (.str "wright.begin_tables" 269),dE P "__firstlineno__" 299 (.int (76) 298),dR P "__init__" 305 98,dR P "find_begins" 317 105,dR P "words_of_part" 325 112,dR P "first_words" 336 119,dR P "all_empty" 342 124,dR P "words_of_parts" 351 131,dR P "__static_attributes__" 356 132,dR P "__dict__" 358 135,dR P "__weakref__" 360 136,dE P "__doc__" 361 (.none)] 4,#[]⟩),
 (134,⟨.type "type",none,.cls ⟨"BeginTable",[.type "object"],[.ref 134,.type "object"],133,"BeginTable",true,[],[],false,none,false⟩,#[none,none,some (.str "BeginTable" 288),some (.str "BeginTable" 296),some (.builtin "object.__new__"),some (.bool true)]⟩),
 (135,⟨.type "getset_descriptor",none,.fields #[.str "__dict__" 357,.ref 134,.builtin "function.__dict__",.builtin "function.__dict__#set"],#[]⟩),
 (136,⟨.type "getset_descriptor",none,.fields #[.str "__weakref__" 359,.ref 134,.builtin "ExceptionGroup.__weakref__",.none],#[]⟩),
 (147,⟨.type "dict",none,.dict #[dE P "__module__" 373 (.str "wright.errors" 364),dE P "__firstlineno__" 377 (.int (113) 376),dR P "__static_attributes__" 378 146,dR P "__weakref__" 380 149,dE P "__doc__" 381 (.none)] 3,#[]⟩),
 (148,⟨.type "type",none,.cls ⟨"WrightError",[.type "ValueError"],[.ref 148,.type "ValueError",.type "Exception",.type "BaseException",.type "object"],147,"WrightError",true,[],[.ref 161,.ref 180,.ref 199,.ref 218,.ref 237,.ref 256],false,none,false⟩,#[some (.ref 139),none,some (.str "WrightError" 366),some (.str "WrightError" 374),some (.builtin "ValueError.__new__"),some (.bool true)]⟩),
 (149,⟨.type "getset_descriptor",none,.fields #[.str "__weakref__" 379,.ref 148,.builtin "ExceptionGroup.__weakref__",.none],#[]⟩),
 (160,⟨.type "dict",none,.dict #[dE P "__module__" 391 (.str "wright.errors" 364),dE P "__firstlineno__" 395 (.int (115) 394),dR P "__static_attributes__" 396 159,dE P "__doc__" 397 (.none)] 2,#[]⟩),
 (161,⟨.type "type",none,.cls ⟨"NoRules",[.ref 148],[.ref 161,.ref 148,.type "ValueError",.type "Exception",.type "BaseException",.type "object"],160,"NoRules",true,[],[],false,none,false⟩,#[some (.ref 152),none,some (.str "NoRules" 384),some (.str "NoRules" 392),some (.builtin "ValueError.__new__"),some (.bool true)]⟩),
 (cF 176 "__init__" "Twice.__init__" 412 119 2 171 172 .none (.ref 173) (.ref 174) (.ref 175) 417 418),
 (fF 177 "__init__" "Twice.__init__" (jz p 19 0) m4),
 (179,⟨.type "dict",none,.dict #[dE P "__module__" 407 (.str "wright.errors" 364),dE P "__firstlineno__" 411 (.int (117) 410),dR P "__init__" 419 177,dR P "__static_attributes__" 421 178,dE P "__doc__" 422 (.none)] 2,#[]⟩),
 (180,⟨.type "type",none,.cls ⟨"Twice",[.ref 148],[.ref 180,.ref 148,.type "ValueError",.type "Exception",.type "BaseException",.type "object"],179,"Twice",true,[],[],false,none,false⟩,#[some (.ref 164),none,some (.str "Twice" 400),some (.str "Twice" 408),some (.builtin "ValueError.__new__"),some (.bool true)]⟩),
 (cF 195 "__init__" "Endless.__init__" 437 124 2 190 191 .none (.ref 192) (.ref 193) (.ref 194) 442 443),
 (fF 196 "__init__" "Endless.__init__" (jz p 20 0) m4),
 (198,⟨.type "dict",none,.dict #[dE P "__module__" 432 (.str "wright.errors" 364),dE P "__firstlineno__" 436 (.int (122) 435),dR P "__init__" 444 196,dR P "__static_attributes__" 446 197,dE P "__doc__" 447 (.none)] 2,#[]⟩),
 (199,⟨.type "type",none,.cls ⟨"Endless",[.ref 148],[.ref 199,.ref 148,.type "ValueError",.type "Exception",.type "BaseException",.type "object"],198,"Endless",true,[],[],false,none,false⟩,#[some (.ref 183),none,some (.str "Endless" 425),some (.str "Endless" 433),some (.builtin "ValueError.__new__"),some (.bool true)]⟩),
 (cF 214 "__init__" "Unmet.__init__" 462 129 2 209 210 .none (.ref 211) (.ref 212) (.ref 213) 467 468),
 (fF 215 "__init__" "Unmet.__init__" (jz p 21 0) m4),
 (217,⟨.type "dict",none,.dict #[dE P "__module__" 457 (.str "wright.errors" 364),dE P "__firstlineno__" 461 (.int (127) 460),dR P "__init__" 469 215,dR P "__static_attributes__" 471 216,dE P "__doc__" 472 (.none)] 2,#[]⟩),
 (218,⟨.type "type",none,.cls ⟨"Unmet",[.ref 148],[.ref 218,.ref 148,.type "ValueError",.type "Exception",.type "BaseException",.type "object"],217,"Unmet",true,[],[],false,none,false⟩,#[some (.ref 202),none,some (.str "Unmet" 450),some (.str "Unmet" 458),some (.builtin "ValueError.__new__"),some (.bool true)]⟩),
 (cF 233 "__init__" "Loop.__init__" 487 134 2 228 229 .none (.ref 230) (.ref 231) (.ref 232) 492 493),
 (fF 234 "__init__" "Loop.__init__" (jz p 22 0) m4),
 (236,⟨.type "dict",none,.dict #[dE P "__module__" 482 (.str "wright.errors" 364),dE P "__firstlineno__" 486 (.int (132) 485),dR P "__init__" 494 234,dR P "__static_attributes__" 496 235,dE P "__doc__" 497 (.none)] 2,#[]⟩),
 (237,⟨.type "type",none,.cls ⟨"Loop",[.ref 148],[.ref 237,.ref 148,.type "ValueError",.type "Exception",.type "BaseException",.type "object"],236,"Loop",true,[],[],false,none,false⟩,#[some (.ref 221),none,some (.str "Loop" 475),some (.str "Loop" 483),some (.builtin "ValueError.__new__"),some (.bool true)]⟩),
 (cF 252 "__init__" "Vast.__init__" 512 139 2 247 248 .none (.ref 249) (.ref 250) (.ref 251) 517 518),
 (fF 253 "__init__" "Vast.__init__" (jz p 23 0) m4),
 (255,⟨.type "dict",none,.dict #[dE P "__module__" 507 (.str "wright.errors" 364),dE P "__firstlineno__" 511 (.int (137) 510),dR P "__init__" 519 253,dR P "__static_attributes__" 521 254,dE P "__doc__" 522 (.none)] 2,#[]⟩),
 (256,⟨.type "type",none,.cls ⟨"Vast",[.ref 148],[.ref 256,.ref 148,.type "ValueError",.type "Exception",.type "BaseException",.type "object"],255,"Vast",true,[],[],false,none,false⟩,#[some (.ref 240),none,some (.str "Vast" 500),some (.str "Vast" 508),some (.builtin "ValueError.__new__"),some (.bool true)]⟩),
 (cF 262 "find_loop" "find_loop" 527 143 1 259 260 .none .none .none (.ref 261) 530 531),
 (fF 263 "find_loop" "find_loop" (top p 25) m5),
 (cF 267 "steps_with_like_rows" "steps_with_like_rows" 533 147 1 264 265 .none .none .none (.ref 266) 536 537),
 (fF 268 "steps_with_like_rows" "steps_with_like_rows" (top p 26) m5),
 (cF 274 "way_back" "way_back" 539 156 3 269 270 .none (.ref 271) (.ref 272) (.ref 273) 552 553),
 (fF 275 "way_back" "way_back" (top p 27) m5),
 (cF 279 "least_sizes" "least_sizes" 557 172 1 276 277 .none .none .none (.ref 278) 560 561),
 (fF 280 "least_sizes" "least_sizes" (top p 29) m6),
 (cF 286 "greatest_empty_sizes" "greatest_empty_sizes" 563 174 1 281 282 .none (.ref 283) (.ref 284) (.ref 285) 567 568),
 (fF 287 "greatest_empty_sizes" "greatest_empty_sizes" (top p 30) m6),
 (cF 291 "settled_sizes" "settled_sizes" 570 176 3 288 289 .none .none .none (.ref 290) 573 574),
 (fF 292 "settled_sizes" "settled_sizes" (top p 31) m6),
 (cF 296 "refuse_faults" "refuse_faults" 580 189 2 293 294 .none .none .none (.ref 295) 583 584),
 (fF 297 "refuse_faults" "refuse_faults" (top p 34) m7),
 (cF 303 "refuse_twice" "refuse_twice" 586 208 1 298 299 .none (.ref 300) (.ref 301) (.ref 302) 594 595),
 (fF 304 "refuse_twice" "refuse_twice" (top p 35) m7),
 (cF 308 "names_met" "names_met" 597 215 1 305 306 .none .none .none (.ref 307) 600 601),
 (fF 309 "names_met" "names_met" (top p 36) m7),
 (cF 313 "least_by_part" "least_by_part" 605 225 1 310 311 .none .none .none (.ref 312) 608 609),
 (fF 314 "least_by_part" "least_by_part" (top p 38) m8),
 (cF 318 "rule_size" "rule_size" 611 233 2 315 316 .none .none .none (.ref 317) 614 615),
 (fF 319 "rule_size" "rule_size" (top p 39) m8),
 (cF 323 "empty_by_name" "empty_by_name" 617 235 2 320 321 .none .none .none (.ref 322) 620 621),
 (fF 324 "empty_by_name" "empty_by_name" (top p 40) m8),
 (cF 335 "__init__" "LeastTrees.__init__" 635 242 3 332 333 .none .none .none (.ref 334) 638 639),
 (fF 336 "__init__" "LeastTrees.__init__" (jz p 41 0) m8),
 (cF 342 "least_of" "LeastTrees.least_of" 641 249 2 337 338 .none (.ref 339) (.ref 340) (.ref 341) 646 647),
 (fF 343 "least_of" "LeastTrees.least_of" (jz p 41 1) m8),
 (cF 349 "hollow_of" "LeastTrees.hollow_of" 649 252 2 344 345 .none (.ref 346) (.ref 347) (.ref 348) 654 655),
 (fF 350 "hollow_of" "LeastTrees.hollow_of" (jz p 41 2) m8),
 (cF 356 "begun_place" "LeastTrees.begun_place" 657 255 3 351 352 .none (.ref 353) (.ref 354) (.ref 355) 663 664),
 (fF 357 "begun_place" "LeastTrees.begun_place" (jz p 41 3) m8),
 (cF 363 "begun_of" "LeastTrees.begun_of" 666 258 4 358 359 .none (.ref 360) (.ref 361) (.ref 362) 673 674),
 (fF 364 "begun_of" "LeastTrees.begun_of" (jz p 41 4) m8),
 (366,⟨.type "dict",none,.dict #[dE P "__module__" 630 (.str "wright.least_trees" 603),dE P "__firstlineno__" 634 (.int (240) 633),dR P "__init__" 640 336,dR P "least_of" 648 343,dR P "hollow_of" 656 350,dR P "begun_place" 665 357,dR P "begun_of" 675 364,dR P "__static_attributes__" 681 365,dR P "__dict__" 683 368,dR P "__weakref__" 685 369,dE P "__doc__" 686 (.none)] 4,#[]⟩),
 (367,⟨.type "type",none,.cls ⟨"LeastTrees",[.type "object"],[.ref 367,.type "object"],366,"LeastTrees",true,[],[],false,none,false⟩,#[none,none,some (.str "LeastTrees" 623),some (.str "LeastTrees" 631),some (.builtin "object.__new__"),some (.bool true)]⟩),
 (368,⟨.type "getset_descriptor",none,.fields #[.str "__dict__" 682,.ref 367,.builtin "function.__dict__",.builtin "function.__dict__#set"],#[]⟩),
 (369,⟨.type "getset_descriptor",none,.fields #[.str "__weakref__" 684,.ref 367,.builtin "ExceptionGroup.__weakref__",.none],#[]⟩),
 (379,⟨.type "tuple",none,.seq #[.none] 0,#[]⟩),
 (cF 385 "__init__" "Grammar.__init__" 703 263 3 380 381 .none (.ref 382) (.ref 383) (.ref 384) 709 710),
 (386,⟨.type "function",none,.func (fnOf "__init__" "Grammar.__init__" (dH (jz p 43 0)) (cP (jz p 43 0)) (ay (jz p 43 0)) (.ref 379) (.none) (.none) (.str "wright.grammars" 689) (none) (.ref 385) (.none)),#[]⟩),
 (cF 392 "start" "Grammar.start" 712 271 1 387 388 .none (.ref 389) (.ref 390) (.ref 391) 716 717),
 (fF 393 "start" "Grammar.start" (jz p 43 1) m9),
 (395,⟨.type "dict",none,.dict #[dE P "__module__" 698 (.str "wright.grammars" 689),dE P "__firstlineno__" 702 (.int (261) 701),dR P "__init__" 711 386,dR P "start" 718 393,dR P "__static_attributes__" 724 394,dR P "__dict__" 726 397,dR P "__weakref__" 728 398,dE P "__doc__" 729 (.none)] 4,#[]⟩),
 (396,⟨.type "type",none,.cls ⟨"Grammar",[.type "object"],[.ref 396,.type "object"],395,"Grammar",true,[],[],false,none,false⟩,#[none,none,some (.str "Grammar" 691),some (.str "Grammar" 699),some (.builtin "object.__new__"),some (.bool true)]⟩),
 (397,⟨.type "getset_descriptor",none,.fields #[.str "__dict__" 725,.ref 396,.builtin "function.__dict__",.builtin "function.__dict__#set"],#[]⟩),
 (398,⟨.type "getset_descriptor",none,.fields #[.str "__weakref__" 727,.ref 396,.builtin "ExceptionGroup.__weakref__",.none],#[]⟩),
 (cF 406 "_law_cell_at" "_law_cell_at" 734 274 2 401 402 .none (.ref 403) (.ref 404) (.ref 405) 739 740),
 (fF 407 "_law_cell_at" "_law_cell_at" (top p 45) lY),
 (cF 411 "_law_names" "_law_names" 742 278 1 408 409 .none .none .none (.ref 410) 745 746),
 (fF 412 "_law_names" "_law_names" (top p 46) lY),
 (cF 418 "_law_words" "_law_words" 748 284 1 413 414 .none (.ref 415) (.ref 416) (.ref 417) 752 753),
 (fF 419 "_law_words" "_law_words" (top p 47) lY),
 (cF 425 "_law_digits" "_law_digits" 755 286 3 420 421 .none (.ref 422) (.ref 423) (.ref 424) 764 765),
 (fF 426 "_law_digits" "_law_digits" (top p 48) lY),
 (cF 432 "_law_skeleton" "_law_skeleton" 767 297 4 427 428 .none (.ref 429) (.ref 430) (.ref 431) 778 779),
 (fF 433 "_law_skeleton" "_law_skeleton" (top p 49) lY),
 (cF 439 "_law_more" "_law_more" 781 308 5 434 435 .none (.ref 436) (.ref 437) (.ref 438) 794 795),
 (fF 440 "_law_more" "_law_more" (top p 50) lY),
 (cF 444 "_law_ended" "_law_ended" 797 318 2 441 442 .none .none .none (.ref 443) 800 801),
 (fF 445 "_law_ended" "_law_ended" (top p 51) lY),
 (cF 449 "_law_not_vast" "_law_not_vast" 803 327 2 446 447 .none .none .none (.ref 448) 806 807),
 (fF 450 "_law_not_vast" "_law_not_vast" (top p 52) lY),
 (cF 454 "_law_good" "_law_good" 809 340 1 451 452 .none .none .none (.ref 453) 812 813),
 (fF 455 "_law_good" "_law_good" (top p 53) lY),
 (cF 461 "_law_grammar" "_law_grammar" 815 362 2 456 457 .none (.ref 458) (.ref 459) (.ref 460) 826 827),
 (fF 462 "_law_grammar" "_law_grammar" (top p 54) lY),
 (cF 466 "_law_begins" "_law_begins" 829 375 1 463 464 .none .none .none (.ref 465) 832 833),
 (fF 467 "_law_begins" "_law_begins" (top p 55) lY),
 (cF 473 "_law_parts" "_law_parts" 835 390 2 468 469 .none (.ref 470) (.ref 471) (.ref 472) 840 841),
 (fF 474 "_law_parts" "_law_parts" (top p 56) lY),
 (cF 478 "_law_ahead" "_law_ahead" 843 394 5 475 476 .none .none .none (.ref 477) 846 847),
 (fF 479 "_law_ahead" "_law_ahead" (top p 57) lY),
 (cF 483 "_law_closed" "_law_closed" 849 405 4 480 481 .none .none .none (.ref 482) 852 853),
 (fF 484 "_law_closed" "_law_closed" (top p 58) lY),
 (cF 490 "_law_place" "_law_place" 855 418 2 485 486 .none (.ref 487) (.ref 488) (.ref 489) 862 863),
 (fF 491 "_law_place" "_law_place" (top p 59) lY),
 (cF 495 "law" "law" 865 422 1 492 493 .none .none .none (.ref 494) 868 869),
 (fF 496 "law" "law" (top p 60) lY)]
def as:z0q:=[2,3,20,21,25,26,30,31,35,36,42,43,49,50,56,57,61,62,68,69,73,74,78,79,85,86,97,98,104,105,111,112,118,119,123,124,130,131,133,134,135,136,147,148,149,160,161,176,177,179,180,195,196,198,199,214,215,217,218,233,234,236,237,252,253,255,256,262,263,267,268,274,275,279,280,286,287,291,292,296,297,303,304,308,309,313,314,318,319,323,324,335,336,342,343,349,350,356,357,363,364,366,367,368,369,379,385,386,392,393,395,396,397,398,406,407,411,412,418,419,425,426,432,433,439,440,444,445,449,450,454,455,461,462,466,467,473,474,478,479,483,484,490,491,495,496]
def q' (p:Program):Program:=view p [0,2,3,4,5,7,8,9,10,11,13,14,15,17,18,19,20,21,22,23,25,26,27,29,30,31,33,34,35,36,38,39,40,41,43,45,46,47,48,49,50,51,52,53,54,55,56,57,58,59,60]
abbrev loose:z0t:=[]
abbrev steps:Nat:=3897
abbrev bound:Nat:=8774
abbrev C7:OpenLaw:=rw_wright_k39_places_moved
noncomputable abbrev K (P:Params):Frag:=K' pw_wright_k39_places_moved P
theorem Ul (P:Params):as=(K P).map 87:=by kernel_rfl
noncomputable abbrev hook:Hook:=kmHook K as Ul [311,282,277]
def NJ:C7.wellSaid=true:=by kernel_rfl
def pre (h:C7.row.wellSaid=true->C7.row.Holds):C7.Holds:=holds_law NJ h
abbrev Xt:Shared->Bool:=λs=>xlAt (q' pw_wright_k39_places_moved) [] s && recOk (RowW.records (OpenRow.toRowW (OpenLaw.row rw_wright_k39_places_moved))) s
def run (w:World)(os:OsState):(GK (stepT (denote treeTable) pw_wright_k39_places_moved w) (stepOk 11 (some (.ref 6))) steps ⟨Dr w.params,11,{},Array.mk [],boot_drawn,boot_toks,os⟩ (topStub pw_wright_k39_places_moved)).map
  (Gi (Ig pw_wright_k39_places_moved (q' pw_wright_k39_places_moved) loose Xt (Hook.obs hook) true (boot_heap w.params)))=some (true,openGood (q' pw_wright_k39_places_moved) loose,Hook.val hook w):=by
 rw [PySem.W.Fast.te10156331382660048174,PySem.W.Fast.te11892475500146522536,PySem.W.Fast.te14364793385576792824,PySem.W.Fast.te6613529449190102663]
 kernel_rfl
theorem size (w:World):((boot_heap w.params).isNs mainGlobals && (Array.mk []:Array GenState).size == 0,(boot_heap w.params).objs.size,(boot_heap w.params).nsMap mainGlobals "__annotations__")=(true,11,some (.ref 6)):=by kernel_rfl
def Hh:∀w:World,(fencedOpening treeTable pw_wright_k39_places_moved w bound).map (λs=>(s.heap,s.gens,s.drawn,s.toks))=some (boot_heap w.params,Array.mk [],boot_drawn,boot_toks) :=
 boot_open (nofun) nofun (λs=>by kernel_rfl)
def left:LeftO (OpenRow.toRowW C7.row).prog (q' pw_wright_k39_places_moved) loose Xt (Hook.obs hook) (Hook.val hook) bound:=Sa Hh size run nofun
def kU:DefRec:={ name := "law",params:=dH (top pw_wright_k39_places_moved 60),body:=cP (top pw_wright_k39_places_moved 60),scope:=ay (top pw_wright_k39_places_moved 60),pos:=posOf (top pw_wright_k39_places_moved 60) }
def ok1:defOf (q' pw_wright_k39_places_moved) C7.row.name=some (kU,[]):=by kernel_rfl
def ok2:C7.row.prog.theDef C7.row.name=some (kU.params,kU.body,kU.scope):=by kernel_rfl
def ok3:kwWritten? kU.params.kwonlyargs kU.params.kw_defaults=some []:=by kernel_rfl
def ok4:(chainsOk (q' pw_wright_k39_places_moved) && opensWell C7.row.prog && (frees C7.row.toRowW && C7.row.within.isEmpty))=true:=by kernel_rfl
def ok5:kU.params.defaults=[]:=by kernel_rfl
def hold (h:WalkO (q' pw_wright_k39_places_moved) loose (XL (q' pw_wright_k39_places_moved) []) (Hook.says hook) C7.row.toRowW kU [] λf vs=>PySem.call f vs)(hw:C7.row.toRowW.promised):C7.Holds :=
 pre λNJ=>holds_open (q:=q' pw_wright_k39_places_moved) (loose:=loose) (Xt:=Xt) (XP:=XL (q' pw_wright_k39_places_moved) []) (Yf:=Hook.obs hook) (Ya:=Hook.val hook) (YP:=Hook.says hook) (N:=bound) left (Hook.of hook) (Hook.keeps hook) (λs e=>xl_of s (jo.mp e).1) XL.keeps ok1 ok2 ok3 (λs e=>recFacts_of (jo.mp e).2) rfl NJ ok4 ⟨rfl,rfl,rfl,rfl,rfl,nofun⟩ hw h
end HD
set_option maxHeartbeats 4000000
namespace L2
open PySem PySem.Spec PyProof.Rows
abbrev uh:=Nat->St->Hp->Prop
def uM {CX:Fj}{P:Program}{w:World}{K:bp}{mg:z0c}{base:Heap}{N:z0t}{qual:Str}{scope:Scope}{f:Addr}{cd:Value}{A:Around}{outer:List Env}{s:Shared}{H:Hp}{E:XK}:(pM CX P w K mg base N qual scope f cd A outer s H E).KW.K=K:=rfl
def XZ {t:TS}{D:Ends}{σ:St}{H:Hp}(h:let E:=D;t E σ H):t D σ H:=h
def XX {t u:TS}{D:Ends}{σ:St}{H:Hp}(h:let E:={ D with nx:=u D };t E σ H):Nw t u D σ H:=h
def R_ {t u:TS}{D:Ends}{σ:St}{H:Hp}(h:let E:=D;let F:={ E with nx:=u E };t F σ H):Nw t u D σ H:=h
def XY {g:TG}{x:V}{σ:St}{H:Hp}{t:TS}{D:Ends}(h:let E:=D;g x σ H λσ2 H2=>t E σ2 H2):g x σ H λσ2 H2=>t D σ2 H2:=h
end L2
local macro_rules | `(tactic| nofun) => `(tactic| (dsimp only [L2.uM];refine L2.XX ?_;intro _))
local macro_rules | `(tactic| ac_rfl) => `(tactic| (refine L2.R_ ?_;intro _ _))
local macro_rules | `(tactic| ac_nf0) => `(tactic| (refine L2.XY ?_;intro _))
local macro_rules | `(tactic| ac_nf) => `(tactic| (refine L2.XZ ?_;intro _))
set_option maxHeartbeats 0
namespace L2
open PySem PySem.Spec PyProof.Rows
section
variable {κ:Type} [DecidableEq κ]
def a0 (kvs:List (κ×V))(k:κ):Option V:=(kvs.find? λkv=>decide (kv.1=k)).map (·.2)
def bS (kvs:List (κ×V))(k:κ)(v:V):List (κ×V) :=
 if (kvs.any λkv=>decide (kv.1=k))=true then kvs.map (λkv=>if kv.1=k then (kv.1,v) else kv) else kvs++[(k,v)]
def fh {p:κ×V}{r:List (κ×V)}{k:κ}(e:p.1=k):a0 (p::r) k=some p.2:=by simp [a0,oO,e]
def fj {p:κ×V}{r:List (κ×V)}{k:κ}(e:¬p.1=k):a0 (p::r) k=a0 r k:=by simp [a0,oO,e]
theorem iO (k:κ):∀kvs:List (κ×V),(kvs.any λkv=>decide (kv.1=k))=(a0 kvs k).isSome
 | []=>rfl
 | p::r=>by
  rw [oK];by_cases e:p.1=k
  .simp only [fh e,cv e,Bool.true_or,Option.isSome_some]
  rw [fj e,dU e,Bool.false_or];exact iO k r
theorem yy (k j:κ)(y:V):∀kvs:List (κ×V),a0 (kvs.map λkv=>if kv.1=k then (kv.1,y) else kv) j=(a0 kvs j).map λx=>if j=k then y else x
 | []=>rfl
 | p::r=>by
  have ih:=yy k j y r;rw [cI];by_cases h:p.1=k
  .rw [aw h];by_cases e:p.1=j
   .rw [fh (p:=(p.1,y)) e,fh e,rq,aw (e.symm.trans h)]
   rw [fj (p:=(p.1,y)) e,fj e,ih]
  rw [au h];by_cases e:p.1=j
  .rw [fh (p:=p) e,fh e,rq,au (λz=>h (e.trans z))]
  rw [fj (p:=p) e,fj e,ih]
theorem uZ (k j:κ)(y:V):∀kvs:List (κ×V),a0 kvs k=none->a0 (kvs++[(k,y)]) j=if j=k then some y else a0 kvs j
 | [],_=>by
  by_cases e:k=j
  .rw [aw e.symm];exact fh (p:=(k,y)) e
  rw [au (λz=>e z.symm)];exact fj (p:=(k,y)) e
 | p::r,hn=>by
  rw [List.cons_append];have hk:¬p.1=k:=λz=>by rw [fh z] at hn;cases hn
  rw [fj hk] at hn;have ih:=uZ k j y r hn;by_cases e:p.1=j
  .rw [fh e,fh e,au (λz=>hk (e.trans z))]
  rw [fj e,fj e,ih]
def rV (kvs:List (κ×V))(k j:κ)(y:V):a0 (bS kvs k y) j=if j=k then some y else a0 kvs j:=by
 unfold bS;by_cases a:(kvs.any λkv=>decide (kv.1=k))=true
 .rw [aw a,yy];rw [iO] at a;by_cases e:j=k
  .obtain⟨x,hx⟩:=ni.mp a;rw [aw e,e,hx,rq,aw rfl]
  rw [au e];cases a0 kvs j with
  | none=>rfl
  | some x=>rw [rq,au e]
 rw [au a];refine uZ k j y kvs ?_;rw [iO] at a;cases q:a0 kvs k with
 | none=>rfl
 | some x=>rw [q] at a;exact(a rfl).elim
def gb (kvs:List (κ×V))(k:κ)(v:V):(bS kvs k v).length<=kvs.length+1:=by
 unfold bS
 split
 .rw [ar];omega
 rw [a8,dI,kc];omega
def kP {kvs:List (κ×V)}{k:κ}(v:V)(h:a0 kvs k=none):bS kvs k v=kvs++[(k,v)]:=by
 unfold bS;rw [iO,h];exact au nofun
def jY.jC {o:Option V}{u:z0k}(r:jY o u):o.isSome=u.isSome:=by
 cases o with
 | none=>cases u with
  | none=>rfl
  | some _=>exact(show False from r).elim
 | some _=>cases u with
  | none=>exact(show False from r).elim
  | some _=>rfl
theorem jY.getD {o:Option V}{u:z0k}{d:V}{d':Value}(r:jY o u)(rd:RelV d d'):RelV (o.getD d) (u.getD d'):=by
 cases o with
 | none=>cases u with
  | none=>exact rd
  | some _=>exact(show False from r).elim
 | some _=>cases u with
  | none=>exact(show False from r).elim
  | some _=>exact r
def KV.val {kvs:List (κ×V)}{vs:List (κ×Value)}(r:KV kvs vs)(k:κ):jY (a0 kvs k) (valueAt vs k):=by
 unfold KV at r
 induction r with
 | nil=>exact True.intro
 | @cons p q ps qs h t ih =>
  obtain⟨h1,h2⟩:=h;by_cases e:p.1=k
  .have e':q.1=k:=h1.symm.trans e;have b:valueAt (q::qs) k=some q.2:=by simp [valueAt,oO,e']
   rw [fh e,b];exact h2
  have e':¬q.1=k:=λz=>e (h1.trans z);have b:valueAt (q::qs) k=valueAt qs k:=by simp [valueAt,oO,e']
  rw [fj e,b];exact ih
theorem KV.any {kvs:List (κ×V)}{vs:List (κ×Value)}(r:KV kvs vs)(k:κ):(kvs.any λkv=>decide (kv.1=k))=vs.any λkv=>decide (kv.1=k):=by
 unfold KV at r
 induction r with
 | nil=>rfl
 | cons h t ih=>rw [oK,oK,ih,h.1]
def KV.NZ {kvs:List (κ×V)}{vs:List (κ×Value)}(r:KV kvs vs)(k:κ){y:V}{u:Value}(ry:RelV y u) :
  KV (kvs.map λkv=>if kv.1=k then (kv.1,y) else kv) (vs.map λkv=>if kv.1=k then (kv.1,u) else kv):=by
 unfold KV at r ⊢
 induction r with
 | nil=>exact .nil
 | @cons p q ps qs h t ih =>
  rw [cI,cI];refine .cons ?_ ih;obtain⟨h1,h2⟩:=h;by_cases e:p.1=k
  .rw [aw e,aw (h1.symm.trans e)];exact⟨h1,ry⟩
  rw [au e,au (λz=>e (h1.trans z))];exact⟨h1,h2⟩
def KV.put {kvs:List (κ×V)}{vs:List (κ×Value)}(r:KV kvs vs)(k:κ){y:V}{u:Value}(ry:RelV y u):KV (bS kvs k y) (stored vs k u):=by
 unfold bS stored;rw [r.any k];by_cases e:(vs.any λkv=>decide (kv.1=k))=true
 .rw [aw e,aw e];exact r.NZ k ry
 rw [au e,au e];exact fc r ⟨rfl,ry⟩
def KV.keys {kvs:List (κ×V)}{vs:List (κ×Value)}(r:KV kvs vs):kvs.map 87=vs.map 87:=by
 unfold KV at r
 induction r with
 | nil=>rfl
 | cons h t ih=>rw [cI,cI,ih,h.1]
theorem KV.length {kvs:List (κ×V)}{vs:List (κ×Value)}(r:KV kvs vs):kvs.length=vs.length:=a7 r
end
def md {P:Program}{w:World}{k:aQ}{u:Value}(r:RelV (kV k) u):(aY P w).is k u=true:=by
 cases k with
 | inl i=>obtain⟨t,e⟩:=(show ∃t,u=Value.int i t from r);subst e;exact ze P w i t
 | inr x=>obtain⟨t,e⟩:=(show ∃t,u=Value.str x t from r);subst e;exact zc P w x t
theorem vw {P:Program}{w:World}:∀{ks:List aQ}{us:z0n},bH (ks.map kV) us->ItemsAre (aY P w) ks us
 | [],_,r=>by rw [mn] at r;cases r;exact .nil
 | k::ks,_,r=>by
  rw [cI] at r;cases r with
  | cons h t=>exact .cons (md h) (vw t)
abbrev KT (H:Hp):List (List aQ×V)->List (List aQ×Addr×Value)->Prop:=Paired λp q=>p.1=q.1/\H q.2.1=some (.tup (p.1.map kV))/\RelV p.2 q.2.2
def KT.val {H:Hp}{kvs:List (List aQ×V)}{xs:List (List aQ×Addr×Value)}(r:KT H kvs xs)(k:List aQ):jY (a0 kvs k) ((atKey xs k).map (·.2)):=by
 induction r with
 | nil=>exact True.intro
 | @cons p q ps qs h t ih =>
  obtain⟨h1,_,h2⟩:=h;by_cases e:p.1=k
  .have e':q.1=k:=h1.symm.trans e;have b:atKey (q::qs) k=some q.2:=by simp [atKey,oO,e']
   rw [fh e,b];exact h2
  have e':¬q.1=k:=λz=>e (h1.trans z);have b:atKey (q::qs) k=atKey qs k:=by simp [atKey,oO,e']
  rw [fj e,b];exact ih
def KT.NZ {H:Hp}{kvs:List (List aQ×V)}{xs:List (List aQ×Addr×Value)}(r:KT H kvs xs)(k:List aQ){y:V}{u:Value}(ry:RelV y u) :
  KT H (kvs.map λkv=>if kv.1=k then (kv.1,y) else kv) (xs.map (putAt k u)):=by
 induction r with
 | nil=>exact .nil
 | @cons p q ps qs h t ih =>
  rw [cI,cI];refine .cons ?_ ih;obtain⟨h1,h2,h3⟩:=h;unfold putAt;by_cases e:p.1=k
  .rw [aw e,aw (h1.symm.trans e)];exact⟨h1,h2,ry⟩
  rw [au e,au (λz=>e (h1.trans z))];exact⟨h1,h2,h3⟩
def KT.put {H:Hp}{kvs:List (List aQ×V)}{xs:List (List aQ×Addr×Value)}(r:KT H kvs xs)(k:List aQ){b:Addr}{y:V}{u:Value}(hb:H b=some (.tup (k.map kV)))(ry:RelV y u) :
  KT H (bS kvs k y) (storedH xs k b u):=by
 have e:(kvs.any λkv=>decide (kv.1=k))=(atKey xs k).isSome:=by
  rw [iO,(r.val k).jC,qZ]
 unfold bS storedH;rw [e];by_cases q:(atKey xs k).isSome=true
 .rw [aw q,aw q];exact r.NZ k ry
 rw [au q,au q];exact fc r ⟨rfl,hb,ry⟩
def KT.keeps {H H':Hp}{kvs:List (List aQ×V)}{xs:List (List aQ×Addr×Value)}(r:KT H kvs xs)(ht:∀b ys,H b=some (.tup ys)->H' b=some (.tup ys)):KT H' kvs xs :=
 Paired.b9 r λ_ _ z=>⟨z.1,ht _ _ z.2.1,z.2.2⟩
section
variable {P:Program}{w:World}{H:Hp}{h:Heap}{a:Addr}
def Ms {u:HO}(ok:m_ P w H h)(e:Rd H a u):cQ P w H h a u:=e.ok ok
def mi {kvs:93}(ok:m_ P w H h)(e:Rd H a (.dK kvs)):kvs.length<=sizeLine/\(a == sysModules)=false/\∃vs,KV kvs vs/\h.DictOf (aY P w) a vs :=
 show cQ P w H h a (.dK kvs) from Ms ok e
def vK {kvs:93}(ok:m_ P w H h)(e:H a=188):kvs.length<=sizeLine/\(a == sysModules)=false/\∃vs,KV kvs vs/\h.DictOf (aY P w) a vs:=mi ok (.inl e)
def mR {ks:List aQ}(ok:m_ P w H h)(e:H a=some (.tup (ks.map kV))):(tupleKind (aY P w)).is h ks a:=by
 obtain⟨_,aV,r,o,h1,h2,n,h3⟩:=(show cQ P w H h a (.tup (ks.map kV)) from ok a _ e);exact⟨o,aV.toArray,n,h1,h2,h3,by simpa using vw r⟩
def tQ {kvs:List (List aQ×V)}(ok:m_ P w H h)(e:Rd H a (.dT kvs)):kvs.length<=sizeLine/\(a == sysModules)=false /\
  ∃xs,KT H kvs xs/\h.DictOfH (tupleKind (aY P w)) a xs:=by
 obtain⟨z,y,xs,r,o,es,ep,h1,h2,h3,h4,h5⟩:=(show cQ P w H h a (.dT kvs) from Ms ok e);refine⟨z,y,xs,r,o,es,ep,h1,h2,h3,h4,λx hx=>?_,h5⟩;have all:∀{l:List (List aQ×V)}{m:List (List aQ×Addr×Value)},KT H l m->∀x∈m,(tupleKind (aY P w)).is h x.1 x.2.1:=by
  intro l m q
  induction q with
  | nil=>intro x hx;exact nomatch hx
  | @cons p q ps qs hq t ih =>
   intro x hx;rcases b8.mp hx with e | hx
   .subst e;exact mR ok (by rw [<-hq.1];exact hq.2.1)
   exact ih x hx
 exact all r x hx
def Na {kvs:List (List aQ×V)}(ok:m_ P w H h)(e:H a=some (.dT kvs)):kvs.length<=sizeLine/\(a == sysModules)=false /\
  ∃xs,KT H kvs xs/\h.DictOfH (tupleKind (aY P w)) a xs:=tQ ok (.inl e)
end
def cu (H:Hp)(a:Addr)(y:V)(r:Option V):Prop :=
 (∃kvs k,Rd H a (.dK kvs)/\y=kV k/\r=a0 kvs k)\/∃kvs k b,Rd H a (.dT kvs)/\y=.ref b/\H b=some (.tup (k.map kV))/\r=a0 kvs k
def jZ (H:Hp)(a:Addr)(y v:V)(H':Hp):Prop :=
 (∃kvs k,H a=188/\y=kV k/\kvs.length < sizeLine/\H'=upd H a (.dK (bS kvs k v))) \/
 ∃kvs k b,H a=some (.dT kvs)/\y=.ref b/\H b=some (.tup (k.map kV))/\kvs.length < sizeLine/\H'=upd H a (.dT (bS kvs k v))
theorem cu.k {H:Hp}{a:Addr}{kvs:93}{k:aQ}(e:H a=188):cu H a (kV k) (a0 kvs k):=.inl ⟨kvs,k,.inl e,rfl,rfl⟩
def cu.t {H:Hp}{a b:Addr}{kvs:List (List aQ×V)}{k:List aQ}(e:H a=some (.dT kvs))(eb:H b=some (.tup (k.map kV))):cu H a (.ref b) (a0 kvs k):=.inr ⟨kvs,k,b,.inl e,rfl,eb,rfl⟩
theorem jZ.k {H:Hp}{a:Addr}{kvs:93}{k:aQ}{v:V}(e:H a=188)(hl:kvs.length < sizeLine):jZ H a (kV k) v (upd H a (.dK (bS kvs k v))):=.inl ⟨kvs,k,e,rfl,hl,rfl⟩
def jZ.t {H:Hp}{a b:Addr}{kvs:List (List aQ×V)}{k:List aQ}{v:V}(e:H a=some (.dT kvs))(eb:H b=some (.tup (k.map kV)))(hl:kvs.length < sizeLine) :
  jZ H a (.ref b) v (upd H a (.dT (bS kvs k v))):=.inr ⟨kvs,k,b,e,rfl,eb,hl,rfl⟩
section
variable {X:Cx}{ai:z0e}{σ:St}{H:Hp}{s:Shared}{a:Addr}{y v:V}{u r:Value}{o:Option V}{A:Around}{E:z0b}
def Inv.big (I:141):sysModules < s.heap.objs.size:=by
 have h:mainGlobals < s.heap.objs.size:=(I.mod.glob.keeps I.bk).lt;exact ku nofun h
def EX {Q:z0b}(hu:A.units+1 < cLine)(I:141)(g:cu H a y (some v))(ry:RelV y u)(h:∀w' s',Inv X ai σ H s'->RelV v w'->Q w' s') :
  wpAny 151 A (getItem (.ref a) u) Q E s:=by
 rcases g with ⟨kvs,k,e,ey,l⟩ | ⟨kvs,k,b,e,ey,eb,l⟩
 .subst ey;obtain⟨z,hd,vs,rel,dd⟩:=mi I.cw e;obtain⟨w',hw,A7⟩:=jY.some_of (v:=v) (o:=valueAt vs k) (by rw [l];exact rel.val k);exact wpAny_getItem_of (md ry) dd.mapOf hw (h w' _ (I.tok _) A7)
 subst ey;cases (show u=Value.ref b from ry);obtain⟨z,hd,xs,rel,dd⟩:=tQ I.cw e;obtain⟨w',hw,A7⟩:=jY.some_of (v:=v) (o:=(atKey xs k).map (·.2)) (by rw [l];exact rel.val k);obtain⟨p,hp,uF⟩:=bT.mp hw;refine wpAny_getItem_heap (oT hu) (mR I.cw eb) dd hp ?_;rw [uF];exact h w' _ (I.tok _) A7
def Ua {Q:z0b}(hu:A.units+1 < cLine)(I:141)(g:cu H a y o)(ry:RelV y u)(h:∀s',Inv X ai σ H s'->Q (.bool o.isSome) s') :
  wpAny 151 A (compareOp .In u (.ref a)) Q E s:=by
 rcases g with ⟨kvs,k,e,ey,l⟩ | ⟨kvs,k,b,e,ey,eb,l⟩
 .subst ey;obtain⟨z,hd,vs,rel,dd⟩:=mi I.cw e;refine wpAny_in_of (md ry) hd dd.mapOf ?_;rw [<-(rel.val k).jC,<-l];exact h _ (I.tok _)
 subst ey;cases (show u=Value.ref b from ry);obtain⟨z,hd,xs,rel,dd⟩:=tQ I.cw e;refine wpAny_in_heap (oT hu) (mR I.cw eb) hd dd ?_;have q:=(rel.val k).jC;rw [qZ] at q;rw [<-q,<-l];exact h _ (I.tok _)
def LN {Q:z0b}(hu:A.units+1 < cLine)(I:141)(g:cu H a y o)(ry:RelV y u)(h:∀s',Inv X ai σ H s'->Q (.bool (!o.isSome)) s') :
  wpAny 151 A (compareOp .NotIn u (.ref a)) Q E s:=by
 rcases g with ⟨kvs,k,e,ey,l⟩ | ⟨kvs,k,b,e,ey,eb,l⟩
 .subst ey;obtain⟨z,hd,vs,rel,dd⟩:=mi I.cw e;refine wpAny_notIn_of (md ry) hd dd.mapOf ?_;rw [<-(rel.val k).jC,<-l];exact h _ (I.tok _)
 subst ey;cases (show u=Value.ref b from ry);obtain⟨z,hd,xs,rel,dd⟩:=tQ I.cw e;refine wpAny_notIn_heap (oT hu) (mR I.cw eb) hd dd ?_;have q:=(rel.val k).jC;rw [qZ] at q;rw [<-q,<-l];exact h _ (I.tok _)
def qU {h':Heap}{t':Nat}{ob:HO}(I:141)(mu:Uy (H a))(hs:Heap.SameBut a s.heap h')(he:∃q,h'.get? a=some q)(new:cQ X.prog X.w (upd H a ob) h' a ob) :
  Inv X ai σ (upd H a ob) { s with heap:=h',toks:=t' } :=
 I.write (x:=a) (e:=a) mu (.inl rfl) (λb q hb z=>(hs.2 b hb).trans z) he new
def tR {P:Program}{w:World}{H':Hp}{h':Heap}{kvs:93}{vs:List (aQ×Value)}(z:kvs.length<=sizeLine)(hd:(a == sysModules)=false)(rel:KV kvs vs)(dd:h'.DictOf (aY P w) a vs) :
  cQ P w H' h' a (.dK kvs):=⟨z,hd,vs,rel,dd⟩
def EW {H':Hp}{Q:Unit->182}(hu:A.units+1 < cLine)(I:141)(g:jZ H a y v H')(ry:RelV y u)(rv:RelV v r)(h:∀s',Inv X ai σ H' s'->Q () s') :
  wpAny 151 A (setItem (.ref a) u r) Q E s:=by
 rcases g with ⟨kvs,k,e,ey,l,eH⟩ | ⟨kvs,k,b,e,ey,eb,l,eH⟩
 .subst ey eH;obtain⟨z,hd,vs,rel,dd⟩:=vK I.cw e;have hz:vs.length<=sizeLine:=by rw [<-rel.length];exact z
  have hl:(bS kvs k v).length<=sizeLine:=by have:=gb kvs k v;omega
  refine wpAny_setItem_pairs (hsz:=hz) (md ry) dd λh' JU hs=>h _ ?_;have he:∃q,h'.get? a=some q:=let ⟨q,_,_,hq,_⟩:=JU;⟨q,hq⟩;exact qU I (by rw [e];exact True.intro) hs he (tR hl hd (rel.put k rv) JU)
 subst ey eH;cases (show u=Value.ref b from ry);obtain⟨z,hd,xs,rel,dd⟩:=Na I.cw e;have hz:xs.length<=sizeLine:=by rw [<-a7 rel];exact z
 have hl:(bS kvs k v).length<=sizeLine:=by have:=gb kvs k v;omega
 refine wpAny_setItem_heap (hsz:=hz) (oT hu) (mR I.cw eb) dd λh' JU hs=>h _ ?_;obtain⟨q,es,ep,hq,h2,h3,h4,_,h5⟩:=JU;refine qU I (by rw [e];exact True.intro) hs ⟨q,hq⟩ ⟨hl,hd,_,(rel.put k eb rv).keeps λc ys ec=>?_,q,es,ep,hq,h2,h3,h4,h5⟩;rw [aj (RU ec e (λz=>nomatch z))];exact ec
end
section
variable {X:Cx}{ai:z0e}{σ:St}{H:Hp}{s:Shared}{a:Addr}{kvs:93}{k:aQ}{u:Value}{A:Around}{E:z0b}
def T_ {Q:z0b}(I:141)(e:Rd H a (.dK kvs))(h:∀t s',Inv X ai σ H s'->Q (.int kvs.length t) s'):wpAny 151 A (call (.builtin "len") [.ref a]) Q E s:=by
 obtain⟨z,hd,vs,rel,dd⟩:=mi I.cw e;refine call_len_dict hd dd (by rw [<-rel.length];rw [ml] at z;omega) ?_;rw [<-rel.length];exact h _ _ (I.tok _)
end
def Ux (i:Expr):Prop:=∀ov iv,subscripted i false ov iv=operate [ov,iv] (getItem ov iv)
def Cw {prog:Program}{w:World}{A:Around}{E:z0b}{s:Shared}{env:Env}{value slice:Expr}{pos:Pos}{T id:String}{Q:z0b}
  (hl:typeLookup (.type T) "__getitem__"=pure (some (.builtin id)))(hs:Ux slice)
  (h:wpAny 158 A (eval value env) (λo s₁=>wpAny 158 A (eval slice env) (λi s₂=>s₂.TypeIs o T/\wpAny 158 A (getItem o i) Q E s₂) E s₁) E s) :
  wpAny 158 A (eval (.Subscript value slice pos) env) Q E s:=by
 refine Subscript_ (dS h (λo s₁ h₁=>dS h₁ (λi s₂ h₂=>?_) λ_ _ x=>x) λ_ _ x=>x);obtain⟨hT,h₂⟩:=h₂;unfold subscriptTail;refine aB ?_;rw [getitemInPython_of_ne hT.not_modules];refine aB (wpAny_specialOf hT hl ?_);have fin:wpAny 158 A (subscripted slice false o i) (λr s₃=>wpAny 158 A (letTemporaryGo value o r >>= λ_=>pure r) Q E s₃) E s₂:=by
  rw [hs o i];exact wpAny_operating (dS h₂ (λr s₃ h₃=>aB (wpAny_letTemporaryGo (aH h₃))) λ_ _ x=>x)
 first
  | exact aH (aB fin)
  | exact aB (aH (aB fin))
  | exact aB fin
def zI {X:Cx}{ai:z0e}{σ:St}{H:Hp}{s:Shared}{a:Addr}{y:V}{o:Option V}(I:141)(g:cu H a y o):s.TypeIs (.ref a) "dict" := by
 rcases g with ⟨kvs,k,e,_,_⟩ | ⟨kvs,k,b,e,_,_,_⟩
 .obtain⟨_,_,vs,_,dd⟩:=mi I.cw e;exact dd.typeIs
 obtain⟨_,_,xs,_,dd⟩:=tQ I.cw e;exact dd.typeIs
inductive XDp (x:V)(S:Addr->Hp->Prop)(R:Hp->Prop):Prop
|mk(a:Addr)(H4:Hp)(e:x=.ref a)(s:S a H4)(q:R H4)
inductive XDo (S:Option V->Prop)(R:Option V->Prop):Prop
|mk(o:Option V)(s:S o)(q:R o)
inductive XDg (x:V)(S:Addr->V->Prop)(R:V->Prop):Prop
|mk(a:Addr)(v:V)(e:x=.ref a)(s:S a v)(q:R v)
inductive XDi (x:V)(S:Addr->Option V->Prop)(R:Option V->Prop):Prop
|mk(a:Addr)(o:Option V)(e:x=.ref a)(s:S a o)(q:R o)
def Ct (td ty:TE):TE:=λσ H Q=>td σ H λx H1=>ty σ H1 λy H2=>XDg x (λa v=>cu H2 a y (some v)) λv=>Q v H2
def Rc (ty td:TE):TE:=λσ H Q=>ty σ H λy H1=>td σ H1 λx H2=>XDi x (λa o=>cu H2 a y o) λo=>Q (.bl o.isSome) H2
def Cs (ty td:TE):TE:=λσ H Q=>ty σ H λy H1=>td σ H1 λx H2=>XDi x (λa o=>cu H2 a y o) λo=>Q (.bl (!o.isSome)) H2
def Rt (td ty tv:TE):TS:=λD σ H=>tv σ H λv H1=>td σ H1 λx H2=>ty σ H2 λy H3=>XDp x (λa H4=>jZ H3 a y v H4) λH4=>D.nx σ H4
section
variable {X:Cx}{o i e value:Expr}{pos pos' wW:Pos}{td ty tv:TE}
def fO (hu:X.A.units+1 < cLine)(ho:PE X o td)(hi:PE X i ty)(hs:Ux i):PE X (.Subscript o i pos) (Ct td ty):=by
 intro ai s σ H Q I h;refine Cw PySem.F.slot_dict_getitem.lookup hs (dC (ho ai s σ H _ I h) λu s1 bI=>?_);obtain⟨x,H1,I1,rx,q1⟩:=bI;refine dC (hi ai s1 σ H1 _ I1 q1) λiv s2 bI=>?_;obtain⟨y,H2,I2,ry,a,v,ex,g,q2⟩:=bI;subst ex;obtain rfl:u=Value.ref a:=rx;exact⟨zI I2 g,EX hu I2 g ry λw' s3 I3 A7=>⟨v,H2,I3,A7,q2⟩⟩
def kR (hu:X.A.units+1 < cLine)(hi:PE X i ty)(ho:PE X o td):PC X .In i o (Rc ty td):=by
 intro ai s σ H Q I h;refine dC (hi ai s σ H _ I h) λiv s1 bI=>?_;obtain⟨y,H1,I1,ry,q1⟩:=bI;refine dC (ho ai s1 σ H1 _ I1 q1) λu s2 bI=>?_;obtain⟨x,H2,I2,rx,a,ov,ex,g,q2⟩:=bI;subst ex;obtain rfl:u=Value.ref a:=rx;exact Ua hu I2 g ry λs3 I3=>⟨.bl ov.isSome,H2,I3,rfl,q2⟩
def dD (hu:X.A.units+1 < cLine)(hi:PE X i ty)(ho:PE X o td):PC X .NotIn i o (Cs ty td):=by
 intro ai s σ H Q I h;refine dC (hi ai s σ H _ I h) λiv s1 bI=>?_;obtain⟨y,H1,I1,ry,q1⟩:=bI;refine dC (ho ai s1 σ H1 _ I1 q1) λu s2 bI=>?_;obtain⟨x,H2,I2,rx,a,ov,ex,g,q2⟩:=bI;subst ex;obtain rfl:u=Value.ref a:=rx;exact LN hu I2 g ry λs3 I3=>⟨.bl (!ov.isSome),H2,I3,rfl,q2⟩
def fK (hu:X.A.units+1 < cLine)(ho:PE X o td)(hi:PE X i ty)(hv:PE X value tv)(hs:swapsWith value (some (.Subscript o i pos')) pos.line X.env=pure false) :
  PS X (.Assign [.Subscript o i pos'] value pos) (Rt td ty tv):=by
 intro ai s σ H D I h;refine wpAny_Assign_Subscript (dC (hv ai s σ H _ I h) λr s1 bI=>?_) hs;obtain⟨v,H1,I1,rv,q1⟩:=bI;refine dC (ho ai s1 σ H1 _ I1 q1) λu s2 bI=>?_;obtain⟨x,H2,I2,rx,q2⟩:=bI;refine dC (hi ai s2 σ H2 _ I2 q2) λiv s3 bI=>?_;obtain⟨y,H3,I3,ry,a,H4,ex,g,q3⟩:=bI;subst ex;obtain rfl:u=Value.ref a:=rx;exact EW hu I3 g ry rv λs4 I4=>⟨σ,H4,I4,q3⟩
end
def zH {P:Program}{w:World}{H:Hp}(h:Heap)(hb:sysModules < h.objs.size):cQ P w H (h.push { cls:=.type "dict",data:=.dict #[] }) h.objs.size (.dK []) :=
 ⟨gr _,ki.mpr (d8 (bV hb)),[],.nil,Heap.DictOf.new h⟩
def I9 {P:Program}{w:World}{H:Hp}(h:Heap)(hb:sysModules < h.objs.size):cQ P w H (h.push { cls:=.type "dict",data:=.dict #[] }) h.objs.size (.dT []) :=
 ⟨gr _,ki.mpr (d8 (bV hb)),[],.nil,_,#[],0,dB _ rfl,⟨rfl,rfl,rfl⟩,rfl,rfl,gI⟩
def FU:TE:=λ_ H Q=>∀p,H p=none->Q (.ref p) (upd H p (.dK []))
def Nz:TE:=λ_ H Q=>∀p,H p=none->Q (.ref p) (upd H p (.dT []))
section
variable {X:Cx}{pos:Pos}
def fX:PE X (.Dict [] [] pos) FU:=λai s σ H Q I h =>
 wpAny_Dict_empty ⟨238,_,I.laid (a:=s.heap.objs.size) (o:=.dK []) (t':=s.toks) (λ_ _ q=>cg _ q) (aG _) (zH s.heap I.big),rfl,h _ (I.cw.fresh (aG _))⟩
def sP:PE X (.Dict [] [] pos) Nz:=λai s σ H Q I h =>
 wpAny_Dict_empty ⟨238,_,I.laid (a:=s.heap.objs.size) (o:=.dT []) (t':=s.toks) (λ_ _ q=>cg _ q) (aG _) (I9 s.heap I.big),rfl,h _ (I.cw.fresh (aG _))⟩
end
def AH:List (TE×TE)->St->Hp->(List (V×V)->Hp->Prop)->Prop
 | [],_,H,Q=>Q [] H
 | (tk,tv)::r,σ,H,Q=>tk σ H λx H1=>tv σ H1 λy H2=>AH r σ H2 λps H3=>Q ((x,y)::ps) H3
abbrev VV:List (V×V)->List (Value×Value)->Prop:=Paired λp q=>RelV p.1 q.1/\RelV p.2 q.2
def V7 (X:Cx)(pos:Pos)(keys:List (Option Expr))(values:z0r)(J_:List (TE×TE)):Prop :=
 ∀(ai:z0e)(s:Shared)(σ:St)(H:Hp)(Q:List (V×V)->Hp->Prop),141->AH J_ σ H Q ->
  wpAny 151 X.A (evalPairs (pairTrees keys values X.env pos)) (λvs s'=>∃ps H',Inv X ai σ H' s'/\VV ps vs/\Q ps H') X.xe s
def Ks {X:Cx}{pos:Pos}:V7 X pos [] [] []:=λai s σ H Q I h=>pairTrees_nil_walk ⟨[],H,I,.nil,h⟩
def G5 {X:Cx}{pos:Pos}{k v:Expr}{ks:List (Option Expr)}{vs:z0r}{tk tv:TE}{J_:List (TE×TE)}(hk:PE X k tk)(hv:PE X v tv)(hr:V7 X pos ks vs J_) :
  V7 X pos (some k::ks) (v::vs) ((tk,tv)::J_):=λai s σ H Q I h =>
 pairTrees_cons_walk (dC (hk ai s σ H _ I h) λu s1 ⟨x,H1,I1,rx,q1⟩=>dC (hv ai s1 σ H1 _ I1 q1) λw2 s2 ⟨y,H2,I2,ry,q2⟩ =>
  dC (hr ai s2 σ H2 _ I2 q2) λws s3 ⟨ps,H3,I3,rel,q3⟩=>⟨(x,y)::ps,H3,I3,.cons ⟨rx,ry⟩ rel,q3⟩)
def mM (kvs more:93):93:=more.foldl (λbY kv=>bS bY kv.1 kv.2) kvs
def KV.merge:∀{more:93}{rs:List (aQ×Value)}{kvs:93}{vs:List (aQ×Value)},KV more rs->KV kvs vs->KV (mM kvs more) (merged vs rs):=by
 intro more rs kvs vs r;unfold KV at r
 induction r generalizing kvs vs with
 | nil=>intro q;exact q
 | @cons p q ps qs h t ih =>
  intro r0;have e:KV (bS kvs p.1 p.2) (stored vs q.1 q.2):=by
   have:=r0.put p.1 h.2;rw [<-h.1];exact this
  exact ih e
theorem lZ:∀(more kvs:93),(mM kvs more).length<=kvs.length+more.length
 | [],kvs=>by show kvs.length<=kvs.length+0;omega
 | p::r,kvs=>by
  have h1:=lZ r (bS kvs p.1 p.2);have h2:=gb kvs p.1 p.2;show (mM (bS kvs p.1 p.2) r).length<=_;rw [dI];omega
theorem tY {P:Program}{w:World}:∀{kvs:93}{ws:List (Value×Value)},VV (kvs.map λkv=>(kV kv.1,kv.2)) ws->∃rs,Carries (aY P w) ws rs/\KV kvs rs
 | [],_,r=>by rw [mn] at r;cases r;exact⟨[],True.intro,.nil⟩
 | p::kvs,_,r=>by
  rw [cI] at r;cases r with
  | @cons a b as bs h t =>
   obtain⟨rs,c,q⟩:=tY (P:=P) (w:=w) t;obtain⟨b1,b2⟩:=b;exact⟨(p.1,b2)::rs,⟨md h.1,rfl,c⟩,.cons ⟨rfl,h.2⟩ q⟩
def Ra (J_:List (TE×TE)):TE:=λσ H Q=>∀p,H p=none->AH J_ σ (upd H p (.dK [])) λps H2=>H2 p=some (.dK [])/\∃kvs:93,ps=kvs.map (λkv=>(kV kv.1,kv.2))/\kvs.length<=15/\Q (.ref p) (upd H2 p (.dK (mM [] kvs)))
def Ky {X:Cx}{pos:Pos}{keys:List (Option Expr)}{values:z0r}{J_:List (TE×TE)}(h:V7 X pos keys values J_)(qy:keys.all (·.isSome)=true)(hl:keys.length=values.length)(h0:keys≠[])
  (Zg:keys.length<=15):PE X (.Dict keys values pos) (Ra J_):=by
 intro ai s σ H Q I q;have hn:=I.cw.fresh (aG s.heap.objs.size);have I1:=I.laid (a:=s.heap.objs.size) (o:=.dK []) (h':=s.heap.push { cls:=.type "dict",data:=.dict #[] }) (t':=s.toks) (λ_ _ q=>cg _ q) (aG _) (zH s.heap I.big);refine wpAny_Dict_walk (knd:=aY X.prog X.w) qy hl h0 Zg (dC (h ai _ σ _ _ I1 (q _ hn)) λws s2 bI=>?_);obtain⟨ps,H2,I2,rel,e,kvs,ep,lk,q2⟩:=bI;subst ep;obtain⟨rs,c,rk⟩:=tY (P:=X.prog) (w:=X.w) rel;obtain⟨z,hd,vs0,r0,dd⟩:=vK I2.cw e;cases r0;refine⟨rs,c,dd,λh' JU hs=>⟨238,_,?_,rfl,q2⟩⟩;have hz:(mM [] kvs).length<=sizeLine:=by
  have h1:=lZ kvs [];rw [kc] at h1;rw [ml];omega
 have he:∃q,h'.get? s.heap.objs.size=some q:=let ⟨q,_,_,hq,_⟩:=JU;⟨q,hq⟩;exact qU I2 (by rw [e];exact True.intro) hs he (tR hz hd (rk.merge .nil) JU)
structure M1 (X:Cx)(o:Expr)(m:Str)(apos:Pos)(e:Expr)(g9:Pos):Prop where
 base:attributeBase o m X.env (eval o X.env)=eval o X.env
 qe:((backTo g9 (starEach [e] X.env)).all (λx=>!x.1) && (backToKw g9 (keywordEach [] X.env)).all (λx=>x.1.isSome)
  && decide (([e]:z0r).length+([]:List Keyword).length+(if ([]:List Keyword).isEmpty then 0 else 1) < 30))=true
 line:(apos.endLine == g9.line)=true
 trees:backTo g9 (starEach [e] X.env)=[(false,eval e X.env)]
structure M2 (X:Cx)(o:Expr)(m:Str)(apos:Pos)(e f:Expr)(g9:Pos):Prop where
 base:attributeBase o m X.env (eval o X.env)=eval o X.env
 qe:((backTo g9 (starEach [e,f] X.env)).all (λx=>!x.1) && (backToKw g9 (keywordEach [] X.env)).all (λx=>x.1.isSome)
  && decide (([e,f]:z0r).length+([]:List Keyword).length+(if ([]:List Keyword).isEmpty then 0 else 1) < 30))=true
 line:(apos.endLine == g9.line)=true
 trees:backTo g9 (starEach [e,f] X.env)=[(false,eval e X.env),(false,eval f X.env)]
def V_ (H:Hp)(a:Addr):Prop:=(∃kvs,Rd H a (.dK kvs))\/∃kvs,Rd H a (.dT kvs)
def BK {X:Cx}{ai:z0e}{σ:St}{H:Hp}{s:Shared}{a:Addr}(I:141)(d:V_ H a) :
  s.TypeIs (.ref a) "dict" /\ (∀b,Value.ref a=.ref b->∃ob,s.heap.get? b=some ob/\ob.dict=none)/\(a == sysModules)=false:=by
 rcases d with ⟨kvs,e⟩ | ⟨kvs,e⟩
 .obtain⟨_,hd,vs,_,dd⟩:=mi I.cw e;refine⟨dd.typeIs,λb q=>?_,hd⟩;cases q;obtain⟨ob,_,_,h1,h2,_⟩:=dd;exact⟨ob,h1,h2.2.1⟩
 obtain⟨_,hd,xs,_,dd⟩:=tQ I.cw e;refine⟨dd.typeIs,λb q=>?_,hd⟩;cases q;obtain⟨ob,_,_,h1,h2,_⟩:=dd;exact⟨ob,h1,h2.2.1⟩
section
variable {X:Cx}{ai:z0e}{σ:St}{H:Hp}{s:Shared}{a:Addr}{y d:V}{u r:Value}{o:Option V}{A:Around}{E:z0b}
def Px {Q:z0b}(hu:A.units+1 < cLine)(I:141)(g:cu H a y o)(ry:RelV y u)(rd:RelV d r)(h:∀w' s',Inv X ai σ H s'->RelV (o.getD d) w'->Q w' s') :
  wpAny 151 A (call (.builtin "dict.get") [.ref a,u,r]) Q E s:=by
 rcases g with ⟨kvs,k,e,ey,l⟩ | ⟨kvs,k,b,e,ey,eb,l⟩
 .subst ey;obtain⟨z,hd,vs,rel,dd⟩:=mi I.cw e;refine call_meetsIn PySem.F.slot_dict_get dd.typeIs PySem.F.entry_dict_get (PySem.F.args_dict_get_3 _ _ _) (meets_dict_get_default (aY X.prog X.w) a (md ry) hd r) ⟨_,dd.mapOf,h _ _ (I.tok _) ?_⟩;rw [l];exact(rel.val k).getD rd
 subst ey;cases (show u=Value.ref b from ry);obtain⟨z,hd,xs,rel,dd⟩:=tQ I.cw e;refine call_meetsIn PySem.F.slot_dict_get dd.typeIs PySem.F.entry_dict_get (PySem.F.args_dict_get_3 _ _ _) (meetsH_dict_get_default (tupleKind (aY X.prog X.w)) a b hd r) ⟨oT hu,k,xs,mR I.cw eb,dd,h _ _ (I.tok _) ?_⟩;rw [l];exact(rel.val k).getD rd
end
def FV (td ty tx:TE):TE:=λσ H Q=>td σ H λx H1=>V4 x (V_ H1) λa=>ty σ H1 λy H2=>tx σ H2 λz H3=>XDo (cu H3 a y) λo=>Q (o.getD z) H3
section
variable {X:Cx}{o e f:Expr}{apos g9:Pos}{td ty tx:TE}
def iV (hu:X.A.units+1 < cLine)(ho:PE X o td)(he:PE X e ty)(hf:PE X f tx)(m:M2 X o "get" apos e f g9):PE X (.Call (.Attribute o "get" apos) [e,f] [] g9) (FV td ty tx):=by
 intro ai s σ H Q I h;refine wpAny_Call_method m.base m.qe m.line Av PySem.F.slot_dict_get PySem.F.type_dict_get (dC (ho ai s σ H _ I h) λu s1 bI=>?_);obtain⟨x,H1,I1,rx,a,ex,d,q1⟩:=bI;subst ex;obtain rfl:u=Value.ref a:=rx;obtain⟨t1,t2,_⟩:=BK I1 d;refine⟨t1,t2,?_⟩;rw [m.trees];refine rM rfl (wo (oS (dC (he ai s1 σ H1 _ I1 q1) λiv s2 ⟨y,H2,I2,ry,q2⟩ =>
  oS (dC (hf ai s2 σ H2 _ I2 q2) λfv s3 ⟨z,H3,I3,rz,ov,g,q3⟩=>Calls.spliced_nil ?_))))
 exact Px hu I3 g ry rz λw' s4 I4 A7=>⟨_,H3,I4,A7,q3⟩
end
section
variable {X:Cx}{ai:z0e}{σ:St}{H:Hp}{s:Shared}{a:Addr}{kvs:93}{A:Around}{E:z0b}
end
section
variable {X:Cx}{ai:z0e}{σ:St}{H:Hp}{s:Shared}{a:Addr}{y:V}{u:Value}{A:Around}{E:z0b}
end
end L2
set_option maxHeartbeats 4000000
namespace L2
open PySem
def xH:typeLookup (.type "list") "keys"=pure none:=by rw [typeLookup_type,builtinLookup_eq_fast];kernel_rfl
def xI:typeLookup (.type "list") "__getattr__"=pure none:=by rw [typeLookup_type,builtinLookup_eq_fast];kernel_rfl
section
variable {prog:Program}{w:World}{A:Around}{E:z0b}{h:Heap}{g:Array GenState}{d:Drawn}{t:Nat}{os:OsState}{a:Addr}{o:Obj}
def F1:isSubtype (.type "AttributeError") (.type "AttributeError")=pure true:=by rw [isSubtype_type];kernel_rfl
def Ob {m:Str}{tk:Tok}:ownMembersOf (.type "AttributeError") [.str m tk]=#[unsetMember,unsetMember]:=by kernel_rfl
def IT {m:Str}{tk:Tok}:firstArgMember (.type "AttributeError") [.str m tk]=pure .none:=by kernel_rfl
def A_ {α:Type}{self:Value}{name msg:Str}{Q:α->182}(hm:msg.length<=sizeLine)(hh:A.handled=none)
  (hq:∀h' t' e oe,(∀b o,h.get? b=some o->h'.get? b=some o)->h'.get? e=some oe->oe.cls=.type "AttributeError" -> E (.ref e) ⟨h',g,d,t',os⟩) :
  wpAny 158 A (raiseAttrError self name msg) Q E ⟨h,g,d,t,os⟩:=by
 have f1:=F1;unfold raiseAttrError newExc;refine aB (wpAny_mkStr ?_ hm);have fe:=IT (m:=msg) (tk:=t);rw [Ob]
 repeat (any_goals (first | assumption | wp_step))
 unfold raiseNew;refine aB (wpAny_handled ?_);rw [hh];refine aB (aH ?_);refine wpAny_throw ?_;refine hq _ _ _ _ (λb o q=>?_) (rL _ (dB _ rfl) rfl) rfl;have lt:=bD q;rw [uU _ _ (by rw [oJ];exact lP (rD lt))];exact cg _ (cg _ q)
def BE {tk:Tok}{aV:z0l}{n:Nat}{Q:Fin->182}(hx:h.get? a=some { cls:=.type "list",data:=.seq aV n })(hh:A.handled=none)
  (hq:∀h' t' e oe,(∀b o,h.get? b=some o->h'.get? b=some o)->h'.get? e=some oe->oe.cls=.type "AttributeError" -> E (.ref e) ⟨h',g,d,t',os⟩) :
  wpAny 158 A (Builtin.«object.__getattribute__» ⟨[.ref a,.str "keys" tk],[]⟩) Q E ⟨h,g,d,t,os⟩:=by
 have hT:(⟨h,g,d,t,os⟩:Shared).TypeIs (.ref a) "list" := ⟨_,hx,rfl⟩;have f4:=xH
 repeat (any_goals (first | assumption | wp_step))
 exact A_ nofun hh hq
def pC {aV:z0l}{n:Nat}{Q:z0k->182}(hx:h.get? a=some { cls:=.type "list",data:=.seq aV n })(hh:A.handled=none)
  (hq:∀h' t',(∀b o,h.get? b=some o->h'.get? b=some o)->Q none ⟨h',g,d,t',os⟩):wpAny 158 A (getAttr? (.ref a) "keys") Q E ⟨h,g,d,t,os⟩:=by
 have hT:∀t',(⟨h,g,d,t',os⟩:Shared).TypeIs (.ref a) "list" := λt'=>⟨_,hx,rfl⟩;have f1:=F1;have f2:=wH.lookup;have f3:=wH.bind (.ref a);have f4:=xI;unfold getAttr? getAttrBy? getAttrBy;refine aB (wpAny_mkText (aB (oF (j5 (aB (jb (hT _) ?_))))));rw [f2];refine aB (aH ?_);show wpAny _ _ (getAttrByItsOwn _ _ _ _ _ _) _ _ _;unfold getAttrByItsOwn;refine aB (aH (a:=none) (aB (oF (j5 ?_))));show wpAny _ _ (boundAndCalled _ _ _) _ _ _;unfold boundAndCalled;rw [f3];refine aB (aH (kn (wy wH.plain F.entry_list_ga (wH.check _ _ _ _ _ _ _ _ (hT _) (F.args_list_getattribute_2 _ _) (BE hx hh λh' t' e oe k ee ec=>?_)))));have te:(⟨h',g,d,t',os⟩:Shared).TypeIs (.ref e) "AttributeError" := ⟨oe,ee,ec⟩;show wpAny _ _ (getattributeRaised _ _ _ _ _ _ _) _ _ _;unfold getattributeRaised;refine aB (wpAny_isInstance te f1 ?_);rw [aw rfl];show wpAny _ _ (typeLookup _ _ >>= _) _ _ _;rw [f4];refine aB (aH ?_);show wpAny _ _ (throw _) _ _ _;refine wpAny_throw ?_;refine aB (wpAny_isInstance te f1 ?_);rw [aw rfl];exact aH (hq h' t' k)
end
def gk:plainId "dict.update.loop"=true:=by decide +kernel
def lI:entryFor table "dict.update.loop"=some Builtin.«dict.update.loop»:=entryFor_of_tree (nofun)
section
variable {prog:Program}{w:World}{K:Type} [DecidableEq K] {knd:KeyKind prog w K}{A:Around}{E:z0b}
def mZ (knd:KeyKind prog w K)(h:Heap)(u:Value)(kv:K×Value):Prop :=
 ∃t key n o,u=.ref t/\knd.is kv.1 key=true/\h.get? t=some o/\o.cls=.type "tuple" /\ o.data=.seq #[key,kv.2] n
def mZ.keep {h h':Heap}{u:Value}{kv:K×Value}(p:mZ knd h u kv)(k:∀b o,o.cls=.type "tuple" -> h.get? b=some o->h'.get? b=some o):mZ knd h' u kv :=
 let ⟨t,key,n,o,a,b,c,d,e⟩:=p;⟨t,key,n,o,a,b,k t o d c,d,e⟩
def I8 {R:Result->182}{d it l:Addr}{items:z0l}(hh:A.handled=none):∀(more:List (K×Value)) (i:Nat)(s:Shared)(kvs:List (K×Value)) (j:Int)(tk:Tok),items.size=i+more.length ->
  s.heap.DictOf knd d kvs->s.heap.IsListIter it l i->s.heap.IsList l items->(∀m kv,more[m]?=some kv->∃u,items[i+m]?=some u/\mZ knd s.heap u kv)->kvs.length+more.length<=sizeLine ->
  (∀h' t',h'.DictOf knd d (more.foldl (λa p=>stored a p.1 p.2) kvs)->(∀b o,b≠d->b≠it->185->h'.get? b=some o)->R (.ok (.ret .none)) { s with heap:=h',toks:=t' }) ->
  codeAny 158 A (.builtin "dict.update.loop" ⟨[.ref d,.ref it,.int j tk,.none],[]⟩) R s:=by
 intro more
 induction more with
 | nil =>
  intro i s kvs j tk hi hd hit hl hp hz hR;refine rj lI ?_;rw [rF gk _];unfold Builtin.«dict.update.loop»;have hs:items[i]?=none:=Ao (by rw [hi];exact aG _);refine aB (wD hh hit hl hs λh1 eb=>?_);have nd:d≠it:=λz=>by
   obtain⟨o,_,_,q,_,c,_⟩:=hd;obtain⟨o',q',_,c'⟩:=hit;rw [z,q'] at q;cases q;rw [c'] at c;cases c
  show wpAny _ _ (Builtin.Dict.addKeywords d [] >>= _) _ _ _;exact aB (aH (aH (hR h1 s.toks (hd.extBut eb nd) λb o n1 n2 q=>eb b o n2 q)))
 | cons kv more ih =>
  intro i s kvs j tk hi hd hit hl hp hz hR;refine rj lI ?_;rw [rF gk _];unfold Builtin.«dict.update.loop»;obtain⟨u,hu,t,key,n,o,rfl,hk,ho,hc,uI⟩:=hp 0 kv rfl;refine aB (wpAny_pyNext_list_item hit hl hu λh1 Yb sb=>?_);have nd:d≠it:=λz=>by
   obtain⟨o,_,_,q,_,c,_⟩:=hd;obtain⟨o',q',_,c'⟩:=hit;rw [z,q'] at q;cases q;rw [c'] at c;cases c
  have n2:∀b o,(o.cls=.type "tuple" \/ o.cls=.type "list")->185->b≠d/\b≠it:=by
   intro b o c q;constructor
   .intro z;obtain⟨o',q',c'⟩:=hd.typeIs;rw [z,q'] at q;cases q;rw [c'] at c;rcases c with c | c <;> exact absurd c nofun
   intro z;obtain⟨o',q',c',_⟩:=hit;rw [z,q'] at q;cases q;rw [c'] at c;rcases c with c | c <;> exact absurd c nofun
  have nt:∀b o,o.cls=.type "tuple" -> 185->b≠d/\b≠it:=λb o c q=>n2 b o (.inl c) q;have nl:l≠d/\l≠it:=by
   obtain⟨o,q,c,_⟩:=hl;exact n2 l o (.inr c) q
  have MU:h1.get? t=some o:=(sb.2 t (nt t o hc ho).2).trans ho;have MX:h1.DictOf knd d kvs:=hd.sameBut sb nd;refine aB (j5 (aB (wpAny_tryCatch ?_)));unfold Builtin.Dict.pairItems;refine aB (jb (T := "tuple") ⟨o,MU,hc⟩ ?_);rw [aw nofun];refine aB (rh MU uI (aH ?_));show wpAny _ _ (holding [key,kv.2] (dictSet d key kv.2)) _ _ _;rw [dI] at hz hi;refine j5 (wpAny_dictSet_pairs (s:={ s with heap:=h1 }) hk MX (λh2 hd2 Rq=>?_) ∅);have kk:∀b o,b≠d->b≠it->185->h2.get? b=some o:=λb o n1 n2 q=>(Rq.2 b n1).trans ((sb.2 b n2).trans q);have ln:(stored kvs kv.1 kv.2).length<=kvs.length+1:=by
   unfold stored
   split
   .simp
   simp
  refine aH ⟨kx gk _,ih (i+1) _ _ _ _ ∅ hd2 (Yb.at λo q=>(Rq.2 it (d8 nd)).trans q) (hl.at λo q=>kk l o nl.1 nl.2 q) (λm X4 e=>?_) ∅ λh3 t3 i5 k3=>?_⟩
  .obtain⟨u',e1,e2⟩:=hp (m+1) X4 e;exact⟨u',by rw [<-e1];congr 1;omega,e2.keep λb o c q=>kk b o (nt b o c q).1 (nt b o c q).2 q⟩
  exact hR h3 t3 i5 λb o n1 n2 q=>k3 b o n1 n2 (kk b o n1 n2 q)
def AI:(Value.type "list" != Value.type "dict")=true:=by decide
def tZ {s:Shared}{l:Addr}{items:z0l}{n:Nat}{more:List (K×Value)}{Q:z0b}(knd:KeyKind prog w K)(hh:A.handled=none)(hx:s.heap.get? l=some { cls:=.type "list",data:=.seq items n })
  (hi:items.size=more.length)(hp:∀(m:Nat) kv,more[m]?=some kv->∃u,items[m]?=some u/\mZ knd s.heap u kv)(hz:more.length<=sizeLine)
  (h:∀h' t',h'.DictOf knd s.heap.objs.size (more.foldl (λa p=>stored a p.1 p.2) [])->(∀b o,185->h'.get? b=some o)->Q (238) { s with heap:=h',toks:=t' }) :
  wpAny 158 A (call (.type "dict") [.ref l]) Q E s:=by
 refine callType_codes (Q₁:=λobj s₁=>obj=238/\s₁={ s with heap:=s.heap.push { cls:=.type "dict",data:=.dict #[] } }) F.kt_called_dict (F.kt_typeCall_dict_1 _) F.entry_dict_init (kt_code_dict_new _ ⟨rfl,rfl⟩) ?_;rintro obj s₁ ⟨rfl,rfl⟩;have Br:(s.heap.push { cls:=.type "dict",data:=.dict #[] }).DictOf knd s.heap.objs.size []:=Heap.DictOf.new s.heap;have l0:=cg { cls:=.type "dict",data:=.dict #[] } hx;refine⟨Br.typeIs,F.args_dict_init_2 _ _,?_⟩;unfold Builtin.«dict.__init__» Builtin.Dict.selfAndRest;refine aB (aB (wC Br.typeIs (aH ?_)));show wpAny _ _ (Builtin.Dict.updateFrom "dict.__init__" s.heap.objs.size (.ref l) [] .none) _ _ _;unfold Builtin.Dict.updateFrom;refine aB (jb (T := "list") ⟨_,l0,rfl⟩ ?_);rw [aw AI];refine aB (pC l0 hh λh1 t1 k1=>?_);refine aB (kq ?_);have l1:=k1 _ _ l0;refine aB (oP ⟨_,l1,rfl,_,rfl⟩ ?_);have k2:∀b o,185->(h1.push { cls:=.type "list_iterator",data:=.fields #[.ref l,.int 0 0] }).get? b=some o:=λb o q=>cg _ (k1 _ _ (cg _ q));refine aH ⟨kx gk _,I8 (knd:=knd) (A:=A.in1) (l:=l) (items:=items) (show A.in1.handled=none from hh) more 0 _ [] _ _ (by rw [hi,oH]) ?_ ⟨_,dB _ rfl,rfl,rfl⟩ ⟨_,k2 _ _ hx,rfl,n,rfl⟩ (λm kv e=>?_) (by simpa using hz) λh' t' hd k3=>?_⟩
 .obtain⟨o,es,ep,q,r⟩:=Br;exact⟨o,es,ep,cg _ (k1 _ _ q),r⟩
 .obtain⟨u,e1,e2⟩:=hp m kv e;exact⟨u,by rw [oH];exact e1,e2.keep λb o _ q=>k2 b o q⟩
 refine⟨rfl,h h' t' hd λb o q=>k3 b o (bV (bD q)) ?_ (k2 b o q)⟩;have:=bD (k1 _ _ (cg { cls:=.type "dict",data:=.dict #[] } q));exact bV this
end
open PySem PySem.Spec PyProof.Rows
def Fb (X:Cx)(ifs:z0r)(t:TT):Prop :=
 ∀(ai:z0e)(s:Shared)(σ:St)(H:Hp)(Q:Bool->Hp->Prop),141->t σ H Q ->
  wpAny 151 X.A (forIn ifs true λc r=>if r=true then do let ok <-isTrue c X.env (eval c X.env);pure (ForInStep.yield ok) else pure (ForInStep.yield r)) (TP X ai σ Q) X.xe s
def hX:TT:=λ_ H Q=>Q true H
def bA {X:Cx}:Fb X [] hX:=λ_ _ _ H _ I h=>wpAny_tests_nil ⟨H,I,h⟩
def fM {X:Cx}{c:Expr}{t:TT}(h:PT X c t):Fb X [c] t:=λai s σ H Q I hw=>wpAny_tests_one (h ai s σ H Q I hw)
def qi {prog:Program}{w:World}{A:Around}{R:Result->182}{s:Shared}{elt target iter:Expr}{ifs:z0r}{scope:Scope}{pos:Pos}{it bY:Value}{env:Env}(I:Nat->182)
  (turn:∀n s,I n s->wpAny 158 A (pyNext it) (λr s₁=>match r with
   | none=>R (.ok .next) s₁
   | some v=>wpAny 158 A (letOwnedTupleGo target it v) (λ_ s₁=>wpAny 158 A (assign target env v) (λ_ s₂ =>
     wpAny 158 A (forIn ifs true λc r=>if r=true then do let ok <-isTrue c env (eval c env);pure (ForInStep.yield ok) else pure (ForInStep.yield r)) (λok s₃ =>
      if ok=true then wpAny 158 A (eval elt env) (λx s₄ =>
       wpAny 158 A (call (.builtin "list.append") [bY,x]) (λ_ s₅=>∃m,m < n/\I m s₅) (λ_ _=>False) s₄) (λ_ _=>False) s₃
      else ∃m,m < n/\I m s₃) (λ_ _=>False) s₂) (λ_ _=>False) s₁) (λ_ _=>False) s₁) (λ_ _=>False) s)
  (n:Nat)(h:I n s) :
  codeAny 158 A (.compLoop (.ListComp elt [⟨target,iter,ifs,0⟩] scope pos) 0 it bY env) R s:=by
 refine codeAny_loop rfl I (λn s hI=>?_) n h;show wpAny _ A ((compTurn (.ListComp elt [⟨target,iter,ifs,0⟩] scope pos) 0 it bY env).onRaise (λx=>do noteFrame x env;theTreesLotGoes x)) _ _ s;refine wpAny_noted ?_;rw [compTurn_list];refine aB (wpAny_standAt (aB (dS (turn n s hI) (λr s₁ h₁=>?_) λ_ _ h'=>h'.elim)));cases r with
 | none=>exact aH h₁
 | some v =>
  refine aB (dS h₁ (λ_ s₂ h₂=>?_) λ_ _ h'=>h'.elim);refine aB (dS h₂ (λ_ s₂ h₂=>aB (dS h₂ (λok s₃ h₃=>?_) λ_ _ h'=>h'.elim)) λ_ _ h'=>h'.elim);cases ok with
  | false=>exact aH ⟨rfl,h₃⟩
  | true =>
   exact aB (aB (dS h₃ (λx s₄ h₄=>aB (dS h₄ (λ_ s₅ h₅=>aH (aH ⟨rfl,h₅⟩)) λ_ _ h'=>h'.elim)) λ_ _ h'=>h'.elim))
def DU {X:Cx}{a:Expr}{ta:TE}(K:bp)(ha:PE X a ta)(he:∀whole,isTrue a X.env whole=(do let v <-whole;standAt a.pos;holding [v] (truthy v)))(hK:X.K=K:=by rfl) :
  PT X a (λσ H Q=>ta σ H λx H'=>∃k,Jp K x H' k/\Q k H'):=by
 subst hK;exact iT ha he
structure Me (env:Env)(scope:Scope)(cl:z0f):Prop where
 eq:closureFor scope env=pure cl
 sub:∀y c,cl.lookup y=some c->env.cells.lookup y=some c
 all:∀y,(y,NameKind.free)∈scope.names->∃c,cl.lookup y=some c
def jT {y n:Str}{c:Addr}{l:z0f}:((n,c)::l).lookup y=if y=n then some c else l.lookup y:=by
 by_cases h:y=n
 .rw [aw h];simp [List.lookup,h]
 rw [au h];simp [List.lookup,ki.mpr h]
def xZ {env:Env}{scope:Scope}(h:∀y,(y,NameKind.free)∈scope.names->∃c,env.cells.lookup y=some c):∃cl,Me env scope cl:=by
 have go:∀(names:List (Str×NameKind))(bY:z0f),(∀y,(y,NameKind.free)∈names->∃c,env.cells.lookup y=some c)->(∀y c,bY.lookup y=some c->env.cells.lookup y=some c) ->
   ∃cl,(forIn names bY λ(x:Str×NameKind)(cs:z0f)=>(if x.2 == .free then do let c <-cellOf env x.1;pure (ForInStep.yield ((x.1,c)::cs)) else pure (ForInStep.yield cs):Sem (ForInStep z0f)))=pure cl /\
    (∀y c,cl.lookup y=some c->env.cells.lookup y=some c)/\(∀y,(y,NameKind.free)∈names->∃c,cl.lookup y=some c)/\∀y c,bY.lookup y=some c->∃c',cl.lookup y=some c':=by
  intro names
  induction names with
  | nil=>intro bY _ hs;exact⟨bY,rfl,hs,λy hy=>absurd hy 144,λy c e=>⟨c,e⟩⟩
  | cons x r ih =>
   intro bY hf hs;obtain⟨n,k⟩:=x;rw [List.forIn_cons];by_cases hk:k=.free
   .subst hk;obtain⟨c0,e0⟩:=hf n cS;obtain⟨cl,e1,e2,e3,e4⟩:=ih ((n,c0)::bY) (λy hy=>hf y (cT _ hy)) (λy c e=>by
     rw [jT] at e;by_cases z:y=n
     .rw [aw z] at e;cases e;rw [z];exact e0
     rw [au z] at e;exact hs y c e)
    refine⟨cl,?_,e2,λy hy=>?_,λy c e=>?_⟩
    .rw [<-e1];have:cellOf env n=pure c0:=by unfold cellOf;rw [e0]
     simp only [this];rfl
    .rcases b8.mp hy with z | z
     .cases z;exact e4 n c0 (by rw [jT,aw rfl])
     exact e3 y z
    by_cases z:y=n
    .exact e4 y c0 (by rw [jT,aw z])
    exact e4 y c (by rw [jT,au z];exact e)
   obtain⟨cl,e1,e2,e3,e4⟩:=ih bY (λy hy=>hf y (cT _ hy)) hs;refine⟨cl,?_,e2,λy hy=>?_,e4⟩
   .rw [<-e1];have:(k == NameKind.free)=false:=by simpa using hk
    simp only [this];rfl
   rcases b8.mp hy with z | z
   .cases z;exact absurd rfl hk
   exact e3 y z
 obtain⟨cl,e1,e2,e3,_⟩:=go scope.names [] h (λy c e=>by simp at e);refine⟨cl,?_,e2,e3⟩;unfold closureFor;exact Eq.trans (congrArg (λt:Sem z0f=>t >>= λcs=>pure cs) e1) rfl
def xA {scope:Scope}{env:Env}{y:Str}(hk:env.scope.kind=.function)(hy:scope.names.lookup y=some .free)(he:env.kindOf y=some .cell):(relabel scope env).names.lookup y=some .cell:=by
 have go:∀l:List (Str×NameKind),l.lookup y=some .free->(l.map λ(x:Str×NameKind)=>if (x.2 == NameKind.free && env.scope.kind == .function && env.kindOf x.1 == some .cell) then (x.1,NameKind.cell) else (x.1,x.2)).lookup y=some .cell:=by
  intro l
  induction l with
  | nil=>intro z;cases z
  | cons x r ih =>
   obtain⟨n,k⟩:=x;intro hy;rw [cI];by_cases z:y=n
   .subst z;simp [List.lookup] at hy;subst hy;simp [List.lookup,hk,he]
   have zb:(y == n)=false:=ki.mpr z;simp only [List.lookup,zb] at hy;have:=ih hy;dsimp only
   split <;> simp only [List.lookup,zb] <;> exact this
 exact go _ hy
theorem xG {α:Type}{y:Str}{v:α}:∀{l:List (Str×α)},l.lookup y=some v->(y,v)∈l
 | [],h=>by cases h
 | (n,u)::r,h=>by
  by_cases z:y=n
  .subst z;simp [List.lookup] at h;subst h;exact cS
  have zb:(y == n)=false:=ki.mpr z;simp only [List.lookup,zb] at h;exact cT _ (xG h)
def nV {scope:Scope}{env:Env}{y:Str}{k:NameKind}(h:(relabel scope env).names.lookup y=some k)(hk:k=.cell\/k=.free)(hc:∀z∈scope.names,z.2≠.cell):(y,NameKind.free)∈scope.names:=by
 have m:=xG h;unfold relabel at m;obtain⟨⟨n,k'⟩,m1,m2⟩:=bU.mp m;dsimp only at m2
 split at m2
 .rename_i q
  cases m2;simp at q;obtain⟨⟨q,_⟩,_⟩:=q;subst q;exact m1
 cases m2;rcases hk with hk | hk
 .exact absurd hk (hc _ m1)
 rw [<-hk];exact m1
def tS (X:Cx)(scope:Scope)(cl:z0f)(C:Addr)(s1:Shared)(H1:Hp) (N:z0t)(fp:z0q):Cx :=
 { X with N:=N,s₀:=s1,H₀:=H1,env:=compEnvC scope cl C X.env,outer:=X.stack,stack:=X.stack,ex:=fp,fn:=λ_=>false,pn:=[],xe:=λ_ _=>False }
structure Mf (X:Cx)(scope:Scope)(js:z0j):Prop where
 at_:∀p∈js,X.N[p.1]?=some p.2/\X.env.scope.names.lookup p.2=some .cell/\scope.names.lookup p.2=some .free
 all:∀y,(y,NameKind.free)∈scope.names->X.env.scope.names.lookup y=some .cell
def dP (ts:z0t)(js:z0j)(σ:St):St:=ts.map (λ_=>none)++js.map λp=>(σ[p.1]?).join
def vy {X:Cx}{ai:z0e}{σ:St}{H:Hp}{s1 s4:Shared}{scope:Scope}{ts:z0t}{js:z0j}{cl:z0f}{fp:z0q}{C:Addr}{m:z0c}
  (I:Inv X ai σ H s1)(hf:∀b∈fp,yk X ai H b)(IB:∀b∈fp,b < s1.heap.objs.size)(jD:scope.kind=.function)(jE:∀y∈scope.names,y.2≠.cell)(cp:Mf X scope js)(og:Me X.env scope cl)
  (hC:s1.heap.objs.size < C)(ho:s4.os=s1.os)(hg:s4.gens=s1.gens)(old:∀b o,s1.heap.get? b=some o->s4.heap.get? b=some o)(hn:s4.heap.Ns C m)
  (hD:s4.heap.get? s1.heap.objs.size=some { cls:=.type "list",data:=.seq ([]:z0n).toArray 0 }) :
  Inv (tS X scope cl C s1 H (ts++js.map (·.2)) fp) [] (dP ts js σ) (upd H s1.heap.objs.size 138) s4:=by
 have xk:X.env.scope.kind=.function:=I.ok.kind;have has:∀y,((relabel scope X.env).names.lookup y=some .cell\/(relabel scope X.env).names.lookup y=some .free)->∃c,cl.lookup y=some c:=λy hy=>og.all y (by
  rcases hy with hy | hy
  .exact nV hy (.inl rfl) jE
  exact nV hy (.inr rfl) jE)
 have lt:∀y c,cl.lookup y=some c->c < s1.heap.objs.size:=λy c e=>by
  obtain⟨v,o,ho,_⟩:=I.cell y c (og.sub y c e);exact bD ho
 refine⟨⟨I.ok.mod,jD,I.ok.glob,I.ok.blt,lN hC,λy z c h1 h2=>I.ok.inj y z c (og.sub _ _ h1) (og.sub _ _ h2),has,λy c h _=>absurd (show false=true from h) cX,I.ok.hd,I.ok.frames,.inl rfl,
   λb hb=>⟨bV (ku (IB b hb) hC),λy c h=>(hf b hb).2.2.2.2.1 y c (og.sub _ _ h)⟩,I.bs,fJ I.ok.LR I.sz,λb o e hb=>?_,λb hb=>?_,I.stack,I.Cz⟩,
  ho,?_,Un.laid old (aG _) I.fresh,⟨m,hn,λi y v e1 e2 _=>?_⟩,λy c h=>?_,?_,λy c h=>?_,λp hp=>absurd (show p∈([]:z0e) from hp) 144,I.cw.laid old (aG _) ?_,?_⟩
 .obtain⟨_,_,_,h4,_⟩:=hf b hb;rcases h4 with h4 | h4
  .exact I.ok.HW b o e h4
  exact absurd (gy (bD (I.ok.bs b o e).1) h4) (lR _)
 .intro JK;obtain⟨_,h2,h3,_⟩:=hf b hb;rcases b8.mp (I.AJ b JK) with z | z
  .exact h2 z
  exact h3 z
 .rw [hg];exact I.bare
 .have LG:(ts++js.map (·.2))[i]?=some y:=e1;have zG:(ts.map (λ_=>(none:Option V))++js.map λp=>(σ[p.1]?).join)[i]?=some (some v):=e2;by_cases hi:i < ts.length
  .rw [nj (by simpa using hi)] at zG;simp [hi] at zG
  rw [lU ∅] at LG;rw [lU (by simpa using Nat.le_of_not_lt hi)] at zG;rw [ar] at zG;rw [aX] at LG zG;cases hj:js[i - ts.length]? with
  | none=>rw [hj] at LG;cases LG
  | some p =>
   rw [hj] at LG zG;simp only [rq,Option.some.injEq] at LG zG;obtain⟨a1,a2,a3⟩:=cp.at_ p (cE hj);subst LG;have es:σ[p.1]?=some (some v):=by
    cases q:σ[p.1]? with
    | none=>rw [q] at zG;cases zG
    | some z=>rw [q] at zG;exact congrArg some zG
   obtain⟨m0,Vo,lk⟩:=I.loc;obtain⟨u,ru,l⟩:=lk p.1 p.2 v a1 es (.inr (.inl a2));rcases l with l | ⟨_,c,ec,o,hc,hd⟩
   .have l1:X.env.scope.names.lookup p.2=some .local:=l.1;rw [a2] at l1;cases l1
   obtain⟨c',ec'⟩:=og.all p.2 (xG a3);have e3:=og.sub _ _ ec';rw [ec] at e3;cases e3;exact⟨u,ru,.inr ⟨.inl (xA xk a3 a2),c,ec',o,old _ _ hc,hd⟩⟩
 .obtain⟨v,o,h1,h2⟩:=I.cell y c (og.sub y c h);exact⟨v,o,old _ _ h1,h2⟩
 .show upd H s1.heap.objs.size 138 C=none;rw [aj (lP hC)];exact I.cw.fresh (lN hC)
 .show upd H s1.heap.objs.size 138 c=none;rw [aj (bV (lt y c h))];exact I.mh y c (og.sub y c h)
 .exact⟨by show 0<=sizeLine;decide,[],0,.nil,hD⟩
 show (dP ts js σ).length=(ts++js.map (·.2)).length;simp [dP]
def FX (wi:TI) (ts:z0t)(js:z0j)(g:TG)(tif:TT)(te:TE):TE:=λσ H Q=>wi σ H λJ H1=>∀D,H1 D=none->∃W:241,(∃m,W 0 m [] (dP ts js σ) (upd H1 D 138)) /\
 ∀i m ys σ' H,W i m ys σ' H->(J.stop i H/\Q (.ref D) H)\/(J.go i H/\∃m',m' < m/\∀x H',J.lV i H x H'->g x σ' H' λσ2 H2=>tif σ2 H2 λb H3 =>
  if b=true then te σ2 H3 239 else 257)
def aT {X:Cx}{elt iter tg:Expr}{ifs:z0r}{scope:Scope}{pos:Pos}{wi:TI}{g:TG}{tif:TT}{te:TE}(ts:z0t)(js:z0j)(hc:X.calm=true)(hi:PI X tg iter wi)
  (cp:Mf X scope js)(jE:∀y∈scope.names,y.2≠.cell)(jD:scope.kind=.function)
  (BP:∀y∈scope.names,y.2=.local->scope.names.lookup y.1=some .local)
  (hg:∀cl C s1 H1 fp,PG (tS X scope cl C s1 H1 (ts++js.map (·.2)) fp) tg g)
  (YK:∀cl C s1 H1 fp,Fb (tS X scope cl C s1 H1 (ts++js.map (·.2)) fp) ifs tif)(he:∀cl C s1 H1 fp,PE (tS X scope cl C s1 H1 (ts++js.map (·.2)) fp) elt te)
  (hs:∀x,foldedSetIterable iter X.env x=pure x:=by intro _;rfl) :
  PE X (.ListComp elt [⟨tg,iter,ifs,0⟩] scope pos) (FX wi ts js g tif te):=by
 intro ai s σ H Q I h;rw [eval_ListComp];obtain⟨cl,og⟩:=xZ (env:=X.env) (scope:=scope) λy hy=>I.ok.has y (.inl (cp.all y hy));refine wpAny_comprehension_free (use:=none) rfl hs og.eq jD BP (dC (hi ai s σ H _ I h) λv s1 h1=>dC h1 λVe s2 h2=>?_);obtain⟨it,fp,tn,J,H2,e,I2,T,JA,f2,h2⟩:=h2;subst e;obtain⟨W,⟨m0,w0⟩,turn⟩:=h2 s2.heap.objs.size I2.fresh;have IB:∀b∈fp,b < s2.heap.objs.size:=λb hb=>by obtain⟨o,e,_⟩:=T.obj _ _ JA b hb;exact bD e
 refine j7 (wpAny_newFunctionEnv jE (by intro y hy;simp at hy) (λh₁ BO xP=>?_) jD);dsimp only at BO xP ⊢;generalize OY:s2.heap.push { cls:=.type "list",dict:=none,data:=.seq ([]:z0n).toArray }=G2 at BO xP ⊢;have Lv:G2.objs.size=s2.heap.objs.size+1:=by rw [<-OY,oJ]
 have Qs:s2.heap.objs.size≠G2.objs.size:=by rw [Lv];exact bV (lS _)
 have old:∀b o,s2.heap.get? b=some o->h₁.get? b=some o:=λb o e =>
  xP.extBut b o (by rw [Lv];exact bV (rD (bD e))) (cg _ (OY ▸ cg _ e))
 have mT:h₁.get? s2.heap.objs.size=some { cls:=.type "list",data:=.seq ([]:z0n).toArray 0 }:=xP.extBut _ _ Qs (cg _ (OY ▸ dB _ rfl));generalize oh:tS X scope cl G2.objs.size s2 H2 (ts++js.map (·.2)) fp=X2;have I4:Inv X2 [] (dP ts js σ) (upd H2 s2.heap.objs.size 138) { s2 with heap:=h₁,toks:=s2.toks+([]:z0d).length }:=by
  rw [<-oh];exact vy I2 f2 IB jD jE cp og (by rw [Lv];exact lS _) rfl rfl old BO mT
 have x1:X2.prog=X.prog:=by rw [<-oh];rfl
 have x2:X2.w=X.w:=by rw [<-oh];rfl
 have x3:X2.K=X.K:=by rw [<-oh];rfl
 have x4:X2.calm=true:=by rw [<-oh];exact hc
 have x5:X2.A=X.A:=by rw [<-oh];rfl
 have x6:X2.env=compEnvC scope cl G2.objs.size X.env:=by rw [<-oh];rfl
 have x7:X2.xe=λ_ _=>False:=by rw [<-oh];rfl
 have YN:PG X2 tg g:=by rw [<-oh];exact hg _ _ _ _ _
 have OQ:Fb X2 ifs tif:=by rw [<-oh];exact YK _ _ _ _ _
 have Df:PE X2 elt te:=by rw [<-oh];exact he _ _ _ _ _
 have Rj:tn 0 h₁:=T.keep _ _ _ JA λb _ o e=>old b o e;have rZ:∀{H':Hp}{j8:z0e},(∀b∈fp,H' b=none)->(∀p∈j8,p.1∉fp)->∀b∈fp,yk X2 j8 H' b:=λ{H' j8} hn hp b hb=>by
  have o4:=I4.ok;subst oh;exact⟨hn b hb,(o4.Qz b hb).1,o4.ER b hb,.inl hb,(o4.Qz b hb).2,λp pE=>by
   have uF:p∈([]:z0e)++j8:=pE;rw [mx] at uF;intro z;exact hp p uF (by rw [z];exact hb)⟩
 have fin:∀{s':Shared}{σ':St}{H':Hp},Inv X2 [] σ' H' s'->Q (.ref s2.heap.objs.size) H' ->
   compPost 151 X.A X.xe none (EP X ai σ Q) (.ref s2.heap.objs.size) G2.objs.size (.ok .next) s':=λ{s' σ' H'} J' q=>by
  subst oh;obtain⟨m',Dc,_⟩:=J'.loc;refine⟨m',Dc,λh' Lj=>?_⟩;have u:Un (EM X.stack) fp H2 H' s2.heap s'.heap:=J'.base;have nC:∀b o,s2.heap.get? b=some o->b≠G2.objs.size:=λb o e=>by rw [Lv];exact bV (rD (bD e))
  have u':Un (EM X.stack) fp H2 H' s2.heap h':=⟨λb o e n hb hx=>(Lj.2 b (nC b o e)).trans (u.keep b o e n hb hx),λb o e n hb hx=>by
    obtain⟨sl,z⟩:=u.slot b o e n hb hx;exact⟨sl,(Lj.2 b (nC b o e)).trans z⟩,u.free,λb o e hx=>by
    obtain⟨o',z⟩:=u.there b o e hx;exact⟨o',(Lj.2 b (nC b o e)).trans z⟩,u.wV,u.uK,u.uz⟩
  have cw:m_ X.prog X.w H' h':=λb ob e=>by
   refine(J'.cw b ob e).kO (λc w' mS q'=>(Lj.2 c ?_).trans q') (λ_ q=>q) λ_ _ q=>q;intro z;have fr:H' G2.objs.size=none:=J'.free;rcases mS with z' | z'
   .rw [<-z'] at e;rw [z,fr] at e;cases e
   rw [z,fr] at z';cases z'
  have I5:Inv X ai σ H' { s' with heap:=h' }:=I2.Nc (s':={ s' with heap:=h' }) J'.os u' cw J'.bare λb hb=>by
   obtain⟨_,f1,_,f3,f4,f5⟩:=f2 b hb;exact⟨f3,f1,f4,f5⟩
  exact⟨.ref s2.heap.objs.size,H',I5,rfl,q⟩
 have loop:∀s₃:Shared,s₃={ s2 with heap:=h₁,toks:=s2.toks+([]:z0d).length } ->
   codeAny 151 X.A (.compLoop (.ListComp elt [⟨tg,iter,ifs,0⟩] scope pos) 0 (.ref it) (.ref s2.heap.objs.size) (compEnvC scope cl G2.objs.size X.env))
    (compPost 151 X.A X.xe none (EP X ai σ Q) (.ref s2.heap.objs.size) G2.objs.size) s₃:=by
  rintro s₃ rfl;subst oh;refine qi (λn s'=>∃i ys σ' H',Inv 498 [] σ' H' s'/\tn i s'.heap/\(∀b∈fp,H' b=none)/\W i n ys σ' H') ?_ m0
   ⟨0,[],_,_,I4,Rj,λb hb=>by rw [aj (bV (IB b hb))];exact(f2 b hb).1,w0⟩
  rintro n s' ⟨i,ys,σ0,H',J',u_,Tx,w'⟩;rcases turn i n ys σ0 H' w' with ⟨stop,q⟩ | ⟨go,m',hm,step⟩
  .refine dS (T.done 498 rfl rfl rfl hc i [] s' _ H' (λ_ _=>False) J' (rZ Tx 144) u_ stop) (λr s4 ⟨hr,J4⟩=>?_) λ_ _ z=>z;subst hr;exact fin J4 q
  refine dS (T.item 498 rfl rfl rfl hc i [] s' _ H' (λ_ _=>False) J' (rZ Tx 144) u_ go) (λr s4 ⟨u,hr,h4⟩=>?_) λ_ _ z=>z;subst hr;refine dS h4 (λ_ s5 bI=>?_) λ_ _ z=>z;obtain⟨xv,H5,J5,r5,y5,DM,Tw⟩:=bI;have J5':=J5.pinned (rZ Tw 144) (T.obj _ _ DM);have back:∀{s7:Shared}{σ7:St}{H7:Hp},Inv 498 ([]++o7 fp s5.heap) σ7 H7 s7->Inv 498 [] σ7 H7 s7/\tn (i+1) s7.heap/\∀b∈fp,H7 b=none:=λ{s7 σ7 H7} J7=>by
   refine⟨J7.kJ,T.keep _ _ _ DM λb hb o e=>(J7.pin (b,o) (dJ _ (dJ _ (ig hb e)))).1,λb hb=>?_⟩;obtain⟨o,e,d⟩:=T.obj _ _ DM b hb;exact(J7.pin (b,o) (dJ _ (dJ _ (ig hb e)))).2.1
  show wpAny _ _ (assign tg (tS X scope cl G2.objs.size s2 H2 (ts++js.map (·.2)) fp).env u) _ _ s5;refine dS (YN _ s5 _ H5 xv u _ J5' r5 (step xv H5 y5)) (λ_ s6 bI=>?_) λ_ _ z=>z;obtain⟨σ6,H6,J6,q6⟩:=bI;refine dS (OQ _ s6 _ H6 _ J6 q6) (λb s7 bI=>?_) λ_ _ z=>z;obtain⟨H7,J7,q7⟩:=bI;cases b with
  | false =>
   rw [au cX] at q7 ⊢;obtain⟨J8,WN,Zj⟩:=back J7;exact⟨m',hm,i+1,ys,σ6,H7,J8,WN,Zj,q7⟩
  | true =>
   rw [aw rfl] at q7 ⊢;refine dS (Df _ s7 _ H7 _ J7 q7) (λyv s8 bI=>?_) λ_ _ z=>z;obtain⟨y,H8,J8,r8,Y8,Qi,w8⟩:=bI;refine dS (cx (X:=tS X scope cl G2.objs.size s2 H2 (ts++js.map (·.2)) fp) _ s8 _ H8 (.ref s2.heap.objs.size) [y] (.ref s2.heap.objs.size) [yv] (λv H'=>W (i+1) m' (ys++[y]) σ6 H') J8 rfl (.cons r8 .nil) ⟨s2.heap.objs.size,ys,y,rfl,rfl,Y8,Qi,w8⟩)
    (λ_ s9 ⟨_,H9,J9,_,w9⟩=>?_) λ_ _ z=>z
   obtain⟨J10,NB,O5⟩:=back J9;exact⟨m',hm,i+1,ys++[y],σ6,H9,J10,NB,O5,w9⟩
 exact codeAny_compStart_list (loop _ rfl) (T.self _ _ _ _ _ Rj (loop _ rfl))
def UA (K:bp)(a:Addr):It :=
 ⟨λi H=>∃xs x,aI K H a xs/\xs[i]?=some x,λi H x H'=>∃t y,x=.ref t/\H t=none/\H'=upd H t (.tup [155,y])/\∀xs,aI K H a xs->xs[i]?=some y,λi H=>∃xs,aI K H a xs/\xs.length<=i⟩
def DJ {P:Program}{w:World}{K:bp}{elts:z0r}{k:Nat}{wW:Pos}(a e it:Addr)(Te:e≠it) :
  Turn P w K (.Tuple elts k wW) (UA K a) [e,it] e (λi h=>(∃old,IsEnum h e it i old)/\h.IsListIter it a i) where
 mem:=92
 obj:=λi h st b hb=>by
  obtain⟨⟨old,he⟩,o,e1,c,d⟩:=st;rcases b8.mp hb with rfl | hb
  .exact⟨_,he,λv z=>by cases z⟩
  obtain rfl:b=it:=by simpa using hb
  exact⟨o,e1,λv z=>by rw [d] at z;cases z⟩
 keep:=λi h h' st k=>⟨⟨st.1.choose,k e 144 _ st.1.choose_spec⟩,st.2.at λo q=>k it 144 o q⟩
 item:=by
  intro X hP hw hK hc i ai s σ H E I hf st hg;subst hP hw hK;obtain⟨xs,x,hq,hx⟩:=hg;obtain⟨aV,rv,p,hz⟩:=I.list hq;obtain⟨u,hu,ru⟩:=rv.get hx;obtain⟨⟨old,he⟩,hit⟩:=st;refine wpAny_pyNext_enum_item he hit p.isList (x:=u) (by simpa using hu) Te λh1 ho OP hT hsz hk=>?_;refine⟨_,rfl,wpAny_letOwnedTupleGo_enum ho λh2 YT sb=>?_⟩;have ne:s.heap.objs.size≠e:=lP (bD he);have kk:∀b o,b≠e->b≠it->185->h2.get? b=some o:=λb o n1 n2 q=>(sb.2 b n1).trans (hk b o n1 n2 q);have T2:h2.get? s.heap.objs.size=some { cls:=.type "tuple",data:=.seq #[.int i s.toks,u] }:=(sb.2 _ ne).trans hT;have fe:=hf e 144;have fi:=hf it 144;have fT:H s.heap.objs.size=none:=I.cw.fresh (aG _);have tr:∀b v,H b=some v->b≠e/\b≠it:=λb v q=>⟨λz=>(by rw [z,fe.1] at q;cases q),λz=>(by rw [z,fi.1] at q;cases q)⟩;have nc:∀b,b∉[e,it]->b≠e/\b≠it:=λb z=>⟨λq=>z (by simp [q]),λq=>z (by simp [q])⟩;have lt:∀b o,185->b≠s.heap.objs.size:=λb o q=>bV (bD q);have I2:Inv X ai σ (upd H s.heap.objs.size (.tup [155,x])) { s with heap:=h2,toks:=s.toks+1 }:=by
   refine I.call (g':=s.gens) (t':=s.toks+1) (d':=s.drawn) (ch:=[e,it]) ⟨λb o q _ _ c=>kk b o (nc b c).1 (nc b c).2 q,λb o q _ _ c=>⟨o.slots,kk b o (nc b c).1 (nc b c).2 q⟩,
    λb o q n _=>by rw [aj (lt b o q)];exact n,λb o q c=>⟨o,kk b o (nc b c).1 (nc b c).2 q⟩,λb ys q=>by rw [aj (aC q fT)];exact q,λb o v q=>by rw [aj (aC q fT)];exact q,
    λb ps q=>⟨#[],by rw [aj (aC q fT),q];simp⟩⟩ (λb v q=>?_) I.bare (λb hb=>?_)
   .by_cases hb:b=s.heap.objs.size
    .subst hb;rw [ae] at q;cases q;exact⟨by show 2<=sizeLine;decide,[.int i s.toks,u],.cons 157 (.cons ru .nil),_,T2,rfl,_,rfl⟩
    rw [aj hb] at q;refine(I.cw b v q).kO (λc o mS z=>?_) (λc q'=>by rw [aj (aC q' fT)];exact q') λc ys q'=>by rw [aj (aC q' fT)];exact q'
    rcases mS with rfl | mS
    .exact kk c o (tr c _ q).1 (tr c _ q).2 z
    exact kk c o (tr c _ mS).1 (tr c _ mS).2 z
   rcases b8.mp hb with rfl | hb
   .exact⟨fe.2.2.2.1,fe.2.1,fe.2.2.2.2.1,fe.2.2.2.2.2⟩
   obtain rfl:b=it:=by simpa using hb
   exact⟨fi.2.2.2.1,fi.2.1,fi.2.2.2.2.1,fi.2.2.2.2.2⟩
  refine⟨238,_,I2,rfl,⟨_,x,rfl,fT,rfl,λys hy=>by rw [I.sY hy hq];exact hx⟩,⟨⟨_,YT⟩,OP.at λo q=>(sb.2 it Te.symm).trans q⟩,λb hb=>?_⟩;have JK:H b=none/\∃o,185:=by
   rcases b8.mp hb with rfl | hb
   .exact⟨fe.1,_,he⟩
   obtain rfl:b=it:=by simpa using hb
   obtain⟨o,q,_⟩:=hit;exact⟨fi.1,o,q⟩
  obtain⟨n,o,q⟩:=JK;rw [aj (lt b o q)];exact n
 done:=by
  intro X hP hw hK hc i ai s σ H E I hf st hg;subst hP hw hK;obtain⟨xs,hq,hx⟩:=hg;obtain⟨aV,rv,p,hz⟩:=I.list hq;obtain⟨⟨old,he⟩,hit⟩:=st;obtain⟨f0,f1,f2,f3,f4,f5⟩:=hf it 144;have hl:=rv.length;exact wpAny_pyNext_enum_end (I.ok.hd hc) he hit p.isList (by simp;omega) 503
 self:=λ_ _ _ _ _ st h=>wpAny_pyIter_enum st.1.choose_spec h
def vT:bootBuiltins "enumerate"=some (.type "enumerate"):=by decide +kernel
def Sq (K:bp)(ta:TA):TI:=λσ H R=>ta σ H λvs H1=>XEn vs (aI K H1) λa=>R (UA K a) H1
def nX {X:Cx}{elts:z0r}{k:Nat}{wW:Pos}{l:Expr}{ta:TA}{p pos:Pos}(hg:Gl X "enumerate")(hm:X.mg "enumerate"=none)(ha:PA X [l] ta)(hs:starEach [l] X.env=[(false,eval l X.env)]:=by rfl) :
  PI X (.Tuple elts k wW) (.Call (.Name "enumerate" p) [l] [] pos) (Sq X.K ta):=by
 intro ai s σ H R I h;refine Call_ (jU I hg hm vT (wK (dC (ha pos ai s σ H _ I h) λus s1 bI=>?_) hs rfl));obtain⟨vs,H1,I1,r1,q1⟩:=bI;obtain⟨a,xs,e,hq,q⟩:=q1;subst e;obtain⟨u,rfl,rx⟩:=r1.one;cases rx;obtain⟨aV,rv,pl,hz⟩:=I1.list hq;refine call_enumerate_list pl.isList λh1 he hit hsz hk=>wpAny_pyIter_enum he ?_;refine⟨s1.heap.objs.size+1,[s1.heap.objs.size+1,s1.heap.objs.size],_,_,H1,rfl,I1.kept (t':=s1.toks) λb o e=>hk b o e,DJ a _ _ (lP (lS _)),⟨⟨_,he⟩,hit⟩,λb hb=>?_,q⟩;rcases b8.mp hb with rfl | hb
 .exact I1.xR (oE _) (I1.cw.fresh (oE _))
 obtain rfl:b=s1.heap.objs.size:=by simpa using hb
 exact I1.xR (aG _) (I1.cw.fresh (aG _))
def dw (kvs bY:93):93:=kvs.foldl (λa p=>bS a p.1 p.2) bY
theorem tK:∀{kvs:93}{vs:List (aQ×Value)}{bY:93}{Jj:List (aQ×Value)},KV kvs vs->KV bY Jj->KV (dw kvs bY) (vs.foldl (λa p=>stored a p.1 p.2) Jj)
 | _,_,_,_,.nil,h=>h
 | _,_,_,_,.cons (a:=p) (b:=q) r t,h=>by
  obtain⟨e,rv⟩:=r;show KV (dw _ (bS _ p.1 p.2)) (List.foldl _ (stored _ q.1 q.2) _);rw [<-e];exact tK t (h.put p.1 rv)
theorem tL:∀(kvs bY:93),(dw kvs bY).length<=bY.length+kvs.length
 | [],bY=>by simp [dw]
 | p::r,bY=>by
  have:=tL r (bS bY p.1 p.2);have:=gb bY p.1 p.2;show (dw r (bS bY p.1 p.2)).length<=_;rw [dI];omega
section
variable {X:Cx}{ai:z0e}{σ:St}{H:Hp}{s:Shared}
theorem pairs_at (I:141):∀{ts:z0q}{kvs:93}{aV:z0n},Paired (λt kv=>aZ X.K H t [kV kv.1,kv.2]) ts kvs->bH (ts.map V.ref) aV ->
  ∃vs:List (aQ×Value),KV kvs vs/\Paired (λu kv=>mZ (aY X.prog X.w) s.heap u kv) aV vs
 | [],_,_,.nil,r=>by
  rw [mn] at r;cases r;exact⟨[],.nil,.nil⟩
 | t::ts,kv::kvs,_,.cons h p,r=>by
  rw [cI] at r;cases r with
  | cons r1 r2 =>
   obtain⟨vs,e1,e2⟩:=pairs_at I p r2;obtain⟨aV,rv,⟨o,h1,h2,n,h3⟩,_⟩:=I.tuple h;obtain⟨u1,u2,rfl,q1,q2⟩:=vals2 rv;exact⟨(kv.1,u2)::vs,.cons ⟨rfl,q2⟩ e1,.cons ⟨t,u1,n,o,r1,md q1,h1,h2,h3⟩ e2⟩
theorem Paired.at_ {α β:Type}{F:α->β->Prop}:∀{xs:List α}{ys:List β},Paired F xs ys->∀(m:Nat)(y:β),ys[m]?=some y->∃x,xs[m]?=some x/\F x y
 | _,_,.nil,m,y,e=>by cases m <;> cases e
 | _,_,.cons h t,0,y,e=>by cases e;exact⟨_,rfl,h⟩
 | _,_,.cons h t,m+1,y,e=>Paired.at_ t m y e
def eZ (hc:X.calm=true):i0 X (.type "dict") (λxs H Q=>∃a ts kvs,xs=[.ref a]/\H a=some 222/\Paired (λt kv=>aZ X.K H t [kV kv.1,kv.2]) ts kvs/\∀d,H d=none->Q (.ref d) (upd H d (.dK (dw kvs [])))):=by
 intro ai s σ H xs us Q I r h;obtain⟨a,ts,kvs,rfl,e,p,q⟩:=h;obtain⟨u,rfl,rx⟩:=vals1 r;cases (show u=Value.ref a from rx);obtain⟨z,aV,n,rv,ho⟩:=(show cQ X.prog X.w H s.heap a (.lst _) from I.cw a _ e);obtain⟨vs,r1,r2⟩:=pairs_at I p rv;have l1:=a7 r2;have l2:=r1.length;have l3:=a7 p;rw [ar] at z;refine tZ (aY X.prog X.w) (I.ok.hd hc) ho (by simpa using l1) (λm kv em=>?_) ∅ λh' t' hd kk=>?_
 .obtain⟨u,e1,e2⟩:=Paired.at_ r2 m kv em;exact⟨u,by simpa using e1,e2⟩
 have new:cQ X.prog X.w (upd H s.heap.objs.size (.dK (dw kvs []))) h' s.heap.objs.size (.dK (dw kvs [])):=by
  refine tR ?_ ?_ (tK r1 .nil) hd
  .have:=tL kvs [];simp at this;omega
  have:=I.big;exact ki.mpr (lP this)
 exact⟨238,_,I.laid (t':=t') kk (aG _) new,rfl,q _ (I.cw.fresh (aG _))⟩
theorem o9 {α β:Type}{F:α->β->Prop}:∀{xs:List α}{ys:List β},xs.length=ys.length->(∀(j:Nat) x y,xs[j]?=some x->ys[j]?=some y->F x y)->Paired F xs ys
 | [],[],_,_=>.nil
 | [],_::_,e,_=>by cases e
 | _::_,[],e,_=>by cases e
 | x::xs,y::ys,e,h=>.cons (h 0 x y rfl rfl) (o9 (Nat.succ.inj e) λj a b e1 e2=>h (j+1) a b e1 e2)
def Io {P:Program}{w:World}{k:aQ}{u:Value}(h:(aY P w).is k u=true):RelV (kV k) u:=by
 rcases cV (show l_ k u=true from h) with ⟨i,t,rfl,rfl⟩ | ⟨x,t,rfl,rfl⟩
 .exact⟨t,rfl⟩
 exact⟨t,rfl⟩
def mY (hc:X.calm=true):i0 X (.type "list") (λxs H Q=>∃a kvs,xs=[.ref a]/\H a=188/\∀D,H D=none->Q (.ref D) (upd H D (.lst (kvs.map λp=>kV p.1)))):=by
 intro ai s σ H xs us Q I r h;obtain⟨a,kvs,rfl,e,q⟩:=h;obtain⟨u,rfl,rx⟩:=vals1 r;cases (show u=Value.ref a from rx);obtain⟨z,hs,vs,rel,dd⟩:=vK I.cw e;obtain⟨o,es,ep,d1,d2,d3,d4⟩:=dd;have l1:=rel.length;refine PySem.W.kdl_call (PySem.W.kdl_dict (knd:=aY X.prog X.w) (kvs:=vs) (ep:=ep) hs) (I.ok.hd hc) ⟨o,es,d1,d2,d3,d4⟩ ∅ λh' tk bY c kk hD mT=>?_;have keys:=rel.keys;have vals:bH (kvs.map λp=>kV p.1) bY.toList:=by
  refine o9 (by have h1:=mT.1;simp only [ar,q_];omega) λj x y e1 e2=>?_;rw [rN] at e2;obtain⟨k,v,e3,e4⟩:=mT.2 j y e2;rw [aX] at e1;obtain⟨p,e5,rfl⟩:=bT.mp e1;have e6:(kvs.map 87)[j]?=some p.1:=by rw [aX,e5];rfl
  rw [keys,aX,e3] at e6;cases e6;exact Io e4
 have new:cQ X.prog X.w (upd H s.heap.objs.size (.lst (kvs.map λp=>kV p.1))) h' s.heap.objs.size (.lst (kvs.map λp=>kV p.1)):=⟨by rw [ar];exact z,bY.toList,c,vals,by simpa using hD⟩;exact⟨238,_,I.laid (t':=tk) kk (aG _) new,rfl,q _ (I.cw.fresh (aG _))⟩
end
def yh (v:V):Prop:=jI v=true\/∃r,v=.ref r
def IV {x:V}(h:jI x=true):vH x x=true:=by
 cases x with
 | fu=>rfl
 | bl b=>exact rA b
 | int i=>exact rA i
 | str z=>exact rA z
 | _=>cases h
def tO {A:Around}{s:Shared}{x:V}{u v:Value}(h:yh x)(ru:RelV x u)(rv:RelV x v):SeqAt.EqAt A s u v true:=by
 rcases h with h | ⟨r,rfl⟩
 .have q:=B5 (A:=A) (s:=s) ru rv h h;rw [IV h] at q;exact q
 cases (show u=Value.ref r from ru);cases (show v=Value.ref r from rv);exact .same _
section
variable {K:bp}{a D:Addr}{xs:List V}{ts:z0t}{js:z0j}{g:TG}{tif:TT}{te:TE}{R:Hp->Prop}{σ:St}{H:Hp}
def bL (Pv:Nat->List V->St->Hp->Prop)(h0:Pv 0 [] (dP ts js σ) 227)(hl:∀i ys σ H,i<=xs.length->Pv i ys σ H->aI K H a xs)
  (hs:∀i x ys σ H,xs[i]?=some x->Pv i ys σ H->g x σ H 505)
  (hd:∀ys σ H,Pv xs.length ys σ H->R H) :
  ∃W:241,(∃m,W 0 m [] (dP ts js σ) 227) /\
 ∀i m ys σ' H,W i m ys σ' H->((jK K a).stop i H/\R H)\/((jK K a).go i H/\∃m',m' < m/\∀x H',(jK K a).lV i H x H'->g x σ' H' λσ2 H2=>tif σ2 H2 λb H3 =>
  if b=true then te σ2 H3 239 else 257):=by
 refine⟨λi m ys σ H=>m=xs.length - i/\i<=xs.length/\Pv i ys σ H,⟨xs.length,92,gr _,h0⟩,?_⟩;rintro i m ys σ' H ⟨rfl,hi,p⟩;have q:=hl i ys σ' H hi p;by_cases jj:i < xs.length
 .refine .inr ⟨⟨xs,xs[i],q,by simp [jj]⟩,xs.length - (i+1),∅,λx H' y=>?_⟩;obtain⟨e,y⟩:=y;subst e;have z:=hs i x ys σ' _ (y xs q) p;have h1:(i+1<=xs.length)=True:=eq_true jj;simp only [h1,true_and];exact z
 have e:i=xs.length:=by omega
 subst e;exact .inl ⟨⟨xs,q,aG _⟩,hd ys σ' H p⟩
def qj {lo:Int}{n:Nat}(Pv:Nat->List V->St->Hp->Prop)(h0:Pv 0 [] (dP ts js σ) 227)
  (hs:∀i ys σ H,i < n->Pv i ys σ H->g (.int (lo+i)) σ H 505)
  (hd:∀ys σ H,Pv n ys σ H->R H) :
  ∃W:241,(∃m,W 0 m [] (dP ts js σ) 227) /\
 ∀i m ys σ' H,W i m ys σ' H->((Mb lo n).stop i H/\R H)\/((Mb lo n).go i H/\∃m',m' < m/\∀x H',(Mb lo n).lV i H x H'->g x σ' H' λσ2 H2=>tif σ2 H2 λb H3 =>
  if b=true then te σ2 H3 239 else 257):=by
 refine⟨λi m ys σ H=>m=n - i/\i<=n/\Pv i ys σ H,⟨n,92,gr _,h0⟩,?_⟩;rintro i m ys σ' H ⟨rfl,hi,p⟩;by_cases jj:i < n
 .refine .inr ⟨jj,n - (i+1),∅,λx H' y=>?_⟩;obtain⟨rfl,rfl⟩:=y;have z:=hs i ys σ' _ jj p;have h1:(i+1<=n)=True:=eq_true jj;simp only [h1,true_and];exact z
 have e:i=n:=by omega
 subst e;exact .inl ⟨aG _,hd ys σ' H p⟩
end
def x8 {X:Cx}:i0 X (.builtin "isinstance") (λxs H Q=>∃a ys n b,xs=[.ref a,.ty n]/\aI X.K H a ys/\PySem.W.kitOne X.K (.type "list") (.type n)=some b/\Q (.bl b) H):=by
 intro ai s σ H xs us Q I r h;obtain⟨a,ys,n,b,rfl,hq,e,q⟩:=h;obtain⟨u,w',rfl,rx,rn⟩:=vals2 r;cases (show u=Value.ref a from rx);cases (show w'=Value.type n from rn);obtain⟨aV,_,pl,_⟩:=I.list hq;obtain⟨o,h1,h2,_⟩:=pl.isList;exact PySem.W.kia_one PySem.W.kitx_list I.zo ⟨o,h1,h2⟩ e (λz=>nomatch z) λtk=>⟨.bl b,H,I.tok _,rfl,q⟩
def Ik {K:bp}{t:Value}:PySem.W.kitOne K t t=some true:=by unfold PySem.W.kitOne;rw [aw (rA t)]
def Rf (t:TS):TS:=λD σ H=>∃R:St->Hp->Prop,t { D with nx:=R } σ H/\∀σ' H',R σ' H'->D.nx σ' H'
def ik {X:Cx}{st:Stmt}{t:TS}(h:PS X st t):PS X st (Rf t):=by
 intro ai s σ H D I ⟨R,q,m⟩;refine dC (h ai s σ H _ I q) λf s1 z=>?_;cases f with
 | next=>obtain⟨σ',H',I',r⟩:=z;exact⟨σ',H',I',m _ _ r⟩
 | ret v=>exact z
 | brk=>exact z
 | cont=>exact z
def aF (P:Program)(w:World)(K:bp)(mg:z0c)(base:Heap) (k:Nat)(x:Str) (ps:z0t)(sp:Sp):Prop :=
 ∃f fd,bR P w K mg base fI k f fd ps sp/\Binds K fd ps []/\PySem.W.keepIn K (.ref f)=true/\mg x=some (.ref f)
theorem aF.mono {P:Program}{w:World}{K:bp}{mg:z0c}{base:Heap}{j k:Nat}{x:Str}{ps:z0t}{sp:Sp}(c:aF P w K mg base j x ps sp)(h:j<=k):aF P w K mg base k x ps sp :=
 let ⟨f,fd,a,b,b1,b2⟩:=c;⟨f,fd,a.mono h,b,b1,b2⟩
def bC {X:Cx}{k:Nat}{x:Str}{ps:z0t}{sp:Sp}{e:Expr}{es:z0r}{t:TA}{p pos:Pos}(c:aF X.prog X.w X.K X.mg X.base k x ps sp)(hr:gF k X.A)(hg:Gl X x)(ha:PA X (e::es) t)
  (EG:(x == ("__debug__":Str))=false:=by decide)(he:501:=by rfl)(C_:(backTo pos (starEach es X.env)).any 87=false:=by rfl) :
  PE X (.Call (.Name x p) (e::es) [] pos) (Mh sp [] E0 t):=by
 obtain⟨f,fd,G,b,kp,m⟩:=c;exact Kz G hr hg m kp b .nil lW ha EG he C_
def fits {n:Nat}(h:n<=1000000):n<=sizeLine:=fJ h nofun
def br {n:Nat}(h:n<=1000000):n < sizeLine:=rE h nofun
def af {H:Hp}{p:Addr}(h:H p=none)(o:HO):aD H (upd H p o):=λb u q=>by rw [aj (aC q h)];exact q
def aD.tup {K:bp}{H H':Hp}{a:Addr}{xs:List V}(e:aD H H')(h:aZ K H a xs):aZ K H' a xs:=by
 rcases h with (h | ⟨o,h⟩) | h
 .exact .inl (.inl (e _ _ h))
 .exact .inl (.inr ⟨o,e _ _ h⟩)
 exact .inr h
def dY {X:Cx}(hc:X.calm=true):i0 X (.builtin "all") (λxs H Q=>∃(a:Addr)(bs:List Bool),xs=[.ref a]/\aI X.K H a (bs.map V.bl)/\Q (.bl (bs.all id)) H):=by
 intro ai s σ H xs us Q I r h;obtain⟨a,bs,rfl,hq,q⟩:=h;obtain⟨u,rfl,rx⟩:=vals1 r;cases (show u=Value.ref a from rx);obtain⟨aV,rv,pl,hz⟩:=I.list hq;obtain⟨o,h1,h2,m,h3⟩:=id pl.isList;have la:a < s.heap.objs.size:=bD h1;have ln:=rv.length;rw [ar] at ln;have isB:∀(i:Nat) v,aV.toArray[i]?=some v->v=.bool (bs.getD i true):=λi v e=>by
  have e':aV[i]?=some v:=by simpa using e
  obtain⟨x,e2,e3⟩:=Paired.at_ rv i v e';rw [aX] at e2;obtain⟨b,e4,rfl⟩:=bT.mp e2;rw [yq,e4];exact e3
 refine call_all_walk (oP pl.isList ?_);refine⟨s.heap.objs.size,_,_,_,_,_,λi=>bs.getD i true,rfl,Walks.list (A:=X.A.in1) (show X.A.in1.handled=none from I.ok.hd hc) s.heap.objs.size a (bV la) aV.toArray,⟨⟨_,dB _ rfl,rfl,rfl⟩,⟨o,cg _ h1,h2,m,h3⟩⟩,?_,λh' tk kk=>?_⟩
 .intro i v s1 Q1 E1 hP hQ1;rw [isB i v hP];exact mD hQ1
 have e:((List.range aV.toArray.size).all λi=>bs.getD i true)=bs.all id:=by
  rw [cJ,<-ln,jl,eG,eG];constructor
  .intro h b hb;obtain⟨i,hi,e⟩:=rf.mp hb;have:=h i (j6.mpr hi);rw [yq,cZ hi,e] at this;exact this
  intro h i hi;have Vs:=j6.mp hi;rw [yq,cZ Vs];exact h _ (v_ Vs)
 rw [e];exact⟨.bl _,H,I.kept (t':=tk) λb o' e'=>kk b o' (by simp;exact bV (bD e')) (cg _ e'),rfl,q⟩
section
variable {prog:Program}{w:World}{A:Around}{E:z0b}{s:Shared}
def Bq {it l:Addr}{i:Nat}{items:z0l}{x:Value}{Q:z0b}(hit:s.heap.IsTupleIter it l i)(hl:s.heap.IsTuple l items)(hx:items[i]?=some x)
  (hQ:∀h',h'.IsTupleIter it l (i+1)->Heap.SameBut it s.heap h'->Q x { s with heap:=h' }):wpAny 158 A (Builtin.SmallTypes.nextOf (.ref it)) Q E s:=by
 obtain⟨o,ho,hc,hd⟩:=id hit;obtain⟨ol,Yy,_,nl,Dg⟩:=hl;unfold Builtin.SmallTypes.nextOf;refine aB (pV (name:=Str.ofString "__next__") hit.typeIs wJ (ke wJ hit.typeIs F.entry_tuple_iterator_next ?_ (F.args_tuple_iterator_next_1 _)));show wpAny _ _ (field (.ref it) 0 >>= λv=>_) _ _ s;refine aB (jk ho hd (x:=.ref l) (by rfl) ?_);show wpAny _ _ (if (Value.ref l == .none)=true then _ else _) _ _ s;rw [au (by exact cX)];show wpAny _ _ (field (.ref it) 1 >>= λv=>_) _ _ s;refine aB (jk ho hd (x:=.int i 0) (by rfl) ?_);show wpAny _ _ (seqItems? (.ref l) >>= λv=>_) _ _ s;refine aB (rh Yy Dg (by
  simp only [jn,hx];refine aB (wpAny_setField ho hd 144 (aH ⟨x,rfl,aH (hQ _ ⟨_,rL _ ho (Obj.isFreed_of_fields (wa hd _)),(Obj.cls_mapFields ..).trans hc,?_⟩ (wg ..))⟩));rw [wa hd];simp [rawInt]))
def B6 {e it l:Addr}{i:Nat}{items:z0l}{x old:Value}{Q:z0k->182}(he:IsEnum s.heap e it i old)(hit:s.heap.IsTupleIter it l i)(hl:s.heap.IsTuple l items)(hx:items[i]?=some x)(jX:e≠it)
  (hQ:∀h',IsEnumOut h' e it ((i:Int)+1) x s.heap.objs.size->h'.IsTupleIter it l (i+1)->h'.get? s.heap.objs.size=some { cls:=.type "tuple",data:=.seq #[.int i s.toks,x] } ->
   (∀b o,b≠e->b≠it->185->h'.get? b=some o)->Q (some (238)) { s with heap:=h',toks:=s.toks+1 }) :
  wpAny 158 A (pyNext (.ref e)) Q E s:=by
 have hT:s.TypeIs (.ref e) "enumerate" := ⟨_,he,rfl⟩;unfold pyNext;refine aB (oF (pV (name:=Str.ofString "__next__") hT wB (ke wB hT F.entry_enumerate_next ?_ (F.args_enumerate_next_1 _))));obtain⟨hp,g,d,tk,os⟩:=s;show wpAny _ _ (field (.ref e) 2 >>= λv=>_) _ _ _;refine aB (jk he rfl (x:=.ref it) (by rfl) (aB (Bq hit hl hx λh₁ YJ SE=>?_)));replace SE:Heap.SameBut it hp h₁:=SE;have YS:IsEnum h₁ e it i old:=(SE.2 e jX).trans he;show wpAny _ _ (field (.ref e) 3 >>= λv=>_) _ _ ⟨h₁,g,d,tk,os⟩;refine aB (jk YS rfl (x:=rawInt i) (by rfl) ?_);show wpAny _ _ (field (.ref e) 4 >>= λv=>_) _ _ ⟨h₁,g,d,tk,os⟩;refine aB (jk YS rfl (x:=.none) (by rfl) ?_);show wpAny _ _ (mkInt i >>= λv=>_) _ _ ⟨h₁,g,d,tk,os⟩;refine aB (wpAny_mkInt ?_);show wpAny _ _ (setField (.ref e) 3 (rawInt ((i:Int)+1)) >>= λv=>_) _ _ ⟨h₁,g,d,tk+1,os⟩;refine aB (rB YS 144 λh₂ f₂ hs₂=>?_);have he₂:IsEnum h₂ e it ((i:Int)+1) old:=f₂;have k₂:Heap.SameBut e h₁ h₂:=hs₂;show wpAny _ _ (setField (.ref e) 4 .none >>= λv=>_) _ _ ⟨h₂,g,d,tk+1,os⟩;refine aB (rB he₂ 144 λh₃ f₃ hs₃=>?_);have he₃:IsEnum h₃ e it ((i:Int)+1) old:=f₃;have k₃:Heap.SameBut e h₂ h₃:=hs₃;show wpAny _ _ (newTuple [.int i tk,x] >>= λv=>_) _ _ ⟨h₃,g,d,tk+1,os⟩;refine aB (wpAny_newTuple ?_);have Vv:IsEnum (h₃.push { cls:=.type "tuple",data:=.seq #[.int i tk,x] }) e it ((i:Int)+1) old:=cg _ he₃;have hsz:h₃.objs.size=hp.objs.size:=by rw [k₃.1,k₂.1,SE.1]
 have Td:e < hp.objs.size:=bD he;have ht₄:(h₃.push { cls:=.type "tuple",data:=.seq #[.int i tk,x] }).get? hp.objs.size=some { cls:=.type "tuple",data:=.seq #[.int i tk,x] }:=by rw [<-hsz];exact dB _ rfl
 have hk₄:∀b o,b≠e->b≠it->hp.get? b=some o->(h₃.push { cls:=.type "tuple",data:=.seq #[.int i tk,x] }).get? b=some o:=λb o n1 n2 hb=>cg _ (k₃.extBut b o n1 (k₂.extBut b o n1 (SE.extBut b o n2 hb)));have S_:(h₃.push { cls:=.type "tuple",data:=.seq #[.int i tk,x] }).IsTupleIter it l (i+1):=YJ.at λo q=>cg _ (k₃.extBut it o (d8 jX) (k₂.extBut it o (d8 jX) q));generalize h₃.push { cls:=.type "tuple",data:=.seq #[.int i tk,x] }=h₄ at Vv ht₄ hk₄ S_ ⊢;rw [hsz];show wpAny _ _ (Builtin.SmallTypes.ownedTupleIsFree (.ref e) >>= λv=>_) _ _ ⟨h₄,g,d,tk+1,os⟩;refine aB (by
  unfold Builtin.SmallTypes.ownedTupleIsFree;refine aB (jk Vv rfl (x:=.none) (by rfl) (aH (by
   simp only [if_true];refine aB (kq (aB (jk Vv rfl (x:=old) (by rfl) (aB (rB Vv 144 λh₅ f₅ hs₅=>?_)))));have he₅:IsEnum h₅ e it ((i:Int)+1) x:=f₅;have k₅:Heap.SameBut e h₄ h₅:=hs₅;show wpAny _ _ (Builtin.SmallTypes.ownedTupleHandOut (.ref e) (.ref hp.objs.size) >>= λv=>_) _ _ ⟨h₅,g,d,tk+1,os⟩;refine aB (by
    unfold Builtin.SmallTypes.ownedTupleHandOut;refine aB (rB he₅ 144 λh₆ f₆ hs₆=>?_);have he₆:IsEnumOut h₆ e it ((i:Int)+1) x hp.objs.size:=f₆;have k₆:Heap.SameBut e h₅ h₆:=hs₆;refine rB he₆ 144 λh₇ f₇ hs₇=>?_;have he₇:IsEnumOut h₇ e it ((i:Int)+1) x hp.objs.size:=f₇;have k₇:Heap.SameBut e h₆ h₇:=hs₇;have up:∀b o,b≠e->h₄.get? b=some o->h₇.get? b=some o:=λb o n q=>k₇.extBut b o n (k₆.extBut b o n (k₅.extBut b o n q));exact aB (wpAny_letGo (aH ⟨_,rfl,aH (hQ h₇ he₇ (S_.at λo q=>up it o (d8 jX) q) (up _ _ (lP Td) ht₄) λb o n1 n2 q=>up b o n1 (hk₄ b o n1 n2 q))⟩)))))))
def sV {it l:Addr}{i:Nat}{items:z0l}{Q:z0b}(hh:A.handled=none)(hit:s.heap.IsTupleIter it l i)(hl:s.heap.IsTuple l items)(hx:items[i]?=none)
  (hE:∀h' e,Heap.ExtBut it s.heap h'->(∃o,h'.get? e=some o/\o.cls=.type "StopIteration")->E (.ref e) { s with heap:=h' }):wpAny 158 A (Builtin.SmallTypes.nextOf (.ref it)) Q E s:=by
 obtain⟨o,ho,hc,hd⟩:=id hit;obtain⟨ol,Yy,_,nl,Dg⟩:=hl;unfold Builtin.SmallTypes.nextOf;refine aB (pV (name:=Str.ofString "__next__") hit.typeIs wJ (ke wJ hit.typeIs F.entry_tuple_iterator_next ?_ (F.args_tuple_iterator_next_1 _)));show wpAny _ _ (field (.ref it) 0 >>= λv=>_) _ _ s;refine aB (jk ho hd (x:=.ref l) (by rfl) ?_);show wpAny _ _ (if (Value.ref l == .none)=true then _ else _) _ _ s;rw [au (by exact cX)];show wpAny _ _ (field (.ref it) 1 >>= λv=>_) _ _ s;refine aB (jk ho hd (x:=.int i 0) (by rfl) ?_);show wpAny _ _ (seqItems? (.ref l) >>= λv=>_) _ _ s;refine aB (rh Yy Dg ?_);simp only [jn,hx];refine aB (kq (aB (wpAny_setField ho hd 144 (aB ?_))));simp only [newExc,newTuple];refine aB (j7 ?_ (by size_fits));refine aB (m:=firstArgMember _ _) (wpAny_of_eq (a:=Value.none) (by first | rfl | (simp only [firstArgMember];rfl)) ?_)
 refine j7 ?_ (by size_fits);simp only [raiseNew];refine aB (wpAny_handled ?_)
 first | rw [show A.in1.handled=none from hh] | rw [hh]
 refine aB (aH (wpAny_throw (hE _ _ (((wg ..).extBut.push _).push _) ⟨_,dB _ rfl,rfl⟩)))
def ES {e it l:Addr}{i:Nat}{items:z0l}{old:Value}{Q:z0k->182}(hh:A.handled=none)(he:IsEnum s.heap e it i old)(hit:s.heap.IsTupleIter it l i)(hl:s.heap.IsTuple l items)(hx:items[i]?=none)
  (hQ:∀h',Heap.ExtBut it s.heap h'->Q none { s with heap:=h' }):wpAny 158 A (pyNext (.ref e)) Q E s:=by
 have hT:s.TypeIs (.ref e) "enumerate" := ⟨_,he,rfl⟩;unfold pyNext;refine aB (oF (pV (name:=Str.ofString "__next__") hT wB (ke wB hT F.entry_enumerate_next ?_ (F.args_enumerate_next_1 _))));show wpAny _ _ (field (.ref e) 2 >>= λv=>_) _ _ _;refine aB (jk he rfl (x:=.ref it) (by rfl) (aB (sV hh hit hl hx λh' x Df Yh=>?_)));obtain⟨o,ho,hc⟩:=Yh;exact aB (wpAny_isInstance (T := "StopIteration") (b:=true) ⟨o,ho,hc⟩ isSubtype_stop (aH (hQ _ Df)))
end
open PySem.AutoSeq1 (wpAny_loadPart')
def zh (l:Addr)(items:z0l) (n:Nat)(Dp:z0m)(sl:z0a) :
  Meets (Builtin.«enumerate.__new__» ⟨[.type "enumerate",.ref l],[]⟩) (λ_ R s=>s.heap.get? l=some { cls:=.type "tuple",dict:=Dp,data:=.seq items n,slots:=sl } /\
   R (.ok (.ret (.ref (s.heap.push { cls:=.type "tuple_iterator",data:=.fields #[.ref l,.int 0 0] }).objs.size)))
    { s with heap:=(s.heap.push { cls:=.type "tuple_iterator",data:=.fields #[.ref l,.int 0 0] }).push { cls:=.type "enumerate",data:=.fields #[.none,.bool false,238,rawInt 0,.none,.none] } }) :=
 .of_wp λprog w A R s h=>by
  obtain⟨hp,g,d,tk,os⟩:=s;obtain⟨hl,h⟩:=h;have aay:=sub_enumerate;have hT:Heap.IsTuple (Shared.heap ⟨hp,g,d,tk,os⟩) l items:=⟨_,hl,rfl,n,rfl⟩
  wp_walk using wG hl
  refine wpAny_stack_any λst=>aH ?_;split
  .rename_i c _ _ _ _ _
   cases (c == Value.type "enumerate")
   .wp_walk using wG hl,wc hT;exact⟨_,rfl,h⟩
   wp_walk using wG hl,wc hT;exact⟨_,rfl,h⟩
  wp_walk using wG hl,wc hT;exact⟨_,rfl,h⟩
section
variable {prog:Program}{w:World}{A:Around}{E:z0b}{s:Shared}
def Cc {l:Addr}{items:z0l}{Q:z0b}(hL:s.heap.IsTuple l items)
  (h:∀h',IsEnum h' (s.heap.objs.size+1) s.heap.objs.size 0 .none->h'.IsTupleIter s.heap.objs.size l 0->(∀b o,185->h'.get? b=some o)->Q (.ref (s.heap.objs.size+1)) { s with heap:=h' }) :
  wpAny 158 A (call (.type "enumerate") [.ref l]) Q E s:=by
 obtain⟨⟨c,Dp,dt,sl⟩,hl,hc,n,hd⟩:=hL;replace hc:c=.type "tuple" := hc;replace hd:dt=.seq items n:=hd;subst hc hd;refine callType_new F.called_enumerate nofun (F.typeCall_enumerate_1 _) (F.newCall_enumerate_1 _) (λobj=>F.args_object_init_2 obj _) F.entry_enumerate_new (zh l items n Dp sl) ⟨hl,?_⟩;have hz:(s.heap.push { cls:=.type "tuple_iterator",data:=.fields #[.ref l,.int 0 0] }).objs.size=s.heap.objs.size+1:=oJ ..;show _/\_;rw [hz];have he:IsEnum ((s.heap.push { cls:=.type "tuple_iterator",data:=.fields #[.ref l,.int 0 0] }).push { cls:=.type "enumerate",data:=.fields #[.none,.bool false,238,rawInt 0,.none,.none] }) (s.heap.objs.size+1) s.heap.objs.size 0 .none:=by
  have:=dB (s.heap.push { cls:=.type "tuple_iterator",data:=.fields #[.ref l,.int 0 0] }) (o:={ cls:=.type "enumerate",data:=.fields #[.none,.bool false,238,rawInt 0,.none,.none] }) rfl;rw [hz] at this;exact this
 exact⟨⟨_,he,rfl⟩,h _ he ⟨_,cg _ (dB _ rfl),rfl,rfl⟩ λb o x=>cg _ (cg _ x)⟩
end
def ui (K:bp)(a:Addr):It :=
 ⟨λi H=>∃xs x,aZ K H a xs/\xs[i]?=some x,λi H x H'=>∃t y,x=.ref t/\H t=none/\H'=upd H t (.tup [155,y])/\∀xs,aZ K H a xs->xs[i]?=some y,λi H=>∃xs,aZ K H a xs/\xs.length<=i⟩
def AG {P:Program}{w:World}{K:bp}{elts:z0r}{k:Nat}{wW:Pos}(a e it:Addr)(Te:e≠it) :
  Turn P w K (.Tuple elts k wW) (ui K a) [e,it] e (λi h=>(∃old,IsEnum h e it i old)/\h.IsTupleIter it a i) where
 mem:=92
 obj:=λi h st b hb=>by
  obtain⟨⟨old,he⟩,o,e1,c,d⟩:=st;rcases b8.mp hb with rfl | hb
  .exact⟨_,he,λv z=>by cases z⟩
  obtain rfl:b=it:=by simpa using hb
  exact⟨o,e1,λv z=>by rw [d] at z;cases z⟩
 keep:=λi h h' st k=>⟨⟨st.1.choose,k e 144 _ st.1.choose_spec⟩,st.2.at λo q=>k it 144 o q⟩
 item:=by
  intro X hP hw hK hc i ai s σ H E I hf st hg;subst hP hw hK;obtain⟨xs,x,hq,hx⟩:=hg;obtain⟨aV,rv,p,hz⟩:=I.tuple hq;obtain⟨u,hu,ru⟩:=rv.get hx;obtain⟨⟨old,he⟩,hit⟩:=st;refine B6 he hit (show s.heap.IsTuple a aV.toArray from p) (x:=u) (by simpa using hu) Te λh1 ho OP hT hk=>?_;refine⟨_,rfl,wpAny_letOwnedTupleGo_enum ho λh2 YT sb=>?_⟩;have ne:s.heap.objs.size≠e:=lP (bD he);have kk:∀b o,b≠e->b≠it->185->h2.get? b=some o:=λb o n1 n2 q=>(sb.2 b n1).trans (hk b o n1 n2 q);have T2:h2.get? s.heap.objs.size=some { cls:=.type "tuple",data:=.seq #[.int i s.toks,u] }:=(sb.2 _ ne).trans hT;have fe:=hf e 144;have fi:=hf it 144;have fT:H s.heap.objs.size=none:=I.cw.fresh (aG _);have tr:∀b v,H b=some v->b≠e/\b≠it:=λb v q=>⟨λz=>(by rw [z,fe.1] at q;cases q),λz=>(by rw [z,fi.1] at q;cases q)⟩;have nc:∀b,b∉[e,it]->b≠e/\b≠it:=λb z=>⟨λq=>z (by simp [q]),λq=>z (by simp [q])⟩;have lt:∀b o,185->b≠s.heap.objs.size:=λb o q=>bV (bD q);have I2:Inv X ai σ (upd H s.heap.objs.size (.tup [155,x])) { s with heap:=h2,toks:=s.toks+1 }:=by
   refine I.call (g':=s.gens) (t':=s.toks+1) (d':=s.drawn) (ch:=[e,it]) ⟨λb o q _ _ c=>kk b o (nc b c).1 (nc b c).2 q,λb o q _ _ c=>⟨o.slots,kk b o (nc b c).1 (nc b c).2 q⟩,
    λb o q n _=>by rw [aj (lt b o q)];exact n,λb o q c=>⟨o,kk b o (nc b c).1 (nc b c).2 q⟩,λb ys q=>by rw [aj (aC q fT)];exact q,λb o v q=>by rw [aj (aC q fT)];exact q,
    λb ps q=>⟨#[],by rw [aj (aC q fT),q];simp⟩⟩ (λb v q=>?_) I.bare (λb hb=>?_)
   .by_cases hb:b=s.heap.objs.size
    .subst hb;rw [ae] at q;cases q;exact⟨by show 2<=sizeLine;decide,[.int i s.toks,u],.cons 157 (.cons ru .nil),_,T2,rfl,_,rfl⟩
    rw [aj hb] at q;refine(I.cw b v q).kO (λc o mS z=>?_) (λc q'=>by rw [aj (aC q' fT)];exact q') λc ys q'=>by rw [aj (aC q' fT)];exact q'
    rcases mS with rfl | mS
    .exact kk c o (tr c _ q).1 (tr c _ q).2 z
    exact kk c o (tr c _ mS).1 (tr c _ mS).2 z
   rcases b8.mp hb with rfl | hb
   .exact⟨fe.2.2.2.1,fe.2.1,fe.2.2.2.2.1,fe.2.2.2.2.2⟩
   obtain rfl:b=it:=by simpa using hb
   exact⟨fi.2.2.2.1,fi.2.1,fi.2.2.2.2.1,fi.2.2.2.2.2⟩
  refine⟨238,_,I2,rfl,⟨_,x,rfl,fT,rfl,λys hy=>by rw [I.jr hy hq];exact hx⟩,⟨⟨_,YT⟩,OP.at λo q=>(sb.2 it Te.symm).trans q⟩,λb hb=>?_⟩;have JK:H b=none/\∃o,185:=by
   rcases b8.mp hb with rfl | hb
   .exact⟨fe.1,_,he⟩
   obtain rfl:b=it:=by simpa using hb
   obtain⟨o,q,_⟩:=hit;exact⟨fi.1,o,q⟩
  obtain⟨n,o,q⟩:=JK;rw [aj (lt b o q)];exact n
 done:=by
  intro X hP hw hK hc i ai s σ H E I hf st hg;subst hP hw hK;obtain⟨xs,hq,hx⟩:=hg;obtain⟨aV,rv,p,hz⟩:=I.tuple hq;obtain⟨⟨old,he⟩,hit⟩:=st;obtain⟨f0,f1,f2,f3,f4,f5⟩:=hf it 144;have hl:=rv.length;exact ES (I.ok.hd hc) he hit (show s.heap.IsTuple a aV.toArray from p) (by simp;omega) 503
 self:=λ_ _ _ _ _ st h=>wpAny_pyIter_enum st.1.choose_spec h
def OG (K:bp)(ta:TA):TI:=λσ H R=>ta σ H λvs H1=>XEn vs (aZ K H1) λa=>R (ui K a) H1
def nW {X:Cx}{elts:z0r}{k:Nat}{wW:Pos}{l:Expr}{ta:TA}{p pos:Pos}(hg:Gl X "enumerate")(hm:X.mg "enumerate"=none)(ha:PA X [l] ta)(hs:starEach [l] X.env=[(false,eval l X.env)]:=by rfl) :
  PI X (.Tuple elts k wW) (.Call (.Name "enumerate" p) [l] [] pos) (OG X.K ta):=by
 intro ai s σ H R I h;refine Call_ (jU I hg hm vT (wK (dC (ha pos ai s σ H _ I h) λus s1 bI=>?_) hs rfl));obtain⟨vs,H1,I1,r1,q1⟩:=bI;obtain⟨a,xs,e,hq,q⟩:=q1;subst e;obtain⟨u,rfl,rx⟩:=r1.one;cases rx;obtain⟨aV,rv,pl,hz⟩:=I1.tuple hq;refine Cc (show s1.heap.IsTuple a aV.toArray from pl) λh1 he hit hk=>wpAny_pyIter_enum he ?_;refine⟨s1.heap.objs.size+1,[s1.heap.objs.size+1,s1.heap.objs.size],_,_,H1,rfl,I1.kept (t':=s1.toks) λb o e=>hk b o e,AG a _ _ (lP (lS _)),⟨⟨_,he⟩,hit⟩,λb hb=>?_,q⟩;rcases b8.mp hb with rfl | hb
 .exact I1.xR (oE _) (I1.cw.fresh (oE _))
 obtain rfl:b=s1.heap.objs.size:=by simpa using hb
 exact I1.xR (aG _) (I1.cw.fresh (aG _))
open PySem PySem.Spec PyProof.Rows PySem.W
def j_ (c':Addr)(qual:Str):HO:=.ext λh=>h.CodeRec (.ref c') qual
def pj (f:Addr)(o:Obj):HO:=.ext λh=>h.get? f=some o
def zQ {P:Program}{w:World}{H:Hp}{h:Heap}{c':Addr}{qual:Str}(hr:h.CodeRec (.ref c') qual):cQ P w H h c' (j_ c' qual):=by
 obtain⟨c2,oc,vs,t,e,Ai,hd,hv⟩:=id hr;cases e;exact⟨hr,⟨oc,Ai⟩,λh1 h2 ⟨c3,oc3,vs3,t3,e3,YA,i5,Qj⟩ k=>by cases e3;exact⟨_,oc3,vs3,t3,rfl,k _ YA,i5,Qj⟩⟩
def qN {P:Program}{w:World}{H:Hp}{h:Heap}{f:Addr}{o:Obj}(e:h.get? f=some o):cQ P w H h f (pj f o):=⟨e,⟨o,e⟩,λ_ _ q k=>k _ q⟩
def Tab (T:Addr)(pos:Pos)(qual:Str)(H:Hp):Prop :=
 ∃ps,H T=some (.uu ps)/\TriplesOk ps.toList/\(codeAmong pos ps.toList=none\/∃c',codeAmong pos ps.toList=some (.ref c')/\H c'=some (j_ c' qual))
def gE (T:Addr)(H H':Hp):Prop:=∀b o,b≠T->H b=some o->H' b=some o
def um (mg:z0c)(base:Heap):Prop :=
 ∃bm o,mg "__builtins__"=some (.ref bm)/\bm≠builtinsNs/\bm≠mainGlobals/\base.get? bm=some o/\o.cls=.type "module" /\ o.dict=some builtinsNs/\o.data=.plain
theorem jN {a b:Int}{ta tb:Tok}{c:Value}:∀l:z0n,TriplesOk l->TriplesOk (l++[.int a ta,.int b tb,c])
 | [],_=>trivial
 | [x],h=>by cases x <;> exact h.elim
 | [x,y],h=>by cases x <;> cases y <;> exact h.elim
 | x::y::z::r,h=>by
  cases x with
  | int i ti =>
   cases y with
   | int j tj=>exact jN r h
   | _=>exact h.elim
  | _=>exact h.elim
section
variable {X:Cx}{params:Arguments}{body:Expr}{scope:Scope}{pos:Pos}{c T:Addr}
abbrev mN (X:Cx)(params:Arguments)(body:Expr)(scope:Scope)(c':Addr)(gO:Value):Obj:=kla_obj "<lambda>" (X.env.qual ++ "<lambda>") params body scope [] ((X.mg "__name__").getD .none) c' gO
def WD (X:Cx)(params:Arguments)(body:Expr)(scope:Scope)(pos:Pos)(T:Addr):TE:=λσ H Q=>Tab T pos (X.env.qual ++ "<lambda>") H /\
 ∀f c' gO H',gE T H H'->Tab T pos (X.env.qual ++ "<lambda>") H'->H f=none->H' f=some (pj f (mN X params body scope c' gO))->H' c'=some (j_ c' (X.env.qual ++ "<lambda>"))->Q (.ref f) H'
def G_ (tD:X.env.code=.ref c)(hC:codeHdIn X.K c T=true)(hB:um X.mg X.base)(n_:∀y∈scope.names,y.2≠.free)(ID:defaultsOf params X.env=([],[]):=by rfl):PE X (.Lambda params body scope pos) (WD X params body scope pos T):=by
 intro ai s σ H Q I h;obtain⟨⟨ps,hT,ht,IE⟩,q⟩:=h;refine kla_eval ID ?_;have OX:s.heap.get? T=some (tabObj ps):=(show cQ X.prog X.w H s.heap T (.uu ps) from I.cw T _ hT);have hg:=I.mod.glob.keeps I.bk;have C:=codeHd_of_K I.zo hC;obtain⟨bm,ob,b1,b2,b3,b4,b5,b6,b7⟩:=hB;have b4':=I.bk _ _ b4;have XC:bm≠T:=λz=>by
  have:=(I.bs _ _ b4).2;rw [z,hT] at this;cases this
 have Xx:mainGlobals≠T:=λz=>by
  obtain⟨o,es,ep,e,d,_⟩:=hg;rw [z,OX] at e;cases e;cases d
 have Tu:s.heap.BuiltinsAt X.mg T:=⟨bm,ob,b1,b2,b3,XC,b4',b5,b6,b7⟩;have Jz:∀b v,H b=some v->b < s.heap.objs.size:=λb v e=>I.cw.lt e;rcases IE with SV | ⟨c',hf,mS⟩
 .refine kla_makeFunction (closureFor_none n_) I.ok.glob hg tD C OX ht SV Xx Tu λc' gO h' tk hx Fx jj Ir Sx=>?_;have hcr:∃oc,h'.get? c'=some oc:=by
   obtain⟨c2,oc,vs,t,e,Ai,_⟩:=Ir;cases e;exact⟨oc,Ai⟩
  have tu:h'.objs.size > s.heap.objs.size:=rE Fx jj;have keep:∀b o,b≠T->185->(h'.push (mN X params body scope c' gO)).get? b=some o:=λb o n e=>cg _ (hx b o n e)
  let H':Hp:=upd (upd (upd H T (.uu (ps++#[rawInt pos.line,rawInt pos.col,.ref c']))) c' (j_ c' (X.env.qual ++ "<lambda>"))) h'.objs.size (pj h'.objs.size (mN X params body scope c' gO))
  have Bv:∀b v,H b=some v->b≠c'/\b≠h'.objs.size:=λb v e=>⟨bV (gy (Jz b v e) Fx),bV (ku (Jz b v e) tu)⟩;have XA:c'≠h'.objs.size:=bV jj;have RW:=Bv T _ hT;have eT:H' T=some (.uu (ps++#[rawInt pos.line,rawInt pos.col,.ref c'])):=by
   show upd (upd (upd H T _) c' _) h'.objs.size _ T=_;rw [aj RW.2,aj RW.1,ae]
  have ec:H' c'=some (j_ c' (X.env.qual ++ "<lambda>")):=by
   show upd (upd (upd H T _) c' _) h'.objs.size _ c'=_;rw [aj XA,ae]
  have ef:H' h'.objs.size=some (pj h'.objs.size (mN X params body scope c' gO)):=ae;have eo:∀b,b≠T->b≠c'->b≠h'.objs.size->H' b=H b:=λb n1 n2 n3=>by
   show upd (upd (upd H T _) c' _) h'.objs.size _ b=_;rw [aj n3,aj n2,aj n1]
  have sT:gE T H H':=λb o n e=>by rw [eo b n (Bv b o e).1 (Bv b o e).2];exact e
  have I2:Inv X ai σ H' { s with heap:=h'.push (mN X params body scope c' gO),toks:=tk }:=by
   refine I.call (g':=s.gens) (t':=tk) (d':=s.drawn) (ch:=[]) ⟨λb o e n _ _=>keep b o (λz=>by rw [z,hT] at n;cases n) e,λb o e n _ _=>⟨o.slots,keep b o (λz=>by rw [z,hT] at n;cases n) e⟩,λb o e n _=>?_,λb o e _=>?_,λb xs e=>?_,λb o u e=>?_,λb Xf e=>?_⟩ (λb v e=>?_) I.bare (λb hb=>nomatch hb)
   .have lb:=bD e;rw [eo b (λz=>by rw [z,hT] at n;cases n) (bV (gy lb Fx)) (bV (ku lb tu))];exact n
   .by_cases z:b=T
    .exact⟨_,by rw [z];exact cg _ Sx⟩
    exact⟨o,keep b o z e⟩
   .exact sT b _ (λz=>by rw [z,hT] at e;cases e) e
   .exact sT b _ (λz=>by rw [z,hT] at e;cases e) e
   .by_cases z:b=T
    .subst z;rw [hT] at e;cases e;exact⟨_,eT⟩
    exact⟨#[],by rw [Array.append_empty];exact sT b _ z e⟩
   by_cases z1:b=h'.objs.size
   .subst z1;rw [ef] at e;cases e;exact qN (dB _ rfl)
   by_cases z2:b=c'
   .subst z2;rw [ec] at e;cases e;refine zQ ?_;obtain⟨c2,oc,vs,t,e',Ai,hd,hv⟩:=Ir;cases e';exact⟨_,oc,vs,t,rfl,cg _ Ai,hd,hv⟩
   by_cases z3:b=T
   .subst z3;rw [eT] at e;cases e;exact cg _ Sx
   rw [eo b z3 z2 z1] at e;refine(I.cw b v e).kO (λd o EH e'=>?_) (λd e'=>sT d _ (λz=>by rw [z,hT] at e';cases e') e') λd ys e'=>sT d _ (λz=>by rw [z,hT] at e';cases e') e';rcases EH with rfl | EH
   .exact keep d o z3 e'
   exact keep d o (λz=>by rw [z,hT] at EH;cases EH) e'
  have fresh:H h'.objs.size=none:=I.cw.fresh (lN tu);exact⟨.ref h'.objs.size,H',I2,rfl,q _ c' gO H' sT ⟨_,eT,by rw [wA];exact jN _ ht,.inr ⟨c',by rw [wA];exact codeAmong_snoc _ ht SV,ec⟩⟩ fresh ef ec⟩
 refine kla_makeFunctionHit (closureFor_none n_) I.ok.glob hg tD C OX ht hf Tu λgO h' tk hk hsz=>?_;have keep:∀b o,185->(h'.push (mN X params body scope c' gO)).get? b=some o:=λb o e=>cg _ (hk b o e);have fresh:H h'.objs.size=none:=I.cw.fresh hsz;refine⟨.ref h'.objs.size,_,I.laid (a:=h'.objs.size) (o:=pj h'.objs.size (mN X params body scope c' gO)) (t':=tk) keep hsz (qN (dB _ rfl)),rfl,?_⟩;refine q _ c' gO _ (λb o _ e=>by rw [aj (aC e fresh)];exact e) ⟨ps,by rw [aj (aC hT fresh)];exact hT,ht,.inr ⟨c',hf,by rw [aj (aC mS fresh)];exact mS⟩⟩ fresh ae (by rw [aj (aC mS fresh)];exact mS)
end
section
variable {P:Program}{w:World}{K:Frag}{mg:z0c}{base:Heap}{f c':Addr}{q:Str}{params:Arguments}{body:Expr}{scope:Scope}{pm gO:Value}{N ps:z0t}{k:Nat}{te:TE}
def K7 (S:aK N ps scope)(tE:∀us:z0n,us.length=ps.length->bindArgs (kla_fn "<lambda>" q params body scope [] pm (.ref c') gO) ⟨us,[]⟩=pure (ps.zip us))
  (jF:∀(A:Around)(outer:List Env)(s:Shared)(H:Hp),PE (pM fI P w K mg base N q scope f (.ref c') A outer s H λ_ _ _=>False) body te)
  (A:Around)(outer:List Env)(s:Shared)(H:Hp)(us:z0n)(vs:List V)(Q:VK)(hr:gF (k+1) A)(e0:Aa P w K mg base A outer s H)(hf:H f=some (pj f (kla_obj "<lambda>" q params body scope [] pm c' gO)))
  (hc:H c'=some (j_ c' q))(rv:bH vs us)(hl:vs.length=ps.length)(h:te (start N vs) H Q):codeAny (model P w) A (.call (.ref f) ⟨us,[]⟩) (CR fI outer P w H s Q λ_ _ _=>False) s:=by
 obtain⟨ef,_⟩:=e0.cw f _ hf;obtain⟨ec,_⟩:=e0.cw c' _ hc;have lu:us.length=ps.length:=by rw [<-rv.length];exact hl
 have lim:s.heap.NoLimit:=e0.mod.nolimit.keeps λb o e=>(e0.bs b o e).1;have jD:∀y∈ps.zip us,scope.names.lookup y.1=some .local\/(scope.names.lookup y.1=some .cell/\((cellsFrom (s.heap.objs.size+1) scope.names []).lookup y.1).isSome=true):=λ⟨n,v⟩ hy=>by
  rcases S.par n (List.of_mem_zip hy).1 with z | z
  .exact .inl z
  exact .inr ⟨z,cellsFrom_some _ _ _ (.inl z)⟩
 refine kla_callFunE hr.depth ef rfl S.co S.gen rfl ec ?_;rw [tE us lu];refine aH (wpAny_newFunctionEnv_cells S.kind jD λenv he s1 x=>?_);subst he;refine⟨lim.keeps x.toInCall.keep,kla_codeExpr ?_⟩;have I:Inv (pM fI P w K mg base N q scope f (.ref c') A outer s H λ_ _ _=>False) [] (start N vs) H s1:=vx S hr.hd e0 hl rv x;refine dS (jF A outer s H [] s1 (start N vs) H _ I h) (λv s' bI=>?_) λe s' z=>z;obtain⟨y,H',J,r,z⟩:=bI;exact⟨y,H',J.os,J.bare,J.base,J.cw,r,z⟩
end
section
variable {X:Cx}{i:Nat}{x:Str}{e:Expr}{es:z0r}{t:TA}{p pos:Pos}{q:Str}{params:Arguments}{body:Expr}{scope:Scope}{N ps:z0t}{k:Nat}{te:TE}
def FT (i:Nat)(q:Str)(params:Arguments)(body:Expr)(scope:Scope) (N ps:z0t)(t:TA)(te:TE):TE:=λσ H Q=>∃f pm c' gO,σ[i]?=some (some (.ref f)) /\
 t σ H λvs H1=>H1 f=some (pj f (kla_obj "<lambda>" q params body scope [] pm c' gO))/\H1 c'=some (j_ c' q)/\vs.length=ps.length/\te (start N vs) H1 Q
def Bg (hN:X.N[i]?=some x)(hx:X.env.scope.names.lookup x=some .local)(S:aK N ps scope)(hr:gF (k+1) X.A)
  (tE:∀(pm gO:Value)(c':Addr)(us:z0n),us.length=ps.length->bindArgs (kla_fn "<lambda>" q params body scope [] pm (.ref c') gO) ⟨us,[]⟩=pure (ps.zip us))
  (jF:∀(f c':Addr)(A:Around)(outer:List Env)(s:Shared)(H:Hp),PE (pM fI X.prog X.w X.K X.mg X.base N q scope f (.ref c') A outer s H λ_ _ _=>False) body te)(ha:PA X (e::es) t)
  (EG:(x == ("__debug__":Str))=false:=by decide)(he:501:=by rfl)(C_:(backTo pos (starEach es X.env)).any 87=false:=by rfl) :
  PE X (.Call (.Name x p) (e::es) [] pos) (FT i q params body scope N ps t te):=by
 intro ai s σ H Q I h;obtain⟨f,pm,c',gO,hσ,h⟩:=h;obtain⟨m,hn,hl⟩:=I.loc;obtain⟨u,ru,lk⟩:=hl i x (.ref f) hN hσ (.inl hx);cases (show u=Value.ref f from ru);have hm:m x=some (.ref f):=by
  rcases lk with l | ⟨l,_⟩
  .exact l.2
  have l':X.env.scope.names.lookup x=some .cell\/X.env.scope.names.lookup x=some .free:=l;rw [hx] at l';rcases l' with l' | l' <;> cases l'
 refine q0 (wpAny_Name (wz I.ok.kind hx hn hm ?_) EG);refine callWith_def (o:=kla_obj "<lambda>" q params body scope [] pm c' gO) rfl (dC (ha pos ai s σ H _ I h) λus s1 bI=>?_) he;obtain⟨vs,H1,I1,r,z1,z2,z3,z4⟩:=bI;obtain⟨ef,_⟩:=I1.cw f _ z1;refine⟨ef,kn (codeAny_mono (K7 (k:=k) S (λus hl=>tE pm gO c' us hl) (jF f c') X.A X.stack s1 H1 us vs Q hr I1.Pd z1 z2 r z3 z4) λr' s' z=>?_)⟩;cases r' with
 | error e=>exact z.elim
 | ok fl =>
  cases fl with
  | ret u=>exact I1.after z
  | next=>exact z.elim
  | brk=>exact z.elim
  | cont=>exact z.elim
end
def Jt (ts:z0q)(H:Hp):Prop:=∀b,H b=none\/(∃o xs,H b=some (.mf o (.lst xs)))\/(b∈ts/\H b=some (.uu #[]))
def Ew {P:Program}{w:World}{K:Frag}{mg mb:z0c}{CX:Fj}{k:Nat}{fa a:Addr}{fd:FuncData}{x:Str}{sp:Sp}{s₁:Shared}{vs:z0n}{ns:z0u}{ts:z0q}
  (KX:K.In s₁.heap)(uv:s₁.heap.Ns mainGlobals mg)(hb:s₁.heap.Ns builtinsNs mb)(Tp:∀x:Str,x ≠ "__name__" -> mb x=bootBuiltins x)(YF:s₁.heap.NoLimit)
  (hbm:Exists λbm=>Exists λob=>mg "__builtins__"=some (.ref bm)/\bm≠builtinsNs/\s₁.heap.get? bm=some ob/\ob.cls=.type "module" /\ ob.dict=some builtinsNs/\ob.data=.plain)(hg:s₁.gens=#[])
  (OH:∀T∈ts,s₁.heap.get? T=some (tabObj #[])/\K.lookup T=none/\∃c,codeHdIn K c T=true)
  (ha:s₁.heap.get? a=some { cls:=.type "list",data:=.seq vs.toArray })(hi:IntsAre vs ns)(hl:ns.length<=sizeLine)(hr:gF k callerA)
  (F:∀base:Heap,K.In base->base.Ns mainGlobals mg->um mg base->bR P w K mg base CX k fa fd [x] sp)(tE:∀(s:Shared)(u:Value),BindsTo s fd ⟨[u],[]⟩ [(x,u)])
  (Fv:∀H:Hp,Jt ts H->(∀T∈ts,H T=some (.uu #[]))->aI K H a (ns.map V.int)->sp [.ref a] H (λv _=>v=.bl true) λ_ _ _=>False)
  (Zd:∀H e s',CX [] H s₁ (λ_ _ _=>False) e s'->False) :
  codeAny (model P w) callerA (.call (.ref fa) ⟨[.ref a],[]⟩) (λr s'=>r=.ok (.ret (.bool true))/\OldK s₁.heap s'.heap/\s'.os=s₁.os/\AllBare s'.gens) s₁:=by
 have rv:=uY hi;have X0:=hi.length;have core:∀H:Hp,Jt ts H->(∀T∈ts,H T=some (.uu #[]))->aI K H a (ns.map V.int)->m_ P w H s₁.heap->(∀b,H b≠none->b=a\/b∈ts)->(H a≠none->K.lookup a=none) ->
   codeAny (model P w) callerA (.call (.ref fa) ⟨[.ref a],[]⟩) (λr s'=>r=.ok (.ret (.bool true))/\OldK s₁.heap s'.heap/\s'.os=s₁.os/\AllBare s'.gens) s₁:=by
  intro H hO hT hS cw hA hK;have ya:∀{b:Addr}{o:Obj},s₁.heap.get? b=some o->H b=none->(uH s₁.heap H).get? b=some o:=λe n=>Iz e n;have off:∀{b:Addr}{o:Obj},s₁.heap.get? b=some o->(∀aV n,o.data≠.seq aV n)->(∀fs,o.data≠.fields fs)->H b=none:=λ{b o} e d1 d2=>by
   cases q:H b with
   | none=>rfl
   | some u =>
    rcases hA b (by rw [q];simp) with e' | e'
    .subst e';rw [ha] at e;cases e;exact(d1 _ _ rfl).elim
    rw [(OH b e').1] at e;cases e;exact(d2 _ rfl).elim
  have U8:∀{b:Addr}{m:z0c},s₁.heap.Ns b m->(uH s₁.heap H).Ns b m:=λ{b m} ⟨o,es,ep,e,d,r⟩=>⟨o,es,ep,ya e (off e (λ_ _ z=>by rw [d] at z;cases z) λ_ z=>by rw [d] at z;cases z),d,r⟩;have hKb:K.In (uH s₁.heap H):=λb o e=>ya (KX b o e) (by
   cases q:H b with
   | none=>rfl
   | some u =>
    rcases hA b (by rw [q];simp) with e' | e'
    .subst e';rw [hK (by rw [q];simp)] at e;cases e
    rw [(OH b e').2.1] at e;cases e)
  have hM:Mod K mg (uH s₁.heap H):=⟨hKb,U8 uv,⟨mb,U8 hb,Tp⟩,let ⟨mc,h1,h2⟩:=YF;⟨mc,U8 h1,h2⟩⟩;have Tt:um mg (uH s₁.heap H):=by
   obtain⟨bm,ob,b1,b2,b3,b4,b5,b6⟩:=hbm;refine⟨bm,ob,b1,b2,λz=>?_,ya b3 (off b3 (λ_ _ z=>by rw [b6] at z;cases z) λ_ z=>by rw [b6] at z;cases z),b4,b5,b6⟩;obtain⟨o,es,ep,e,d,_⟩:=uv;rw [<-z,b3] at e;cases e;rw [b6] at d;cases d
  have e0:Aa P w K mg (uH s₁.heap H) callerA [] s₁ H:=⟨rfl,hM,λb o e=>KU e,Nat.le_of_eq (EF _ _),trivial,λb hb=>absurd (show b∈([]:z0q) from hb) 144,cw,.of_eq hg⟩;refine codeAny_mono ((F _ hKb (U8 uv) Tt).run callerA [] s₁ H ⟨[.ref a],[]⟩ [.ref a] [.ref a] _ _ hr e0 (tE s₁ (.ref a)) (.cons rfl .nil) (Fv H hO hT hS)) λr s' h=>?_;cases r with
  | error e=>exact(Zd H e s' h).elim
  | ok fl =>
   cases fl with
   | next=>exact False.elim h
   | brk=>exact False.elim h
   | cont=>exact False.elim h
   | ret u =>
    obtain⟨v,H',os,bare,un,SO,r',q⟩:=h;have q':v=.bl true:=q;subst q';obtain rfl:u=Value.bool true:=r';have each:∀b o,s₁.heap.get? b=some o->asItWas s₁.heap s'.heap b o/\∃o',s'.heap.get? b=some o':=λb o e=>by
     cases q:H b with
     | none =>
      have z:=un.keep b o e q (by intro z;exact absurd (show b∈([]:z0q) from z) 144) 144;exact⟨.inl z,o,z⟩
     | some u =>
      rcases hO b with z | ⟨ob,xs,z⟩ | ⟨JK,z⟩
      .rw [q] at z;cases z
      .have z2:=un.uK b ob _ z;obtain⟨e1,_⟩:=cw b _ z;obtain⟨e2,_⟩:=SO b _ z2;rw [e] at e1;cases e1;exact⟨.inl e2,_,e2⟩
      obtain⟨more,z2⟩:=un.uz b _ z;have e2:s'.heap.get? b=some (tabObj (#[]++more)):=SO b _ z2;rw [(OH b JK).1] at e;cases e;obtain⟨c,hc⟩:=(OH b JK).2.2;obtain⟨oc,vs',file,tf,flags,tg,inF,text,tt,d1,d2,d3,d4,_⟩:=codeHd_of_K KX hc;exact⟨.inr (.inl ⟨⟨c,oc,vs',d1,d2,d3,d4⟩,rfl,#[],more,rfl,e2⟩),_,e2⟩
    exact⟨rfl,⟨λb o e=>(each b o e).1,λb o e=>(each b o e).2⟩,os,bare⟩
 have na:a∉ts:=λz=>by
  have:=(OH a z).1;rw [ha] at this;cases this
 cases hk:K.lookup a with
 | some o =>
  have e:=KX a o hk;rw [ha] at e;cases e;refine core (λb=>if b∈ts then some (.uu #[]) else none) (λb=>?_) (λT h=>aw h) (.inr ⟨_,vs.toArray,_,hk,rfl,rfl,rfl,by rw [cJ,X0];exact hl,by simpa using rv⟩) (λb u z=>?_) (λb z=>?_) λz=>absurd (au na) z
  .by_cases h:b∈ts
   .exact .inr (.inr ⟨h,aw h⟩)
   exact .inl (au h)
  .by_cases h:b∈ts
   .have z':=(aw h).symm.trans z;cases z';exact(OH b h).1
   have z':=(au h).symm.trans z;cases z'
  by_cases h:b∈ts
  .exact .inr h
  exact absurd (au h) z
 | none =>
  refine core (λb=>if b=a then some (.mf { cls:=.type "list",data:=.seq vs.toArray } (.lst (ns.map V.int))) else if b∈ts then some (.uu #[]) else none) (λb=>?_) (λT h=>?_) (.inl (.inr ⟨{ cls:=.type "list",data:=.seq vs.toArray },aw rfl⟩)) (λb u z=>?_) (λb z=>?_) λ_=>hk
  .by_cases hb:b=a
   .exact .inr (.inl ⟨_,_,aw hb⟩)
   by_cases h:b∈ts
   .exact .inr (.inr ⟨h,(au hb).trans (aw h)⟩)
   exact .inl ((au hb).trans (au h))
  .exact(au (λz:T=a=>na (z ▸ h))).trans (aw h)
  .by_cases hb:b=a
   .have z':=(aw hb).symm.trans z;cases z';subst hb;exact⟨ha,by rw [ar];exact hl,vs,_,rv,ha⟩
   by_cases h:b∈ts
   .have z':=((au hb).trans (aw h)).symm.trans z;cases z';exact(OH b h).1
   have z':=((au hb).trans (au h)).symm.trans z;cases z'
  by_cases hb:b=a
  .exact .inl hb
  by_cases h:b∈ts
  .exact .inr h
  exact absurd ((au hb).trans (au h)) z
def FK {l:OpenLaw}{n k:Nat}{q:Program}{loose:z0t}{XP:z0c->Heap->Prop}{YP:World->Heap->Prop}{d:DefRec}{K:Params->Frag}{CX:World->Fj}{sp:World->Sp}{x:Str}{ts:z0q}
  (hn:l.most=some n)(Fw:n<=sizeLine)(Th:d.params.defaults=[])(hr:gF k callerA)
  (hY:∀(w:World)(h:Heap),YP w h->(K w.params).In h/\∀T∈ts,h.get? T=some (tabObj #[]))
  (hK:∀w:World,∀T∈ts,(K w.params).lookup T=none/\∃c,codeHdIn (K w.params) c T=true)
  (F:∀(w:World)(mg:z0c)(fa:Addr)(h:Heap),(K w.params).In h->h.Ns mainGlobals mg->mg d.name=some (.ref fa) ->
   ∃fd:FuncData,(∀(s:Shared)(u:Value),BindsTo s fd ⟨[u],[]⟩ [(x,u)]) /\
    ∀base:Heap,(K w.params).In base->base.Ns mainGlobals mg->um mg base->bR l.prog w (K w.params) mg base (CX w) k fa fd [x] (sp w))
  (Fv:∀(w:World)(H:Hp)(a:Addr)(ns:z0u),ns.length<=n->Jt ts H->(∀T∈ts,H T=some (.uu #[]))->aI (K w.params) H a (ns.map V.int)->sp w [.ref a] H (λv _=>v=.bl true) λ_ _ _=>False)
  (Zd:∀(w:World)(H:Hp)(s:Shared)(e:Value)(s':Shared),CX w [] H s (λ_ _ _=>False) e s'->False) :
  WalkO q loose XP YP l.row.toRowW d [] (λf vs=>PySem.call f vs):=by
 refine v8.zW hn Th λw s₀ s₁ mg mb fa o pm cd doc a vs ns G Y ho hd ym SW ON hints bO hg=>?_;obtain⟨KX,TX⟩:=hY w _ Y;obtain⟨fd,hb,hF⟩:=F w mg fa _ KX G.T.g SW;exact Ew KX G.T.g G.T.b G.T.builtins G.T.nolimit G.T.bmain hg (λT hT=>⟨TX T hT,hK w T hT⟩) ON hints (fJ bO Fw) hr hF hb (λH hO hT hS=>Fv w H a ns bO hO hT hS) λH e s'=>Zd w H s₁ e s'
def aS {X:Cx}{scope:Scope}{js:z0j}(h:(js.all λp=>X.N[p.1]? == some p.2 && X.env.scope.names.lookup p.2 == some .cell && scope.names.lookup p.2 == some .free)=true)
  (h2:(scope.names.all λy=>y.2 != .free || X.env.scope.names.lookup y.1 == some .cell)=true):Mf X scope js:=by
 refine⟨λp hp=>?_,λy hy=>?_⟩
 .have:=eG.mp h p hp;simp only [nh,beq_iff_eq] at this;exact⟨this.1.1,this.1.2,this.2⟩
 have:=eG.mp h2 _ hy;simpa using this
def uJ {σ:St}{H:Hp}{A B:Hp->Prop}(h:A H):hX σ H λb H3=>if b=true then A H3 else B H3:=by
 show if true=true then A H else B H;exact BI h
def goN {i:Nat}{v:V}{σ:St}{H:Hp}{Q:St->Hp->Prop}(h:Q (σ.set i (some v)) H):dF i v σ H Q:=h
def zp {X:Cx}(K:bp)(hK:X.K=K:=by rfl):QO X (RB K):=by
 subst hK;exact cO
def qQ {X:Cx}(K:bp)(hK:X.K=K:=by rfl):QO X (RA K):=by
 subst hK;exact bF
def di {X:Cx}{es:z0r}{k:Nat}{t:Nh}{n:Nat}{pos:Pos}(K:bp)(hc:X.calm=true)(h:Uw X es t)(hK:X.K=K:=by rfl)
  (hn:(assignEach es X.env).length=n:=by rfl)(yl:(assignEach es X.env).findIdx? 87=none:=by rfl):PG X (.Tuple es k pos) (zz K n t):=by
 subst hK;exact gu hc h hn yl
end L2
section
variable {P:PySem.Program}{w:PySem.World}{K:bp}{mg:PySem.Str->Option PySem.Value}{base:PySem.Heap}{f:PySem.Addr}{fd:PySem.FuncData}
namespace hJ
open PySem L2
def top (i:Nat):Stmt:=PySem.Challenge.pw_wright_k39_places_moved.main.body.getD i (.Pass ⟨0,0,0,0⟩)
abbrev A1:Stmt:=top 2
abbrev AR:Stmt:=top 3
abbrev sH:Stmt:=top 13
abbrev xm:Stmt:=top 14
abbrev sN:Stmt:=top 15
abbrev Gs:Stmt:=top 25
abbrev AU:Stmt:=top 26
abbrev NK:Stmt:=top 27
abbrev su:Stmt:=top 29
abbrev xp:Stmt:=top 30
abbrev nQ:Stmt:=top 31
abbrev xl:Stmt:=top 34
abbrev AS:Stmt:=top 35
abbrev NM:Stmt:=top 36
abbrev yK:Stmt:=top 43
abbrev Gq:Stmt:=top 4
abbrev NL:Stmt:=top 5
abbrev nR:Stmt:=top 38
abbrev oZ:Stmt:=top 39
abbrev sG:Stmt:=top 40
abbrev sLT:Stmt:=top 41
structure Txt (mg:z0c):Prop where
 len:mg "len"=none
 Fs:mg "range"=none
 isi:mg "isinstance"=none
 tup:mg "tuple"=none
 lst:mg "list"=none
 Dp:mg "dict"=none
 all:mg "all"=none
 any:mg "any"=none
 str:mg "str"=none
 int:mg "int"=none
 boo:mg "bool"=none
 LA:mg "enumerate"=none
 sum:mg "sum"=none
 max:mg "max"=none
 min:mg "min"=none
section
def boot_all:bootBuiltins "all"=some (.builtin "all"):=by decide +kernel
def gB:bootBuiltins "list"=some (.type "list"):=by decide +kernel
def gC:bootBuiltins "dict"=some (.type "dict"):=by decide +kernel
end
end hJ
namespace L2
open PySem
def bz {K:bp}{H:Hp}{D a:Addr}{xs ys:List V}{o:HO}(hD:H D=some (.lst ys))(h:aZ K H a xs):aZ K (upd H D o) a xs:=by
 rcases h with (h | ⟨u,h⟩) | h
 .exact .inl (.inl (by rw [aj (λz=>by rw [z,hD] at h;cases h)];exact h))
 .exact .inl (.inr ⟨u,by rw [aj (λz=>by rw [z,hD] at h;cases h)];exact h⟩)
 exact .inr h
def yc (kvs:93)(k:aQ):(kvs.any λkv=>decide (kv.1=k))=true↔k∈kvs.map 87:=by
 rw [List.any_eq_true,bU];constructor
 .rintro⟨x,h1,h2⟩;exact⟨x,h1,cR h2⟩
 rintro⟨x,h1,h2⟩;exact⟨x,h1,cv h2⟩
def Bb {kvs:93}{k:aQ}{v:V}(h:k∈kvs.map 87):(bS kvs k v).map 87=kvs.map 87:=by
 unfold bS;rw [aw ((yc kvs k).mpr h),ff];refine rH λx hx=>?_;show (if x.1=k then (x.1,v) else x).1=x.1
 split <;> rfl
def i9 {kvs:93}{k:aQ}{v:V}(h:¬k∈kvs.map 87):(bS kvs k v).map 87=kvs.map 87++[k]:=by
 unfold bS;rw [au (λz=>h ((yc kvs k).mp z)),ba];rfl
def eQ (kvs:93)(k:aQ):(a0 kvs k).isSome=true↔k∈kvs.map 87:=by
 rw [<-iO];exact yc kvs k
theorem c_ {α β γ:Type}{F:α->β->Prop}{G:α->γ->Prop}{φ:β->γ}:∀{xs:List α}{ys:List β},Paired F xs ys->(∀a b,F a b->G a (φ b))->Paired G xs (ys.map φ)
 | _,_,.nil,_=>.nil
 | _,_,.cons h t,k=>.cons (k _ _ h) (c_ t k)
def dr {z:Str}{l:z0t}:(140:aQ)∈l.map Sum.inr↔z∈l:=by
 rw [bU];constructor
 .rintro⟨x,h1,h2⟩;rw [<-kr h2];exact h1
 intro h;exact⟨z,h,rfl⟩
end L2
namespace M11
abbrev ax:=PySem.Str×List PySem.Str
def gP (a:List PySem.Str)(h:PySem.Str):List PySem.Str:=if h∈a then a else a++[h]
def xY (bY hs:List PySem.Str):List PySem.Str:=hs.foldl gP bY
def addW (bo a:List PySem.Str)(p:PySem.Str):List PySem.Str:=if p∈bo then a else gP a p
def ur (bo bY ps:List PySem.Str):List PySem.Str:=ps.foldl (addW bo) bY
def zq (aa:88)(name:PySem.Str) (k:Nat):Bool:=decide ((aa[k]?.map 87)=some name)
def nums (aa:88)(name:PySem.Str) (i:Nat):z0u:=((List.range i).filter (zq aa name)).map λk:Nat=>(k:Int)
def Ej (aa:88)(name:PySem.Str) (i:Nat):nums aa name (i+1)=nums aa name i++(if zq aa name i=true then [(i:Int)] else []):=by
 unfold nums;rw [List.range_succ,pU,ba]
 congr 1
 by_cases h:zq aa name i=true
 .rw [aw h];simp [h]
 rw [au h];simp [h]
def yV (aa:88)(name:PySem.Str) (i:Nat):(nums aa name i).length<=i:=by
 unfold nums;rw [ar];have:=iC (zq aa name) (List.range i);rw [qY] at this;exact this
def ow (a:List PySem.Str)(h:PySem.Str):(gP a h).length<=a.length+1:=by
 unfold gP;split <;> simp
theorem ja:∀(hs bY:List PySem.Str),(xY bY hs).length<=bY.length+hs.length
 | [],bY=>by simp [xY]
 | h::r,bY=>by
  have:=ja r (gP bY h);have:=ow bY h;show (xY (gP bY h) r).length<=_;rw [dI];omega
def Ji (bo a:List PySem.Str)(p:PySem.Str):(addW bo a p).length<=a.length+1:=by
 unfold addW;split
 .omega
 exact ow a p
theorem nq (bo:List PySem.Str):∀(ps bY:List PySem.Str),(ur bo bY ps).length<=bY.length+ps.length
 | [],bY=>by simp [ur]
 | p::r,bY=>by
  have:=nq bo r (addW bo bY p);have:=Ji bo bY p;show (ur bo (addW bo bY p) r).length<=_;rw [dI];omega
end M11
namespace hJ
open PySem L2 M11
def iX {bY:93}{as:z0t}(e:bY.map 87=as.map Sum.inr)(h:Str){v:V}:(bS bY (Sum.inr h) v).map 87=(gP as h).map Sum.inr:=by
 unfold gP;by_cases q:h∈as
 .rw [aw q,Bb (by rw [e];exact dr.mpr q),e]
 rw [au q,i9 (by rw [e];exact λz=>q (dr.mp z)),e,ba];rfl
theorem nZ:∀(hs:z0t)(bY:93) (as:z0t),bY.map 87=as.map Sum.inr->(dw (hs.map λh=>((Sum.inr h:aQ),V.bl true)) bY).map 87=(xY as hs).map Sum.inr
 | [],bY,as,e=>e
 | h::r,bY,as,e=>by
  refine nZ r (bS bY (Sum.inr h) (.bl true)) (gP as h) ?_;exact iX e h
def keys_str {kvs:93}{zs:z0t}(e:kvs.map 87=zs.map Sum.inr):(kvs.map λp=>kV p.1)=154:=by
 have e2:(kvs.map λp=>kV p.1)=(kvs.map 87).map kV:=by rw [ff];rfl
 rw [e2,e,ff];rfl
section
def Dz (K:bp)(H:Hp)(r:Addr)(ru:ax):Prop:=∃p,aZ K H r [.str ru.1,.ref p]/\aZ K H p (ru.2.map V.str)
def bM (K:bp)(H:Hp)(rs:z0q)(aa:88):Prop:=Paired (λr ru=>Dz K H r ru) rs aa
def bM.keep {H H':Hp}{rs:z0q}{aa:88}(h:bM K H rs aa)(k:∀a xs,aZ K H a xs->aZ K H' a xs):bM K H' rs aa:=Paired.b9 h λr ru ⟨p,a,b⟩=>⟨p,k _ _ a,k _ _ b⟩
def bM.same {H H':Hp}{rs:z0q}{aa:88}(h:bM K H rs aa)(s:aD H H'):bM K H' rs aa:=h.keep λ_ _ z=>s.tup z
def bM.get {H:Hp}{rs:z0q}{aa:88}(h:bM K H rs aa){i:Nat}{r:Addr}(e:rs[i]?=some r):∃ru,aa[i]?=some ru/\Dz K H r ru:=by
 have l:=a7 h;have li:=(bu.mp e).1;have e2:aa[i]?=some (aa[i]'∅):=cZ ∅;obtain⟨x,e3,e4⟩:=Paired.at_ h i _ e2;rw [e] at e3;cases e3;exact⟨_,e2,e4⟩
def tV {H:Hp}{R D:Addr}{rs:z0q}{aa:88}{σ:St}{Qp:Hp->Prop}(hR:aI K H R 153)(cM:bM K H rs aa)(bO:aa.length<=1000)(hD:H D=none)
  (q:∀ts H2,aD H H2->H2 D=some 222->Paired (λt h=>aZ K H2 t [.str h,.bl true]) ts 204->Qp H2) :
  ∃W:241,(∃m,W 0 m [] (dP ["head","parts"] [] σ) 227) /\
 ∀i m ys σ' H,W i m ys σ' H->((jK K R).stop i H/\Qp H)\/((jK K R).go i H/\∃m',m' < m/\∀x H',(jK K R).lV i H x H'->zz K 2 (iZ (dF 0) (iZ (dF 1) BV)) x σ' H' λσ2 H2=>hX σ2 H2 λb H3 =>
  if b=true then uA (gT (gN 0) (gT (tC (.bl true)) qp)) σ2 H3 239 else 257):=by
 have ll:=a7 cM;refine bL (xs:=145) (λi ys σ2 H2=>∃ts:z0q,ys=ts.map V.ref/\ts.length=i/\Paired (λt h=>aZ K H2 t [.str h,.bl true]) ts ((aa.take i).map 87)/\(∃y0 y1,σ2=[y0,y1])/\370)
  ⟨[],rfl,rfl,.nil,⟨none,none,rfl⟩,af hD _,ae⟩ (λi ys σ2 H2 _ h=>?_) (λi x ys σ2 H2 ex h=>?_) (λys σ2 H2 h=>?_)
 .obtain⟨_,_,_,_,_,sm,_⟩:=h;exact sm.seq hR
 .obtain⟨ts,rfl,ht,hp,⟨y0,y1,rfl⟩,sm,hd⟩:=h;rw [aX] at ex;obtain⟨r,er,rfl⟩:=bT.mp ex;obtain⟨ru,e1,p,v1,v2⟩:=cM.get er;have li:=(bu.mp e1).1;refine⟨r,_,rfl,sm.tup v1,rfl,_,_,rfl,_,_,rfl,rfl,?_⟩;refine uJ ?_;refine⟨_,rfl,qo,λt j9=>⟨?_,219,ts++[t],?_,?_,?_,⟨_,_,rfl⟩,?_,ae⟩⟩
  .rw [aj (aC hd j9)];exact hd
  .rw [ba];rfl
  .rw [a8,ht];rfl
  .rw [cK,e1,ba];have i5:upd H2 t (.tup [.str ru.1,.bl true]) D=some 222:=by rw [aj (aC hd j9)];exact hd
   exact fc (Paired.b9 hp λt' h' z=>bz i5 ((af j9 _).tup z)) (bz i5 (aZ.of ae))
  intro b o hb;rw [330];exact af j9 _ _ _ (sm b o hb)
 obtain⟨ts,rfl,ht,hp,_,sm,hd⟩:=h;rw [ar,ll,b0] at hp;exact q ts H2 sm hd hp
def lB (K:bp):Sp:=λvs H Q _=>∃(R:Addr)(rs:z0q)(aa:88),vs=[.ref R]/\aI K H R 153/\bM K H rs aa/\aa.length<=1000 /\
 ∀D H',H D=none->aD H H'->H' D=some (.lst ((xY [] 204).map V.str))->Q (.ref D) H'
def Kh:aK ["rules"] ["rules"] (ay A1):=163
def Hw (F:iz K "heads_of" "heads_of" A1 f fd)(T:Txt mg):bR P w K mg base fI 1 f fd ["rules"] (lB K):=by
 refine F.ok Kh 184 186
 .obtain⟨R,rs,aa,rfl,_⟩:=h;rfl
 obtain⟨R,rs,aa,rfl,hR,cM,bO,q⟩:=h;refine⟨_,ao (bw (bN (mY rfl) rfl T.lst gB (ab (bN (eZ rfl) rfl T.Dp gC (ab
  (aT ["head","parts"] [] rfl (aR 91) 162 nofun rfl nofun
   (λ_ _ _ _ _=>di (n:=2) K rfl (az (aq (i:=0) (show (["head","parts"]:z0t).Nodup by decide +kernel) rfl 90) (az (aq (i:=1) (show (["head","parts"]:z0t).Nodup by decide +kernel) rfl 90) bE))) 220
   (λ_ _ _ _ _=>bX (ab 91 (ab fY ak)))) ak)) ak))),?_⟩
 dsimp only [uM];refine⟨_,rfl,R,rfl,⟨_,hR⟩,λD hD=>tV hR cM bO hD λts H2 sm hd hp=>?_⟩;have kp:Paired (λt (kv:aQ×V)=>aZ K H2 t [kV kv.1,kv.2]) ts ((aa.map 87).map λh=>((Sum.inr h:aQ),V.bl true)):=c_ hp λ_ _ z=>z;refine⟨D,ts,_,rfl,hd,kp,λd hd2=>?_⟩;refine⟨d,_,rfl,ae,λD2 jL=>?_⟩;rw [keys_str (nZ 204 [] [] rfl)];have nd:D2≠d:=λz=>by rw [z,ae] at jL;cases jL
 exact q D2 _ (sm.free (by rw [aj nd] at jL;exact jL)) (sm.trans ((af hd2 _).trans (af jL _))) ae
theorem jH:∀(aa:88) (n:Nat),aa.length<=n->329->(aa.flatMap (·.2)).length<=8 * n
 | [],n,_,_=>92
 | ru::r,n,hl,h=>by
  rw [dI] at hl;have:=jH r (n - 1) ∅ λx hx=>h x (cT _ hx);have:=h ru cS;rw [pT,a8];omega
def hd (aa:88):z0t:=xY [] 204
def CA (K:bp):Sp:=λvs H Q _=>∃(R:Addr)(rs:z0q)(aa:88),vs=[.ref R]/\aI K H R 153/\bM K H rs aa/\aa.length<=1000/\329 /\
 ∀D H',H D=none->aD H H'->H' D=some (.lst ((ur (hd aa) [] (aa.flatMap (·.2))).map V.str))->Q (.ref D) H'
def lC:aK ["rules","heads","words","head","parts","part"] ["rules"] (ay AR):=163
def Hl (F:iz K "words_in" "words_in" AR f fd)(T:Txt mg):bR P w K mg base fI 1 f fd ["rules"] (CA K):=by
 refine F.ok lC 184 186
 .obtain⟨R,rs,aa,rfl,_⟩:=h;rfl
 obtain⟨R,rs,aa,rfl,hR,cM,bO,h8,q⟩:=h;have hu:=gh hr;refine⟨_,ag (aA (i:=1) lC.nd rfl 90 (bN (eZ rfl) rfl T.Dp gC (ab
  (aT ["head","parts"] [] rfl (aR 91) 162 nofun rfl nofun
   (λ_ _ _ _ _=>di (n:=2) K rfl (az (aq (i:=0) (show (["head","parts"]:z0t).Nodup by decide +kernel) rfl 90) (az (aq (i:=1) (show (["head","parts"]:z0t).Nodup by decide +kernel) rfl 90) bE))) 220
   (λ_ _ _ _ _=>bX (ab 91 (ab fY ak)))) ak)))
  (ag (aA (i:=2) lC.nd rfl 90 fX)
  (ag (bJ bW rfl (aR 91) (gu rfl (az (aq (i:=3) lC.nd rfl 90) (az (aq (i:=4) lC.nd rfl 90) bE)))
   (ao (bJ bW rfl (eV (pv 4)) (aq (i:=5) lC.nd rfl 90)
    (ao (cy (fC (dD hu (pv 5) (pv 1))) (ao (fK hu (pv 2) (pv 5) fY rfl)) bf)))))
  (ao (bw (bN (mY rfl) rfl T.lst gB (ab (pv 2) ak)))))),?_⟩
 nofun
 refine⟨_,rfl,R,rfl,⟨_,hR⟩,λD hD=>tV hR cM bO hD λts H2 sm hd2 hp=>?_⟩;have kp:Paired (λt (kv:aQ×V)=>aZ K H2 t [kV kv.1,kv.2]) ts ((aa.map 87).map λh=>((Sum.inr h:aQ),V.bl true)):=c_ hp λ_ _ z=>z;refine⟨D,ts,_,rfl,hd2,kp,λd OT=>?_⟩;have MM:(dw ((aa.map 87).map λh=>((Sum.inr h:aQ),V.bl true)) []).map 87=(hd aa).map Sum.inr:=nZ 204 [] [] rfl;generalize dw ((aa.map 87).map λh=>((Sum.inr h:aQ),V.bl true)) []=kH at MM ⊢;have P5:=sm.trans (af OT (.dK kH));have i5:upd H2 d (.dK kH) d=some (.dK kH):=ae;generalize upd H2 d (.dK kH)=H3 at P5 i5;intro e he;have hde:∀o,upd H3 e o d=some (.dK kH):=λo=>by rw [aj (aC i5 he)];exact i5
 have CO:∀o,aD H (upd H3 e o):=λo=>P5.trans (af he o);have ll:=a7 cM
 let yj:uh:=λi σ H5=>∃(kvs:93)(y3 y4 y5:Option V),σ=[aE R,aE d,aE e,y3,y4,y5]/\H5=upd H3 e (.dK kvs) /\
  kvs.map 87=(ur (hd aa) [] ((aa.take i).flatMap (·.2))).map Sum.inr
 refine⟨_,rfl,R,rfl,⟨_,(CO _).seq hR⟩,bQ (xs:=145) yj ⟨[],none,none,none,rfl,rfl,rfl⟩ ?_ ?_ ?_⟩
 .rintro i σ H5 _ ⟨kvs,y3,y4,y5,rfl,rfl,_⟩;exact(CO _).seq hR
 .rintro i x σ H5 ex ⟨kvs,y3,y4,y5,rfl,rfl,hk⟩
  ac_nf0
  rw [aX] at ex;obtain⟨r,er,rfl⟩:=bT.mp ex;obtain⟨ru,e1,p,v1,v2⟩:=cM.get er;have li:=(bu.mp e1).1;have O2:=h8 ru (cE e1);have eT:(aa.take (i+1)).flatMap (·.2)=(aa.take i).flatMap (·.2)++ru.2:=by
   rw [cK,e1,rG];simp
  have lA:((aa.take i).flatMap (·.2)).length<=8 * i:=jH (aa.take i) i (by rw [du];omega) λru ix=>h8 ru (uT ix);refine⟨r,_,rfl,(CO _).tup v1,rfl,_,_,rfl,_,_,rfl,rfl,?_⟩
  let Fe:uh:=λj σ H6=>∃(kvs:93)(y5:Option V),σ=[aE R,aE d,aE e,some (.str ru.1),aE p,y5]/\H6=upd H3 e (.dK kvs) /\
   kvs.map 87=(ur (hd aa) [] ((aa.take i).flatMap (·.2)++ru.2.take j)).map Sum.inr
  refine⟨_,rfl,p,rfl,⟨_,(CO _).tup v2⟩,xT (xs:=ru.2.map V.str) Fe ⟨kvs,_,rfl,rfl,by rw [List.take_zero,dN];exact hk⟩ ?_ ?_ ?_⟩
  .rintro j σ H6 _ ⟨kvs,y5,rfl,rfl,_⟩;exact(CO _).tup v2
  .rintro j x σ H6 iM ⟨kvs,y5,rfl,rfl,EE⟩
   ac_nf0
   rw [aX] at iM;obtain⟨z,ez,rfl⟩:=bT.mp iM;have lj:=(bu.mp ez).1;have eS:ur (hd aa) [] ((aa.take i).flatMap (·.2)++ru.2.take (j+1))=addW (hd aa) (ur (hd aa) [] ((aa.take i).flatMap (·.2)++ru.2.take j)) z:=by
    rw [cK,ez,<-iA];exact wj
   have lk:kvs.length<=8 * i+8:=by
    have h1:kvs.length=(ur (hd aa) [] ((aa.take i).flatMap (·.2)++ru.2.take j)).length:=by
     have:=congrArg List.length EE;rw [ar,ar] at this;exact this
    have h2:=nq (hd aa) ((aa.take i).flatMap (·.2)++ru.2.take j) [];rw [a8,du] at h2;simp only [kc] at h2;omega
   have mem:(a0 kH 150).isSome=true↔z∈hd aa:=by rw [eQ,MM];exact dr
   refine⟨_,rfl,_,rfl,d,_,rfl,cu.k (k:=140) (hde _),_,rfl,?_⟩;refine 246
   .have nm:z∉hd aa:=λh=>by rw [mem.mpr h] at c;exact absurd c nofun
    refine⟨_,rfl,_,rfl,e,_,rfl,jZ.k (k:=140) ae (br ∅),?_⟩;refine⟨bS kvs 150 (.bl true),_,rfl,by rw [nr],?_⟩;rw [eS];unfold addW;rw [au nm];exact iX EE z
   have im:z∈hd aa:=mem.mp (by
    cases h:(a0 kH 150).isSome with
    | true=>rfl
    | false=>exact absurd (by rw [h];rfl) c)
   refine⟨kvs,_,rfl,rfl,?_⟩;rw [eS];unfold addW;rw [aw im];exact EE
  rintro σ H6 ⟨kvs,y5,rfl,rfl,EE⟩;rw [ar,b0,<-eT] at EE;exact⟨kvs,_,_,_,rfl,rfl,EE⟩
 rintro σ H5 ⟨kvs,y3,y4,y5,rfl,rfl,hk⟩;rw [ar,ll,b0] at hk;refine⟨_,rfl,e,_,rfl,ae,λD2 jL=>?_⟩;rw [keys_str hk];exact q D2 _ ((CO _).free jL) ((CO _).trans (af jL _)) ae
end
end hJ
namespace L2
open PySem
section
variable {K:bp}{a D:Addr}{xs:List V}{ts:z0t}{js:z0j}{g:TG}{tif:TT}{te:TE}{R:Hp->Prop}{σ:St}{H:Hp}
def gL (Pv:Nat->List V->St->Hp->Prop)(h0:Pv 0 [] (dP ts js σ) 227)(hl:∀i ys σ H,i<=xs.length->Pv i ys σ H->aZ K H a xs)
  (hs:∀i x ys σ H,xs[i]?=some x->Pv i ys σ H->g x σ H 505)
  (hd:∀ys σ H,Pv xs.length ys σ H->R H) :
  ∃W:241,(∃m,W 0 m [] (dP ts js σ) 227) /\
 ∀i m ys σ' H,W i m ys σ' H->((ox K a).stop i H/\R H)\/((ox K a).go i H/\∃m',m' < m/\∀x H',(ox K a).lV i H x H'->g x σ' H' λσ2 H2=>tif σ2 H2 λb H3 =>
  if b=true then te σ2 H3 239 else 257):=by
 refine⟨λi m ys σ H=>m=xs.length - i/\i<=xs.length/\Pv i ys σ H,⟨xs.length,92,gr _,h0⟩,?_⟩;rintro i m ys σ' H ⟨rfl,hi,p⟩;have q:=hl i ys σ' H hi p;by_cases jj:i < xs.length
 .refine .inr ⟨⟨xs,xs[i],q,by simp [jj]⟩,xs.length - (i+1),∅,λx H' y=>?_⟩;obtain⟨e,y⟩:=y;subst e;have z:=hs i x ys σ' _ (y xs q) p;have h1:(i+1<=xs.length)=True:=eq_true jj;simp only [h1,true_and];exact z
 have e:i=xs.length:=by omega
 subst e;exact .inl ⟨⟨xs,q,aG _⟩,hd ys σ' H p⟩
def zP (Pv:Nat->List V->St->Hp->Prop)(h0:Pv 0 [] (dP ts js σ) 227)(hl:∀i ys σ H,i<=xs.length->Pv i ys σ H->aZ K H a xs)
  (hs:∀i x ys σ H t,xs[i]?=some x->Pv i ys σ H->H t=none->g (.ref t) σ (upd H t (.tup [155,x])) 505)
  (hd:∀ys σ H,Pv xs.length ys σ H->R H) :
  ∃W:241,(∃m,W 0 m [] (dP ts js σ) 227) /\
 ∀i m ys σ' H,W i m ys σ' H->((ui K a).stop i H/\R H)\/((ui K a).go i H/\∃m',m' < m/\∀x H',(ui K a).lV i H x H'->g x σ' H' λσ2 H2=>tif σ2 H2 λb H3 =>
  if b=true then te σ2 H3 239 else 257):=by
 refine⟨λi m ys σ H=>m=xs.length - i/\i<=xs.length/\Pv i ys σ H,⟨xs.length,92,gr _,h0⟩,?_⟩;rintro i m ys σ' H ⟨rfl,hi,p⟩;have q:=hl i ys σ' H hi p;by_cases jj:i < xs.length
 .refine .inr ⟨⟨xs,xs[i],q,by simp [jj]⟩,xs.length - (i+1),∅,λx H' y=>?_⟩;obtain⟨t,y0,rfl,ht,rfl,y⟩:=y;have z:=hs i y0 ys σ' _ t (y xs q) p ht;have h1:(i+1<=xs.length)=True:=eq_true jj;simp only [h1,true_and];exact z
 have e:i=xs.length:=by omega
 subst e;exact .inl ⟨⟨xs,q,aG _⟩,hd ys σ' H p⟩
end
def k0 {K:bp}{a:Addr}{xs:List V}{g:TG}{tb:TS}{D:Ends}{σ:St}{H:Hp}(Pv:Nat->St->Hp->Prop)(h0:Pv 0 σ H)(hl:∀i σ H,i<=xs.length->Pv i σ H->aI K H a xs)
  (hs:∀i x σ H t,xs[i]?=some x->Pv i σ H->H t=none->g (.ref t) σ (upd H t (.tup [155,x])) λσ2 H2=>tb { D with nx:=Pv (i+1),ct:=Pv (i+1),bk:=D.nx } σ2 H2)(hd:∀σ H,Pv xs.length σ H->D.nx σ H) :
  ∃W:Nat->Nat->St->Hp->Prop,(∃m,W 0 m σ H)/\∀i m σ H,W i m σ H ->
   ((UA K a).stop i H/\D.nx σ H)\/((UA K a).go i H/\∃N:St->Hp->Prop,(∀σ' H',N σ' H'->∃m',m' < m/\W (i+1) m' σ' H')/\∀x H',(UA K a).lV i H x H'->g x σ H' λσ2 H2=>tb { D with nx:=N,ct:=N,bk:=D.nx } σ2 H2):=by
 refine⟨λi m σ H=>m=xs.length - i/\i<=xs.length/\Pv i σ H,⟨xs.length,92,gr _,h0⟩,?_⟩;rintro i m σ H ⟨rfl,hi,p⟩;have q:=hl i σ H hi p;by_cases jj:i < xs.length
 .refine .inr ⟨⟨xs,xs[i],q,by simp [jj]⟩,Pv (i+1),λσ' H' p'=>⟨xs.length - (i+1),∅,rfl,jj,p'⟩,λx H' y=>?_⟩;obtain⟨t,y0,rfl,ht,rfl,y⟩:=y;exact hs i y0 σ _ t (y xs q) p ht
 have e:i=xs.length:=by omega
 subst e;exact .inl ⟨⟨xs,q,aG _⟩,hd σ H p⟩
def pI {K:bp}{a:Addr}{xs:List V}{g:TG}{tb:TS}{D:Ends}{σ:St}{H:Hp}(Pv:Nat->St->Hp->Prop)(h0:Pv 0 σ H)(hl:∀i σ H,i<=xs.length->Pv i σ H->aZ K H a xs)
  (hs:∀i x σ H t,xs[i]?=some x->Pv i σ H->H t=none->g (.ref t) σ (upd H t (.tup [155,x])) λσ2 H2=>tb { D with nx:=Pv (i+1),ct:=Pv (i+1),bk:=D.nx } σ2 H2)(hd:∀σ H,Pv xs.length σ H->D.nx σ H) :
  ∃W:Nat->Nat->St->Hp->Prop,(∃m,W 0 m σ H)/\∀i m σ H,W i m σ H ->
   ((ui K a).stop i H/\D.nx σ H)\/((ui K a).go i H/\∃N:St->Hp->Prop,(∀σ' H',N σ' H'->∃m',m' < m/\W (i+1) m' σ' H')/\∀x H',(ui K a).lV i H x H'->g x σ H' λσ2 H2=>tb { D with nx:=N,ct:=N,bk:=D.nx } σ2 H2):=by
 refine⟨λi m σ H=>m=xs.length - i/\i<=xs.length/\Pv i σ H,⟨xs.length,92,gr _,h0⟩,?_⟩;rintro i m σ H ⟨rfl,hi,p⟩;have q:=hl i σ H hi p;by_cases jj:i < xs.length
 .refine .inr ⟨⟨xs,xs[i],q,by simp [jj]⟩,Pv (i+1),λσ' H' p'=>⟨xs.length - (i+1),∅,rfl,jj,p'⟩,λx H' y=>?_⟩;obtain⟨t,y0,rfl,ht,rfl,y⟩:=y;exact hs i y0 σ _ t (y xs q) p ht
 have e:i=xs.length:=by omega
 subst e;exact .inl ⟨⟨xs,q,aG _⟩,hd σ H p⟩
def vO {K:bp}{H:Hp}{p D d:Addr}{zs:z0t}{kvs:93}{σ:St}{js:z0j}{Qp:Hp->Prop}(hσ:dP ["part"] js σ=[none,aE d])(hp:aZ K H p 203)(hz:zs.length<=1000)
  (hd:H d=188)(hD:H D=none)(q:∀H2,aD H H2->H2 D=some (.lst ((zs.map λz=>(a0 kvs 150).isSome).map V.bl))->Qp H2) :
  ∃W:241,(∃m,W 0 m [] (dP ["part"] js σ) 227) /\
 ∀i m ys σ' H,W i m ys σ' H->((ox K p).stop i H/\Qp H)\/((ox K p).go i H/\∃m',m' < m/\∀x H',(ox K p).lV i H x H'->dF 0 x σ' H' λσ2 H2=>hX σ2 H2 λb H3 =>
  if b=true then Rc (gN 0) (gN 1) σ2 H3 239 else 257):=by
 refine gL (xs:=154) (λi ys σ2 H2=>ys=(((zs.take i).map λz=>(a0 kvs 150).isSome).map V.bl)/\(∃y0,σ2=[y0,aE d])/\370)
  ⟨rfl,⟨none,hσ⟩,af hD _,ae⟩ (λi ys σ2 H2 _ h=>h.2.2.1.tup hp) (λi x ys σ2 H2 ex h=>?_) (λys σ2 H2 h=>?_)
 .obtain⟨rfl,⟨y0,rfl⟩,sm,hd2⟩:=h;rw [aX] at ex;obtain⟨z,ez,rfl⟩:=bT.mp ex;have li:=(bu.mp ez).1;refine goN (uJ ?_);refine⟨_,rfl,_,rfl,d,_,rfl,cu.k (k:=140) (sm _ _ hd),hd2,br (by rw [ar,ar,du];omega),?_,157,?_,ae⟩
  .rw [cK,ez,ba,ba];rfl
  intro b o hb;rw [330];exact sm b o hb
 obtain⟨rfl,_,sm,hd2⟩:=h;rw [ar,b0] at hd2;exact q H2 sm hd2
def iq {K:bp}{H:Hp}{D a:Addr}{xs:List V}{ys:93}{o:HO}(hD:H D=some (.dK ys))(h:aZ K H a xs):aZ K (upd H D o) a xs:=by
 rcases h with (h | ⟨u,h⟩) | h
 .exact .inl (.inl (by rw [aj (λz=>by rw [z,hD] at h;cases h)];exact h))
 .exact .inl (.inr ⟨u,by rw [aj (λz=>by rw [z,hD] at h;cases h)];exact h⟩)
 exact .inr h
theorem iL {α:Type} [DecidableEq α]:∀(l m:List α),l.Nodup->(∀x∈l,x∈m)->l.length<=m.length
 | [],m,_,_=>gr _
 | a::l,m,hn,h=>by
  have hm:=h a cS;have:=iL l (m.erase a) (hU.mp hn).2 λx hx=>(List.mem_erase_of_ne (λz:x=a=>(hU.mp hn).1 (by rw [<-z];exact hx))).mpr (h x (cT _ hx));rw [Aw hm] at this;have:=Aq hm;rw [dI];omega
end L2
namespace M11
open PySem L2
inductive uj (aa:88):z0h->Prop
 | nil:uj aa []
 | snoc {aL:z0h}{k:Nat}{ru:ax}:uj aa aL->aa[k]?=some ru->ru.1∉aL.map 87->(∀p∈ru.2,p∈aL.map 87)->uj aa (aL++[(ru.1,k)])
def qE (aa:88) (n:Nat)(aL:z0h):Prop:=∀ru∈aa.take n,(∀p∈ru.2,p∈aL.map 87)->ru.1∈aL.map 87
def uj.nd {aa:88}{aL:z0h}(h:uj aa aL):(aL.map 87).Nodup:=by
 induction h with
 | nil=>exact gI
 | snoc h e n p ih =>
  rw [ba];refine iN.mpr ⟨ih,92,λa ha b hb=>?_⟩;rw [oU,bB] at hb;exact λz=>n (by rw [<-hb,<-z];exact ha)
def uj.head {aa:88}{aL:z0h}(h:uj aa aL):∀x∈aL.map 87,x∈aa.map 87:=by
 induction h with
 | nil=>simp
 | snoc h e n p ih =>
  intro x hx;rw [ba] at hx;rcases bP.mp hx with hx | hx
  .exact ih x hx
  rw [oU,bB] at hx;rw [hx];exact iB (cE e)
def uj.len {aa:88}{aL:z0h}(h:uj aa aL):aL.length<=aa.length:=by
 have:=iL _ _ h.nd h.head;rw [ar,ar] at this;exact this
end M11
namespace hJ
open PySem L2 M11
section
def oy (K:bp)(H:Hp)(ts:z0q)(aL:z0h):Prop:=Paired (λt (e:Str×Nat)=>aZ K H t [.str e.1,.int (e.2:Int)]) ts aL
def oy.keep {H H':Hp}{ts:z0q}{aL:z0h}(h:oy K H ts aL)(k:∀a xs,aZ K H a xs->aZ K H' a xs):oy K H' ts aL:=Paired.b9 h λt e z=>k _ _ z
structure DG (K:bp)(aa:88)(H H5:Hp)(D d:Addr)(ts:z0q)(aL:z0h)(kvs:93):Prop where
 sm:aD H H5
 hD:H5 D=some 222
 hd:H5 d=188
 keys:kvs.map 87=(aL.map 87).map Sum.inr
 ev:oy K H5 ts aL
 emp:uj aa aL
def DG.same {aa:88}{H H5 H6:Hp}{D d:Addr}{ts:z0q}{aL:z0h}{kvs:93}(h:DG K aa H H5 D d ts aL kvs)(s:aD H5 H6):DG K aa H H6 D d ts aL kvs :=
 ⟨h.sm.trans s,s _ _ h.hD,s _ _ h.hd,h.keys,h.ev.keep λ_ _ z=>s.tup z,h.emp⟩
def DG.mem {aa:88}{H H5:Hp}{D d:Addr}{ts:z0q}{aL:z0h}{kvs:93}(h:DG K aa H H5 D d ts aL kvs)(z:Str):(a0 kvs 150).isSome=true↔z∈aL.map 87:=by
 rw [eQ,h.keys];exact dr
def DG.len {aa:88}{H H5:Hp}{D d:Addr}{ts:z0q}{aL:z0h}{kvs:93}(h:DG K aa H H5 D d ts aL kvs):ts.length=aL.length/\kvs.length=aL.length:=by
 refine⟨a7 h.ev,?_⟩;have:=congrArg List.length h.keys;simpa using this
def DG.more {aa:88}{H H5:Hp}{D d t:Addr}{ts:z0q}{aL:z0h}{kvs:93}(h:DG K aa H H5 D d ts aL kvs)(fD:H D=none)(fd:H d=none){k:Nat}{ru:ax}(e:aa[k]?=some ru)
  (n:ru.1∉aL.map 87)(p:∀x∈ru.2,x∈aL.map 87)(ht:upd H5 d (.dK (bS kvs (Sum.inr ru.1) (.bl true))) t=none) :
  DG K aa H (upd (upd (upd H5 d (.dK (bS kvs (Sum.inr ru.1) (.bl true)))) t (.tup [.str ru.1,.int (k:Int)])) D (.lst (ts.map V.ref++[.ref t]))) D d (ts++[t]) (aL++[(ru.1,k)]) (bS kvs (Sum.inr ru.1) (.bl true)):=by
 have nDd:D≠d:=λz=>by have:=h.hD;rw [z,h.hd] at this;cases this
 have nt:t≠d:=λz=>by rw [z,ae] at ht;cases ht
 have Sy:H5 t=none:=by rw [aj nt] at ht;exact ht
 have nDt:D≠t:=λz=>by rw [<-z,h.hD] at Sy;cases Sy
 have jL:upd (upd H5 d (.dK (bS kvs (Sum.inr ru.1) (.bl true)))) t (.tup [.str ru.1,.int (k:Int)]) D=some 222:=by rw [aj nDt,aj nDd];exact h.hD
 have kp:∀a xs,aZ K H5 a xs->aZ K (upd (upd (upd H5 d (.dK (bS kvs (Sum.inr ru.1) (.bl true)))) t (.tup [.str ru.1,.int (k:Int)])) D (.lst (ts.map V.ref++[.ref t]))) a xs:=λa xs z =>
  bz jL ((af ht _).tup (iq h.hd z))
 refine⟨λb o hb=>?_,by rw [ae,ba];rfl,by rw [aj nDd.symm,aj nt.symm,ae],?_,fc (h.ev.keep kp) (bz jL (aZ.of ae)),.snoc h.emp e n p⟩
 .have:=h.sm b o hb;rw [aj (λz=>by rw [z,fD] at hb;cases hb),aj (λz=>by rw [z,Sy] at this;cases this),aj (λz=>by rw [z,fd] at hb;cases hb)];exact this
 rw [i9 (by rw [h.keys];exact λz=>n (dr.mp z)),h.keys,ba,ba];rfl
def oY (K:bp):Sp:=λvs H Q _=>∃(R:Addr)(rs:z0q)(aa:88),vs=[.ref R]/\aI K H R 153/\bM K H rs aa/\aa.length<=1000/\329 /\
 ∀D ts aL H',H D=none->aD H H'->H' D=some 222->oy K H' ts aL->uj aa aL->qE aa aa.length aL->Q (.ref D) H'
def ic:aK ["rules","told","empty","many","number","rule"] ["rules"] (ay sH):=163
def Bp (F:iz K "found_empties" "found_empties" sH f fd)(T:Txt mg):bR P w K mg base fI 1 f fd ["rules"] (oY K):=by
 refine F.ok ic 184 186
 .obtain⟨R,rs,aa,rfl,_⟩:=h;rfl
 obtain⟨R,rs,aa,rfl,hR,cM,bO,h8,q⟩:=h;have hu:=gh hr;refine⟨_,ag (aA (i:=1) ic.nd rfl 90 (bK ak))
  (ag (aA (i:=2) ic.nd rfl (Or.inr rfl) fX)
  (ag (aA (i:=3) ic.nd rfl 90 (yR rW av))
  (ag (iw bW (bc lX (pv 3) (aP aU rfl T.len d_ (ab (pv 1) ak)) (cA _))
   (ag (aA (i:=3) ic.nd rfl 90 (aP aU rfl T.len d_ (ab (pv 1) ak)))
   (ao (bJ bW rfl (nX rfl T.LA (ab 91 ak)) (gu rfl (az (aq (i:=4) ic.nd rfl 90) (az (aq (i:=5) ic.nd rfl 90) bE)))
    (ao (cy (PW.pt (mI (fC (dD hu (a_ bF (pv 5) av 142) (pv 2)))
      (jR (gW (aP (dY rfl) rfl T.all boot_all (ab (aT ["part"] [(2,"empty")] rfl (eV (a_ bF (pv 5) av 142)) 162 nofun rfl nofun
       (λ_ _ _ _ _=>aq (i:=0) (show (["part","empty"]:z0t).Nodup by decide +kernel) rfl 90) 220 (λ_ _ _ _ _=>xD (kR hu 91 (pv 1)))) ak))))))
     (ag (fK hu (pv 2) (a_ bF (pv 5) av 142) fY rfl)
     (ao (cU (gZ gA iD iE cx (pv 1) (ab (bX (ab (a_ bF (pv 5) av 142) (ab (pv 4) ak))) ak))))) bf))))))
  (ao (bw (pv 1)))))),?_⟩
 nofun
 refine⟨uq,λD hD d hd=>?_⟩;have U_:d≠D:=λz=>by rw [z,ae] at hd;cases hd
 have vA:H d=none:=by rw [aj U_] at hd;exact hd
 have e0:DG K aa H (upd 227 d (.dK [])) D d [] [] []:=⟨(af hD _).trans (af hd _),by rw [aj U_.symm,ae];rfl,ae,rfl,.nil,.nil⟩;generalize upd 227 d (.dK [])=H0 at e0;refine⟨1,rfl,?_⟩;refine⟨λm σ H5=>∃(ts:z0q)(aL:z0h)(kvs:93) (many:Int)(y4 y5:Option V),σ=[aE R,aE D,aE d,some (.int many),y4,y5]/\DG K aa H H5 D d ts aL kvs/\-1<=many/\many<=aL.length/\(many=aL.length->qE aa aa.length aL)/\(m:Int)=aa.length+1 - many,
  ⟨aa.length+2,[],[],[],-1,none,none,rfl,e0,∅,92,92,by simp;omega⟩,?_⟩
 rintro m σ H5 ⟨ts,aL,kvs,many,y4,y5,rfl,S,b1,b2,cl,em⟩;obtain⟨lt,lk⟩:=S.len;refine⟨_,rfl,_,rfl,D,_,rfl,.inl (aI.of S.hD),_,_,rfl,rfl,_,rfl,?_⟩;refine 246
 .have c':=cR c;rw [ar,lt] at c';refine⟨λσ H5=>∃(kK:z0q)(iH:z0h)(gp:93)(y4 y5:Option V),σ=[aE R,aE D,aE d,some (.int (aL.length:Int)),y4,y5]/\DG K aa H H5 D d kK iH gp/\aL.length<=iH.length/\(iH.length=aL.length->qE aa aa.length iH),?_,?_⟩
  .rintro σ H6 ⟨kK,iH,gp,y4,y5,rfl,S2,l2,c2⟩;have:=S2.emp.len;exact⟨(aa.length+1 - aL.length:Int).toNat,∅,kK,iH,gp,_,_,_,rfl,S2,∅,∅,λz=>c2 ∅,∅⟩
  refine⟨_,rfl,D,_,rfl,.inl (aI.of S.hD),?_⟩;rw [ar,lt];refine⟨_,rfl,R,_,rfl,S.sm.seq hR,?_⟩;refine k0 (xs:=145) (λi σ H6=>∃(kK:z0q)(iH:z0h)(gp:93)(y4 y5:Option V),σ=[aE R,aE D,aE d,some (.int (aL.length:Int)),y4,y5]/\DG K aa H H6 D d kK iH gp/\aL.length<=iH.length/\(iH.length=aL.length->qE aa i iH))
   ⟨ts,aL,kvs,_,_,rfl,S,aG _,λ_ ru ix=>by simp at ix⟩ ?_ ?_ ?_
  .rintro i σ H6 _ ⟨kK,iH,gp,y4,y5,rfl,S2,_⟩;exact S2.sm.seq hR
  .rintro i x σ H6 t ex ⟨kK,iH,gp,y4,y5,rfl,S2,l2,c2⟩ ht
   ac_nf0
   rw [aX] at ex;obtain⟨r,er,rfl⟩:=bT.mp ex;obtain⟨ru,e1,p,v1,v2⟩:=cM.get er;have O2:=h8 ru (cE e1);have S3:=S2.same (af ht (.tup [155,.ref r]));have Qj:aZ K (upd H6 t (.tup [155,.ref r])) t [155,.ref r]:=aZ.of ae;generalize upd H6 t (.tup [155,.ref r])=H7 at S3 Qj;obtain⟨lt2,Vc⟩:=S3.len;have el2:=S3.emp.len;have tk:aa.take (i+1)=aa.take i++[ru]:=by rw [cK,e1];rfl
   have kO:(¬((∀p∈ru.2,p∈iH.map 87)/\ru.1∉iH.map 87))->(iH.length=aL.length->qE aa (i+1) iH):=λhn z A9 tq hp=>by
    rw [tk] at tq;rcases bP.mp tq with h | h
    .exact c2 z A9 h hp
    rw [bB.mp h] at hp ⊢;exact Classical.byContradiction λhc=>hn ⟨hp,hc⟩
   refine⟨t,_,rfl,Qj,rfl,_,_,rfl,_,_,rfl,rfl,?_⟩;refine⟨_,rfl,r,_,_,_,rfl,rfl,S3.sm.tup v1,rfl,?_⟩;refine⟨_,rfl,d,_,rfl,cu.k (k:=Sum.inr ru.1) S3.hd,_,rfl,?_⟩;refine b_ (λc3=>?_) (λc3=>?_)
   .have nm:ru.1∉iH.map 87:=λh=>by rw [(S3.mem _).mpr h] at c3;exact absurd c3 nofun
    refine⟨_,rfl,r,_,_,_,rfl,rfl,S3.sm.tup v1,rfl,p,rfl,⟨_,S3.sm.tup v2⟩,λD2 jL=>vO rfl (S3.sm.tup v2) ∅ S3.hd jL λH8 P4 Ti=>?_⟩;have S4:=S3.same P4;refine⟨D2,_,rfl,aI.of Ti,_,rfl,?_⟩;refine b_ (λc4=>?_) (λc4=>?_)
    .have al:∀x∈ru.2,x∈iH.map 87:=λx hx=>(S4.mem x).mp (eG.mp c4 _ (iB hx));refine⟨_,rfl,_,rfl,r,_,_,_,rfl,rfl,S4.sm.tup v1,rfl,d,_,rfl,jZ.k (k:=Sum.inr ru.1) S4.hd (br ∅),?_⟩;have v1':aZ K (upd H8 d (.dK (bS gp (Sum.inr ru.1) (.bl true)))) r [.str ru.1,.ref p]:=iq S4.hd (S4.sm.tup v1);have O0:upd H8 d (.dK (bS gp (Sum.inr ru.1) (.bl true))) D=some (.lst (kK.map V.ref)):=by rw [aj (λz=>by have:=S4.hD;rw [z,S4.hd] at this;cases this)];exact S4.hD
     refine⟨_,rfl,.inl ⟨rfl,_,aI.of O0⟩,_,rfl,r,_,_,_,rfl,rfl,v1',rfl,_,rfl,qo,λt2 j9=>?_⟩;refine⟨D,_,_,rfl,rfl,(by rw [aj (aC O0 j9)];exact O0),219,?_⟩;have S5:=S4.more hD vA e1 nm al j9;exact⟨kK++[t2],iH++[(ru.1,i)],_,_,_,rfl,S5,by rw [a8];omega,λz=>by rw [a8] at z;simp at z;omega⟩
    refine⟨kK,iH,gp,_,_,rfl,S4,l2,kO λ⟨ha,_⟩=>c4 (eG.mpr λb hb=>?_)⟩;obtain⟨x,hx,rfl⟩:=bU.mp hb;exact(S4.mem x).mpr (ha x hx)
   refine⟨kK,iH,gp,_,_,rfl,S3,l2,kO λ⟨_,hn⟩=>c3 ?_⟩;cases hq:(a0 gp (Sum.inr ru.1)).isSome with
   | true=>exact absurd ((S3.mem _).mp hq) hn
   | false=>rfl
  rintro σ H6 ⟨kK,iH,gp,y4,y5,rfl,S2,l2,c2⟩;rw [ar,a7 cM] at c2;exact⟨kK,iH,gp,_,_,rfl,S2,l2,c2⟩
 have c':=of_decide_eq_false (rC.mpr c);rw [ar,lt] at c';exact⟨_,rfl,q D ts aL H5 hD S.sm S.hD S.ev S.emp (cl ∅)⟩
end
end hJ
namespace M11
open PySem L2
def uL (b:Str->Bool):z0t->Nat
 | []=>0
 | z::r=>if b z=true then uL b r+1 else 1
theorem Dm (b:Str->Bool):∀zs:z0t,(∀z∈zs,b z=true)->uL b zs=zs.length
 | [],_=>rfl
 | z::r,h=>by
  unfold uL;rw [aw (h z cS),Dm b r λx hx=>h x (cT _ hx)];rfl
theorem IQ (b:Str->Bool):∀(zs:z0t) (i:Nat)(z:Str),(∀x∈zs.take i,b x=true)->zs[i]?=some z->¬b z=true->uL b zs=i+1
 | y::r,0,z,_,e,n=>by
  cases e;unfold uL;rw [au n]
 | y::r,i+1,z,h,e,n=>by
  unfold uL;rw [aw (h y (by rw [rJ];exact cS)),IQ b r i z (λx hx=>h x (by rw [rJ];exact cT _ hx)) e n]
theorem BZ (b:Str->Bool):∀zs:z0t,uL b zs<=zs.length
 | []=>aG _
 | z::r=>by
  have:=BZ b r;unfold uL;rw [dI]
  split <;> omega
def cnt (n:Nat):List V:=(List.range n).map λk:Nat=>V.int (k:Int)
end M11
namespace hJ
open PySem L2 M11
section
def CB (K:bp):Sp:=λvs H Q _=>∃(R:Addr)(rs:z0q)(aa:88),vs=[.ref R]/\aI K H R 153/\bM K H rs aa/\aa.length<=1000/\329/\(aa.flatMap (·.2)).Nodup /\
 ∀H',aD H H'->Q .fu H'
def nJ:aK ["strengths","met","way","words","word"] ["strengths"] (ay AS):=163
def Hm (F:iz K "refuse_twice" "refuse_twice" AS f fd)(T:Txt mg):bR P w K mg base fI 1 f fd ["strengths"] (CB K):=by
 refine F.ok nJ 184 186
 .obtain⟨R,rs,aa,rfl,_⟩:=h;rfl
 obtain⟨R,rs,aa,rfl,hR,cM,bO,h8,Vn,q⟩:=h;have hu:=gh hr;refine⟨_,ag (aA (i:=1) nJ.nd rfl 90 fX)
  (ao (bJ bW rfl (aR 91) (gu rfl (az (aq (i:=2) nJ.nd rfl 90) (az (aq (i:=3) nJ.nd rfl 90) bE)))
   (ao (bJ bW rfl (eV (pv 3)) (aq (i:=4) nJ.nd rfl 90)
    (ag (cy (fC (kR hu (pv 4) (pv 1))) (ao iU) bf) (ao (fK hu (pv 1) (pv 4) fY rfl))))))),?_⟩
 nofun
 intro e he;have CO:∀o,aD H (upd H e o):=λo=>af he o;have ll:=a7 cM
 let yj:uh:=λi σ H5=>∃(kvs:93)(y3 y4 y5:Option V),σ=[aE R,aE e,y3,y4,y5]/\H5=upd H e (.dK kvs) /\
  kvs.map 87=((aa.take i).flatMap (·.2)).map Sum.inr
 refine⟨_,rfl,R,rfl,⟨_,(CO _).seq hR⟩,bQ (xs:=145) yj ⟨[],none,none,none,rfl,rfl,rfl⟩ ?_ ?_ ?_⟩
 .rintro i σ H5 _ ⟨kvs,y3,y4,y5,rfl,rfl,_⟩;exact(CO _).seq hR
 .rintro i x σ H5 ex ⟨kvs,y3,y4,y5,rfl,rfl,hk⟩
  ac_nf0
  rw [aX] at ex;obtain⟨r,er,rfl⟩:=bT.mp ex;obtain⟨ru,e1,p,v1,v2⟩:=cM.get er;have li:=(bu.mp e1).1;have O2:=h8 ru (cE e1);have eT:(aa.take (i+1)).flatMap (·.2)=(aa.take i).flatMap (·.2)++ru.2:=by
   rw [cK,e1,rG];simp
  have lA:((aa.take i).flatMap (·.2)).length<=8 * i:=jH (aa.take i) i (by rw [du];omega) λru ix=>h8 ru (uT ix);have H_:((aa.take i).flatMap (·.2)++ru.2).Nodup:=by
   have e2:aa.flatMap (·.2)=((aa.take i).flatMap (·.2)++ru.2)++(aa.drop (i+1)).flatMap (·.2):=by
    rw [<-eT,<-rG,List.take_append_drop]
   rw [e2] at Vn;exact(iN.mp Vn).1
  refine⟨r,_,rfl,(CO _).tup v1,rfl,_,_,rfl,_,_,rfl,rfl,?_⟩
  let Fe:uh:=λj σ H6=>∃(kvs:93)(y5:Option V),σ=[aE R,aE e,some (.str ru.1),aE p,y5]/\H6=upd H e (.dK kvs) /\
   kvs.map 87=((aa.take i).flatMap (·.2)++ru.2.take j).map Sum.inr
  refine⟨_,rfl,p,rfl,⟨_,(CO _).tup v2⟩,xT (xs:=ru.2.map V.str) Fe ⟨kvs,_,rfl,rfl,by rw [List.take_zero,dN];exact hk⟩ ?_ ?_ ?_⟩
  .rintro j σ H6 _ ⟨kvs,y5,rfl,rfl,_⟩;exact(CO _).tup v2
  .rintro j x σ H6 iM ⟨kvs,y5,rfl,rfl,EE⟩
   ac_nf0
   rw [aX] at iM;obtain⟨z,ez,rfl⟩:=bT.mp iM;have lj:=(bu.mp ez).1;have eS:ru.2.take (j+1)=ru.2.take j++[z]:=by rw [cK,ez];rfl
   have lk:kvs.length<=8 * i+8:=by
    have h1:=congrArg List.length EE;rw [ar,ar,a8,du] at h1;omega
   have nz:z∉(aa.take i).flatMap (·.2)++ru.2.take j:=λhz=>by
    have e3:(aa.take i).flatMap (·.2)++ru.2=((aa.take i).flatMap (·.2)++ru.2.take j)++([z]++ru.2.drop (j+1)):=by
     rw [iA,<-iA (ru.2.take j),<-eS,List.take_append_drop]
    rw [e3] at H_;exact(iN.mp H_).2.2 z hz z 144 rfl
   have nk:¬(140:aQ)∈kvs.map 87:=by rw [EE];exact λh=>nz (dr.mp h)
   refine⟨_,rfl,_,rfl,e,_,rfl,cu.k (k:=140) ae,_,rfl,?_⟩;refine b_ (λc=>absurd ((eQ kvs _).mp c) nk) (λ_=>?_);refine⟨_,rfl,_,rfl,e,_,rfl,jZ.k (k:=140) ae (br ∅),?_⟩;refine⟨bS kvs 150 (.bl true),_,rfl,by rw [nr],?_⟩;rw [i9 nk,EE,eS,<-iA];simp only [ba,cI,mn]
  rintro σ H6 ⟨kvs,y5,rfl,rfl,EE⟩;rw [ar,b0,<-eT] at EE;exact⟨kvs,_,_,_,rfl,rfl,EE⟩
 rintro σ H5 ⟨kvs,y3,y4,y5,rfl,rfl,hk⟩;exact q _ (CO _)
def yE (K:bp):Sp:=λvs H Q _=>∃(p d:Addr) (zs:z0t)(kvs:93),vs=[.ref p,.ref d]/\aZ K H p 203/\zs.length<=1000/\H d=188 /\
 ∀D H',H D=none->aD H H'->H' D=some (.lst (cnt (uL (λz=>(a0 kvs 150).isSome) zs)))->Q (.ref D) H'
def nK:aK ["parts","empty","places","place","part"] ["parts","empty"] (ay xm):=163
def Eb (F:iz K "first_places" "first_places" xm f fd)(T:Txt mg):bR P w K mg base fI 1 f fd ["parts","empty"] (yE K):=by
 refine F.ok nK 184 186
 .obtain⟨p,d,zs,kvs,rfl,_⟩:=h;rfl
 obtain⟨p,d,zs,kvs,rfl,hp,hz,hd,q⟩:=h;have hu:=gh hr;refine⟨_,ag (aA (i:=2) nK.nd rfl 90 (bK ak))
  (ag (bJ bW rfl (nW rfl T.LA (ab 91 ak)) (gu rfl (az (aq (i:=3) nK.nd rfl 90) (az (aq (i:=4) nK.nd rfl 90) bE)))
   (ag (cU (gZ gA iD iE cx (pv 2) (ab (pv 3) ak)))
   (ao (cy (fC (dD hu (pv 4) (pv 1))) (ao G1) bf))))
  (ao (bw (pv 2)))),?_⟩
 nofun
 refine⟨uq,λD hD=>?_⟩;have up1:∀n,cnt n++[V.int (n:Int)]=cnt (n+1):=λn=>by
  unfold cnt;rw [List.range_succ,ba];rfl
 refine⟨_,rfl,p,_,rfl,(af hD _).tup hp,?_⟩
 let Uz:uh:=λi σ H5=>∃(y3 y4:Option V),σ=[aE p,aE d,aE D,y3,y4]/\aD H H5/\H5 D=some (.lst (cnt i))/\∀z∈zs.take i,(a0 kvs 150).isSome=true
 refine pI (xs:=154) Uz
  ⟨none,none,rfl,af hD _,ae,92⟩ ?_ ?_ ?_
 .rintro i σ H5 _ ⟨y3,y4,rfl,sm,_⟩;exact sm.tup hp
 .rintro i x σ H5 t ex ⟨y3,y4,rfl,sm,Tj,qy⟩ ht
  ac_nf0
  rw [aX] at ex;obtain⟨z,ez,rfl⟩:=bT.mp ex;have li:=(bu.mp ez).1;have jt:=sm.trans (af ht (.tup [155,.str z]));have jL:upd H5 t (.tup [155,.str z]) D=some (.lst (cnt i)):=by rw [aj (aC Tj ht)];exact Tj
  have hv:aZ K (upd H5 t (.tup [155,.str z])) t [155,.str z]:=aZ.of ae;generalize upd H5 t (.tup [155,.str z])=H6 at jt jL hv;have P5:aD H (upd H6 D (.lst (cnt i++[V.int (i:Int)]))):=λb o hb=>by
   rw [330];exact jt b o hb
  refine⟨t,_,rfl,hv,rfl,_,_,rfl,_,_,rfl,rfl,?_⟩;refine⟨_,rfl,.inl ⟨rfl,_,aI.of jL⟩,_,rfl,D,_,_,rfl,rfl,jL,br (by unfold cnt;rw [ar,qY];omega),?_⟩;refine⟨_,rfl,_,rfl,d,_,rfl,cu.k (k:=140) (P5 _ _ hd),_,rfl,?_⟩;refine 246
  .refine⟨_,rfl,q D _ hD P5 ?_⟩;rw [ae,up1,IQ _ zs i z qy ez (λh=>by rw [h] at c;exact absurd c nofun)]
  refine⟨_,_,rfl,P5,by rw [ae,up1],λx hx=>?_⟩;rw [cK,ez] at hx;rcases bP.mp hx with h | h
  .exact qy x h
  rw [Option.toList_some,bB] at h;subst h;cases hq:(a0 kvs (Sum.inr x)).isSome with
  | true=>rfl
  | false=>exact absurd (by rw [hq];rfl) c
 rintro σ H5 ⟨y3,y4,rfl,sm,Tj,qy⟩;rw [ar] at Tj qy;rw [b0] at qy;exact⟨_,rfl,q D _ hD sm (by rw [Dm _ zs qy];exact Tj)⟩
end
end hJ
namespace L2
open PySem
section
variable {prog:Program}{w:World}{K:Type} [DecidableEq K] {knd:KeyKind prog w K}{A:Around}{E:z0b}
def uN {s:Shared}{d l:Addr}{items:z0l}{n:Nat}{kvs more:List (K×Value)}{Q:z0b}(hh:A.handled=none)(vA:s.heap.DictOf knd d kvs)(hx:s.heap.get? l=some { cls:=.type "list",data:=.seq items n })
  (hi:items.size=more.length)(hp:∀(m:Nat) kv,more[m]?=some kv->∃u,items[m]?=some u/\mZ knd s.heap u kv)(hz:kvs.length+more.length<=sizeLine)
  (h:∀h' t',h'.DictOf knd d (more.foldl (λa p=>stored a p.1 p.2) kvs)->(∀b o,b≠d->185->h'.get? b=some o)->Q .none { s with heap:=h',toks:=t' }) :
  wpAny 158 A (call (.builtin "dict.update") [.ref d,.ref l]) Q E s:=by
 refine kn (wy Ay.plain PySem.F.entry_dict_update (Ay.check _ _ _ _ _ _ _ _ vA.typeIs (PySem.F.args_dict_update_2 _ _) ?_));unfold Builtin.«dict.update»;refine aB ?_;unfold Builtin.Dict.selfAndRest;refine aB (wC vA.typeIs ?_);show wpAny _ _ (pure (d,[Value.ref l])) _ _ s;refine aH ?_;show wpAny _ _ (Builtin.Dict.updateFrom "dict.update" d (.ref l) [] .none) _ _ s;unfold Builtin.Dict.updateFrom;refine aB (jb (T := "list") ⟨_,hx,rfl⟩ ?_);rw [aw AI];refine aB (pC hx hh λh1 t1 k1=>?_);refine aB (kq ?_);have l1:=k1 _ _ hx;refine aB (oP ⟨_,l1,rfl,_,rfl⟩ ?_);have k2:∀b o,185->(h1.push { cls:=.type "list_iterator",data:=.fields #[.ref l,.int 0 0] }).get? b=some o:=λb o q=>cg _ (k1 _ _ q);refine aH ⟨kx gk _,I8 (knd:=knd) (A:=A) (l:=l) (items:=items) hh more 0 _ kvs _ _ (by rw [hi,oH]) ?_ ⟨_,dB _ rfl,rfl,rfl⟩ ⟨_,k2 _ _ hx,rfl,n,rfl⟩ (λm kv e=>?_) hz λh' t' hd k3=>?_⟩
 .obtain⟨o,es,ep,q,r⟩:=vA;exact⟨o,es,ep,k2 _ _ q,r⟩
 .obtain⟨u,e1,e2⟩:=hp m kv e;exact⟨u,by rw [oH];exact e1,e2.keep λb o _ q=>k2 b o q⟩
 exact h h' t' hd λb o n q=>k3 b o n (bV (bD (k1 _ _ q))) (k2 b o q)
end
section
variable {X:Cx}{o e:Expr}{apos g9:Pos}{td ty:TE}
def Rb (K:bp)(td ty:TE):TE:=λσ H Q=>td σ H λx H1=>∃a,x=.ref a/\V_ H1 a/\ty σ H1 λy H2=>∃l ts kvs more,y=.ref l/\H2 a=188/\H2 l=some 222 /\
 Paired (λt kv=>aZ K H2 t [kV kv.1,kv.2]) ts more/\kvs.length+more.length<=sizeLine/\Q .fu (upd H2 a (.dK (dw more kvs)))
def Kx (hc:X.calm=true)(ho:PE X o td)(he:PE X e ty)(m:M1 X o "update" apos e g9):PE X (.Call (.Attribute o "update" apos) [e] [] g9) (Rb X.K td ty):=by
 intro ai s σ H Q I h;refine wpAny_Call_method m.base m.qe m.line Av Ay PySem.F.type_dict_update (dC (ho ai s σ H _ I h) λu s1 bI=>?_);obtain⟨x,H1,I1,rx,a,ex,d,q1⟩:=bI;subst ex;obtain rfl:u=Value.ref a:=rx;obtain⟨t1,t2,_⟩:=BK I1 d;refine⟨t1,t2,?_⟩;rw [m.trees];refine rM rfl (wo (oS (dC (he ai s1 σ H1 _ I1 q1) λiv s2 bI=>?_)));obtain⟨y,H2,I2,ry,l,ts,kvs,more,ey,ea,el,p,hz,q2⟩:=bI;refine Calls.spliced_nil ?_;subst ey;cases (show iv=Value.ref l from ry);obtain⟨z,qw,vs,rel,dd⟩:=vK I2.cw ea;obtain⟨z2,aV,n,rv,hl⟩:=(show cQ X.prog X.w H2 s2.heap l (.lst _) from I2.cw l _ el);obtain⟨ms,r1,r2⟩:=pairs_at I2 p rv;have l1:=a7 r2;have l2:=r1.length;have l3:=a7 p;refine uN (I2.ok.hd hc) dd hl (by simpa using l1) (λm kv em=>?_) (by rw [<-rel.length,<-l2];exact hz) λh' t' hd kk=>?_
 .obtain⟨u,e1,e2⟩:=Paired.at_ r2 m kv em;exact⟨u,by simpa using e1,e2⟩
 have hn:(dw more kvs).length<=sizeLine:=fJ (tL more kvs) hz;have he:∃q,h'.get? a=some q:=let ⟨q,_,_,hq,_⟩:=hd;⟨q,hq⟩;exact⟨.fu,_,I2.write (x:=a) (e:=a) (by rw [ea];exact True.intro) (.inl rfl) (λb q hb z=>kk b q hb z) he (tR hn qw (tK r1 rel) hd),rfl,q2⟩
def vR {X:Cx}:i0 X (.builtin "len") (λxs H Q=>∃a kvs,xs=[.ref a]/\H a=188/\Q (.int kvs.length) H):=by
 intro ai s σ H xs us Q I r h;obtain⟨a,kvs,rfl,e,q⟩:=h;obtain⟨u,rfl,rx⟩:=vals1 r;cases (show u=Value.ref a from rx);exact T_ I (.inl e) λt s' I'=>⟨.int _,H,I',157,q⟩
end
theorem zt:∀{us:z0n}{ns:z0u},PyProof.Rows.IntsAre us ns->∀ys:List (Int×Tok),us=ys.map (λp=>Value.int p.1 p.2)->ys.map 87=ns
 | _,_,.nil,ys,e=>by
  cases ys with
  | nil=>rfl
  | cons _ _=>cases e
 | _,_,.cons n t h,ys,e=>by
  cases ys with
  | nil=>cases e
  | cons y r =>
   rw [cI] at e;injection e with e1 e2;injection e1 with e3 e4;rw [cI,zt h r e2,e3]
def lJ {X:Cx}(hc:X.calm=true):i0 X (.builtin "sum") (λxs H Q=>∃a ns,xs=[.ref a]/\aI X.K H a (List.map V.int ns)/\Q (.int ns.sum) H):=by
 intro ai s σ H xs us Q I r h;obtain⟨a,ns,rfl,hq,q⟩:=h;obtain⟨u,rfl,rx⟩:=vals1 r;cases rx;obtain⟨aV,rv,pl,hz⟩:=I.list hq;have hi:=intsAre_of rv;have qy:AllInts aV.toArray:=hi.allInts;obtain⟨xs,e⟩:=qy.items;have hl:=pl.isList;rw [e] at hl;refine sum_intListG (I.ok.hd hc) hl λh' tk t' hk=>⟨.int _,H,I.kept hk,157,?_⟩;have e5:xs.toList.map 87=ns:=zt hi xs.toList (by
  have:=congrArg Array.toList e;simpa [intItems] using this)
 have e6:preSum (numAt xs) xs.size=ns.sum:=by
  rw [preSum_eq,e5,rO (by rw [<-e5];simp)]
 rw [e6];exact q
def zJ {K:bp}{H:Hp}{p D:Addr}{zs:z0t}{σ:St}{v:V}{x:Str}{Qp:Hp->Prop}(hp:aZ K H p 203)(hz:zs.length<=1000)(hD:H D=none)
  (q:∀ts H2,aD H H2->H2 D=some 222->Paired (λt h=>aZ K H2 t [.str h,v]) ts zs->Qp H2) :
  ∃W:241,(∃m,W 0 m [] (dP [x] [] σ) 227) /\
 ∀i m ys σ' H,W i m ys σ' H->((ox K p).stop i H/\Qp H)\/((ox K p).go i H/\∃m',m' < m/\∀x H',(ox K p).lV i H x H'->dF 0 x σ' H' λσ2 H2=>hX σ2 H2 λb H3 =>
  if b=true then uA (gT (gN 0) (gT (tC v) qp)) σ2 H3 239 else 257):=by
 refine gL (xs:=154) (λi ys σ2 H2=>∃ts:z0q,ys=ts.map V.ref/\ts.length=i/\Paired (λt h=>aZ K H2 t [.str h,v]) ts (zs.take i)/\(∃y0,σ2=[y0])/\370)
  ⟨[],rfl,rfl,.nil,⟨none,rfl⟩,af hD _,ae⟩ (λi ys σ2 H2 _ h=>?_) (λi x ys σ2 H2 ex h=>?_) (λys σ2 H2 h=>?_)
 .obtain⟨_,_,_,_,_,sm,_⟩:=h;exact sm.tup hp
 .obtain⟨ts,rfl,ht,jW,⟨y0,rfl⟩,sm,hd⟩:=h;rw [aX] at ex;obtain⟨z,ez,rfl⟩:=bT.mp ex;have li:=(bu.mp ez).1;refine goN (uJ ?_);refine⟨_,rfl,qo,λt j9=>⟨?_,219,ts++[t],?_,?_,?_,157,?_,ae⟩⟩
  .rw [aj (aC hd j9)];exact hd
  .rw [ba];rfl
  .rw [a8,ht];rfl
  .rw [cK,ez];have i5:upd H2 t (.tup [.str z,v]) D=some 222:=by rw [aj (aC hd j9)];exact hd
   exact fc (Paired.b9 jW λt' h' z=>bz i5 ((af j9 _).tup z)) (bz i5 (aZ.of ae))
  intro b o hb;rw [330];exact af j9 _ _ _ (sm b o hb)
 obtain⟨ts,rfl,ht,jW,_,sm,hd⟩:=h;rw [ar,b0] at jW;exact q ts H2 sm hd jW
end L2
namespace M11
open PySem L2
def jJ (a:z0t)(h x:Str):x∈gP a h↔x∈a\/x=h:=by
 unfold gP;split
 .constructor
  .exact .inl
  rintro(z | rfl) <;> assumption
 simp
def qW {a:z0t}(h:Str)(n:a.Nodup):(gP a h).Nodup:=by
 unfold gP;split
 .exact n
 rename_i q
 refine iN.mpr ⟨n,92,λx hx y hy=>?_⟩;rw [bB.mp hy];exact λz=>q (z ▸ hx)
def Dx (a:z0t)(h:Str):a.length<=(gP a h).length:=by
 unfold gP;split <;> simp
def LW {a:z0t}{h:Str}(e:(gP a h).length=a.length):gP a h=a:=by
 unfold gP at e ⊢;split
 .rfl
 rename_i q
 rw [au q,a8] at e;simp at e
theorem il:∀(hs bY:z0t)(x:Str),x∈xY bY hs↔x∈bY\/x∈hs
 | [],bY,x=>by simp [xY]
 | h::r,bY,x=>by
  show x∈xY (gP bY h) r↔_;rw [il r,jJ,b8,or_assoc]
theorem pK:∀(hs:z0t){bY:z0t},bY.Nodup->(xY bY hs).Nodup
 | [],_,n=>n
 | h::r,_,n=>pK r (qW h n)
theorem Ca:∀(hs bY:z0t),bY.length<=(xY bY hs).length
 | [],_=>aG _
 | h::r,bY=>fJ (Dx bY h) (Ca r _)
theorem I_:∀(hs bY:z0t),(xY bY hs).length=bY.length->xY bY hs=bY
 | [],_,_=>rfl
 | h::r,bY,e=>by
  have h1:=Dx bY h;have h2:=Ca r (gP bY h);have e':(xY (gP bY h) r).length=bY.length:=e;show xY (gP bY h) r=bY;rw [I_ r _ ∅];exact LW ∅
inductive PN (aa:88)(s:Str):Str->Prop
 | start:PN aa s s
 | step {ru:ax}{x:Str}:PN aa s ru.1->ru∈aa->x∈ru.2->PN aa s x
def Fc (aa:88) (n:Nat) (ms:z0t):Prop:=∀ru∈aa.take n,ru.1∈ms->∀x∈ru.2,x∈ms
def PN.among {aa:88}{s x:Str}(h:PN aa s x):x∈s::aa.flatMap (·.2):=by
 cases h with
 | start=>exact cS
 | step _ h1 h2=>exact cT _ (jm.mpr ⟨_,h1,h2⟩)
end M11
namespace hJ
open PySem L2 M11
section
def Mm (K:bp):Sp:=λvs H Q _=>∃(R:Addr)(rs:z0q)(aa:88)(je:ax),vs=[.ref R]/\aI K H R 153/\bM K H rs aa/\aa[0]?=some je/\aa.length<=1000/\329 /\
 ∀d kvs ms H',H d=none->aD H H'->H' d=188->kvs.map 87=ms.map Sum.inr->je.1∈ms->(∀x∈ms,PN aa je.1 x)->Fc aa aa.length ms->Q (.ref d) H'
def ve:aK ["rules","met","many","head","parts"] ["rules"] (ay NM):=163
structure QM (K:bp)(aa:88)(s0:Str)(H H5:Hp)(d:Addr) (ms:z0t)(kvs:93):Prop where
 sm:aD H H5
 hd:H5 d=188
 keys:kvs.map 87=ms.map Sum.inr
 nd:ms.Nodup
 st:s0∈ms
 U4:∀x∈ms,PN aa s0 x
def QM.len {aa:88}{s0:Str}{H H5:Hp}{d:Addr}{ms:z0t}{kvs:93}(h:QM K aa s0 H H5 d ms kvs)(hl:aa.length<=1000)(h8:∀ru∈aa,ru.2.length<=8):kvs.length=ms.length/\ms.length<=8001:=by
 refine⟨?_,?_⟩
 .have:=congrArg List.length h.keys;simpa using this
 have h1:=iL ms _ h.nd λx hx=>(h.U4 x hx).among;have h2:=jH aa 1000 hl h8;rw [dI] at h1;omega
def Oh (F:iz K "names_met" "names_met" NM f fd)(T:Txt mg):bR P w K mg base fI 1 f fd ["rules"] (Mm K):=by
 refine F.ok ve 184 186
 .obtain⟨R,rs,aa,je,rfl,_⟩:=h;rfl
 obtain⟨R,rs,aa,je,rfl,hR,cM,Ll,bO,h8,q⟩:=h;have hu:=gh hr;refine⟨_,ag (aA (i:=1) ve.nd rfl 90 (Ky (G5 (a_ bF (a_ cO 91 av 142) av 142) fY Ks) rfl rfl 144 (show 1<=15 by decide)))
  (ag (aA (i:=2) ve.nd rfl 90 av)
  (ag (iw bW (bc lX (pv 2) (aP vR rfl T.len d_ (ab (pv 1) ak)) (cA _))
   (ag (aA (i:=2) ve.nd rfl 90 (aP vR rfl T.len d_ (ab (pv 1) ak)))
   (ao (bJ bW rfl (aR 91) (gu rfl (az (aq (i:=3) ve.nd rfl 90) (az (aq (i:=4) ve.nd rfl 90) bE)))
    (ao (cy (fC (kR hu (pv 3) (pv 1)))
     (ao (cU (Kx rfl (pv 1) (aT ["part"] [] rfl (eV (pv 4)) 162 nofun rfl nofun
       (λ_ _ _ _ _=>aq (i:=0) (show (["part"]:z0t).Nodup by decide +kernel) rfl 90) 220 (λ_ _ _ _ _=>bX (ab 91 (ab fY ak)))) ⟨rfl,rfl,rfl,rfl⟩))) bf))))))
  (ao (bw (pv 1))))),?_⟩
 nofun
 intro d hd;have ll:=a7 cM;have l0:=(bu.mp Ll).1;obtain⟨r0,VI⟩:∃r,rs[0]?=some r:=⟨rs[0]'∅,cZ ∅⟩;obtain⟨aaq,e0,p0,w1,w2⟩:=cM.get VI;rw [Ll] at e0;cases e0;have sm0:=af hd (.dK []);refine⟨_,rfl,R,_,_,.ref r0,rfl,rfl,sm0.seq hR,?_,r0,_,_,_,rfl,rfl,sm0.tup w1,rfl,?_⟩
 .have e7:153[0]?=some (.ref r0):=by rw [aX,VI];rfl
  exact cH (j:=0) e7
 refine⟨ae,[((Sum.inr je.1:aQ),.bl true)],rfl,(by show 1<=15;decide),?_⟩;have S0:QM K aa je.1 H (upd (upd H d (.dK [])) d (.dK (mM [] [((Sum.inr je.1:aQ),.bl true)]))) d [je.1] [((Sum.inr je.1:aQ),.bl true)]:=by
  rw [nr];exact⟨af hd _,ae,rfl,92,92,λx hx=>by rw [bB.mp hx];exact .start⟩
 generalize upd (upd H d (.dK [])) d (.dK (mM [] [((Sum.inr je.1:aQ),.bl true)]))=H0 at S0;refine⟨λm σ H5=>∃(ms:z0t)(kvs:93) (many:Int)(y3 y4:Option V),σ=[aE R,aE d,some (.int many),y3,y4]/\QM K aa je.1 H H5 d ms kvs/\0<=many/\many<=ms.length/\(many=ms.length->Fc aa aa.length ms)/\(m:Int)=8002 - many,
  ⟨8002,[je.1],_,0,none,none,rfl,S0,∅,92,92,∅⟩,?_⟩
 rintro m σ H5 ⟨ms,kvs,many,y3,y4,rfl,S,b1,b2,cl,em⟩;obtain⟨lk,lm⟩:=S.len bO h8;refine⟨_,rfl,_,rfl,d,_,rfl,S.hd,_,_,rfl,rfl,_,rfl,?_⟩;refine 246
 .have c':=cR c;rw [lk] at c';refine⟨λσ H5=>∃(qM:z0t)(gp:93)(y3 y4:Option V),σ=[aE R,aE d,some (.int (ms.length:Int)),y3,y4]/\QM K aa je.1 H H5 d qM gp/\ms.length<=qM.length/\(qM.length=ms.length->Fc aa aa.length qM),?_,?_⟩
  .rintro σ H6 ⟨qM,gp,y3,y4,rfl,S2,l2,c2⟩;exact⟨(8002 - ms.length:Int).toNat,∅,qM,gp,_,_,_,rfl,S2,∅,∅,λz=>c2 ∅,∅⟩
  refine⟨_,rfl,d,_,rfl,S.hd,?_⟩;rw [lk];refine⟨_,rfl,R,rfl,⟨_,S.sm.seq hR⟩,?_⟩;refine bQ (xs:=145) (λi σ H6=>∃(qM:z0t)(gp:93)(y3 y4:Option V),σ=[aE R,aE d,some (.int (ms.length:Int)),y3,y4]/\QM K aa je.1 H H6 d qM gp/\ms.length<=qM.length/\(qM.length=ms.length->Fc aa i qM))
   ⟨ms,kvs,_,_,rfl,S,aG _,λ_ ru ix=>by simp at ix⟩ ?_ ?_ ?_
  .rintro i σ H6 _ ⟨qM,gp,y3,y4,rfl,S2,_⟩;exact S2.sm.seq hR
  .rintro i x σ H6 ex ⟨qM,gp,y3,y4,rfl,S2,l2,c2⟩
   ac_nf0
   rw [aX] at ex;obtain⟨r,er,rfl⟩:=bT.mp ex;obtain⟨ru,e1,p,v1,v2⟩:=cM.get er;have O2:=h8 ru (cE e1);have tk:aa.take (i+1)=aa.take i++[ru]:=by rw [cK,e1];rfl
   obtain⟨Vc,lm2⟩:=S2.len bO h8;have mem:(a0 gp (Sum.inr ru.1)).isSome=true↔ru.1∈qM:=by rw [eQ,S2.keys];exact dr
   refine⟨r,_,rfl,S2.sm.tup v1,rfl,_,_,rfl,_,_,rfl,rfl,?_⟩;refine⟨_,rfl,_,rfl,d,_,rfl,cu.k (k:=Sum.inr ru.1) S2.hd,_,rfl,?_⟩;refine b_ (λc3=>?_) (λc3=>?_)
   .have im:=mem.mp c3;refine⟨_,rfl,d,rfl,.inl ⟨_,.inl S2.hd⟩,_,rfl,p,rfl,⟨_,S2.sm.tup v2⟩,λD2 jL=>zJ (S2.sm.tup v2) ∅ jL λts H8 P4 Ti hp8=>?_⟩;have kp:Paired (λt (kv:aQ×V)=>aZ K H8 t [kV kv.1,kv.2]) ts (ru.2.map λh=>((Sum.inr h:aQ),V.bl true)):=c_ hp8 λ_ _ z=>z;refine⟨D2,ts,gp,_,rfl,P4 _ _ S2.hd,Ti,kp,fits (by rw [ar];omega),?_⟩;have aaB:=Ca ru.2 qM;refine⟨xY qM ru.2,dw (ru.2.map λh=>((Sum.inr h:aQ),V.bl true)) gp,_,_,rfl,⟨λb o hb=>?_,ae,nZ ru.2 gp qM S2.keys,pK ru.2 S2.nd,(il ru.2 qM _).mpr (.inl S2.st),λx hx=>?_⟩,∅,λz A9 tq hh=>?_⟩
    .rw [aj (λz=>by rw [z,hd] at hb;cases hb)];exact P4 _ _ (S2.sm b o hb)
    .rcases (il ru.2 qM x).mp hx with h | h
     .exact S2.U4 x h
     exact .step (S2.U4 _ im) (cE e1) h
    have e9:=I_ ru.2 qM ∅;rw [e9] at hh ⊢;rw [tk] at tq;rcases bP.mp tq with h | h
    .exact c2 ∅ A9 h hh
    rw [bB.mp h];intro x hx;rw [<-e9];exact(il ru.2 qM x).mpr (.inr hx)
   refine⟨qM,gp,_,_,rfl,S2,l2,λz A9 tq hh=>?_⟩;rw [tk] at tq;rcases bP.mp tq with h | h
   .exact c2 z A9 h hh
   rw [bB.mp h] at hh;exact absurd (mem.mpr hh) c3
  rintro σ H6 ⟨qM,gp,y3,y4,rfl,S2,l2,c2⟩;rw [ar,ll] at c2;exact⟨qM,gp,_,_,rfl,S2,l2,c2⟩
 have c':=of_decide_eq_false (rC.mpr c);rw [lk] at c';exact⟨_,rfl,q d kvs ms H5 hd S.sm S.hd S.keys S.st S.U4 (cl ∅)⟩
end
end hJ
namespace M11
open PySem L2
abbrev G:=Str->z0p
def dO (g:G)(h:Str) (n:Int):G:=λz=>if z=h then some n else g z
def aM (g:G)(ru:ax):Int:=1+(ru.2.map λp=>(g p).getD 0).sum
def k_ (g:G)(ru:ax):Bool:=ru.2.all λp=>(g p).isSome
def cW (bt:Int->Int->Bool)(g:G)(ru:ax):Bool:=k_ g ru && (!(g ru.1).isSome || bt (aM g ru) ((g ru.1).getD 0))
def sstep (bt:Int->Int->Bool)(a:G×Bool)(ru:ax):G×Bool:=if cW bt a.1 ru=true then (dO a.1 ru.1 (aM a.1 ru),true) else a
def uB (bt:Int->Int->Bool)(aa:88)(g:G):G×Bool:=aa.foldl (sstep bt) (g,false)
inductive dZ (bt:Int->Int->Bool)(aa:88):G->G->Prop
 | refl {g:G}:dZ bt aa g g
 | step {g g1:G}{ru:ax}:dZ bt aa g g1->ru∈aa->cW bt g1 ru=true->dZ bt aa g (dO g1 ru.1 (aM g1 ru))
def iI (bt:Int->Int->Bool)(aa:88)(g:G):Prop:=∀ru∈aa,cW bt g ru=false
def pS (bt:Int->Int->Bool)(aa:88):Nat->G->Prop
 | 0,g=>(uB bt aa g).2=false
 | n+1,g=>(uB bt aa g).2=false\/pS bt aa n (uB bt aa g).1
def dZ.trans {bt:Int->Int->Bool}{aa:88}{g g1 g2:G}(h:dZ bt aa g g1)(k:dZ bt aa g1 g2):dZ bt aa g g2:=by
 induction k with
 | refl=>exact h
 | step _ a b ih=>exact .step ih a b
theorem tH (bt:Int->Int->Bool)(aa:88):∀(l:88)(a:G×Bool),(∀ru∈l,ru∈aa)->dZ bt aa a.1 (l.foldl (sstep bt) a).1
 | [],a,_=>.refl
 | ru::l,a,h=>by
  have ih:=tH bt aa l (sstep bt a ru) λx hx=>h x (cT _ hx);refine dZ.trans ?_ ih;unfold sstep;by_cases c:cW bt a.1 ru=true
  .rw [aw c];exact .step .refl (h ru cS) c
  rw [au c];exact .refl
theorem vB (bt:Int->Int->Bool):∀(l:88)(a:G×Bool),a.2=true->(l.foldl (sstep bt) a).2=true
 | [],a,h=>h
 | ru::l,a,h=>by
  refine vB bt l (sstep bt a ru) ?_;unfold sstep
  split
  .rfl
  exact h
theorem tJ (bt:Int->Int->Bool):∀(l:88)(a:G×Bool),(l.foldl (sstep bt) a).2=false->(l.foldl (sstep bt) a).1=a.1/\∀ru∈l,cW bt a.1 ru=false
 | [],a,_=>⟨rfl,λ_ h=>nomatch h⟩
 | ru::l,a,h=>by
  by_cases c:cW bt a.1 ru=true
  .have e:sstep bt a ru=(dO a.1 ru.1 (aM a.1 ru),true):=aw c;have h':(l.foldl (sstep bt) (sstep bt a ru)).2=false:=h;rw [e,vB bt l _ rfl] at h';cases h'
  have e:sstep bt a ru=a:=au c;have h':(l.foldl (sstep bt) (sstep bt a ru)).2=false:=h;rw [e] at h';obtain⟨i1,i2⟩:=tJ bt l a h';refine⟨by rw [List.foldl_cons,e];exact i1,λA9 hr=>?_⟩;rcases b8.mp hr with z | z
  .rw [z];exact rC.mpr c
  exact i2 A9 z
end M11
namespace L2
open PySem M11
def gE.tup {K:bp}{H H':Hp}{d a:Addr}{kvs:93}{xs:List V}(s:gE d H H')(hd:H d=188)(h:aZ K H a xs):aZ K H' a xs:=by
 rcases h with (h | ⟨u,h⟩) | h
 .exact .inl (.inl (s _ _ (λz=>by rw [z,hd] at h;cases h) h))
 .exact .inl (.inr ⟨u,s _ _ (λz=>by rw [z,hd] at h;cases h) h⟩)
 exact .inr h
def gE.seq {K:bp}{H H':Hp}{d a:Addr}{kvs:93}{xs:List V}(s:gE d H H')(hd:H d=188)(h:aI K H a xs):aI K H' a xs:=by
 rcases h with (h | ⟨u,h⟩) | h
 .exact .inl (.inl (s _ _ (λz=>by rw [z,hd] at h;cases h) h))
 .exact .inl (.inr ⟨u,s _ _ (λz=>by rw [z,hd] at h;cases h) h⟩)
 exact .inr h
def EY {K:bp}{H:Hp}{p D d:Addr}{zs:z0t}{kvs:93}{g:G}{σ:St}{js:z0j}{Qp:Hp->Prop}(hσ:dP ["part"] js σ=[none,aE d])(hp:aZ K H p 203)(hz:zs.length<=1000)
  (hd:H d=188)(hv:∀z,a0 kvs 150=(g z).map V.int)(ha:∀z∈zs,(g z).isSome=true)(hD:H D=none)(q:∀H2,aD H H2->H2 D=some (.lst ((zs.map λz=>(g z).getD 0).map V.int))->Qp H2) :
  ∃W:241,(∃m,W 0 m [] (dP ["part"] js σ) 227) /\
 ∀i m ys σ' H,W i m ys σ' H->((ox K p).stop i H/\Qp H)\/((ox K p).go i H/\∃m',m' < m/\∀x H',(ox K p).lV i H x H'->dF 0 x σ' H' λσ2 H2=>hX σ2 H2 λb H3 =>
  if b=true then Ct (gN 1) (gN 0) σ2 H3 239 else 257):=by
 refine gL (xs:=154) (λi ys σ2 H2=>ys=(((zs.take i).map λz=>(g z).getD 0).map V.int)/\(∃y0,σ2=[y0,aE d])/\370)
  ⟨rfl,⟨none,hσ⟩,af hD _,ae⟩ (λi ys σ2 H2 _ h=>h.2.2.1.tup hp) (λi x ys σ2 H2 ex h=>?_) (λys σ2 H2 h=>?_)
 .obtain⟨rfl,⟨y0,rfl⟩,sm,hd2⟩:=h;rw [aX] at ex;obtain⟨z,ez,rfl⟩:=bT.mp ex;have li:=(bu.mp ez).1;obtain⟨n,en⟩:=ni.mp (ha z (cE ez));have hg:cu H2 d (.str z) (some (.int n)):=by
   have:=cu.k (k:=140) (sm _ _ hd);rw [hv,en] at this;exact this
  refine goN (uJ ?_);refine⟨_,rfl,_,rfl,d,_,rfl,hg,hd2,br (by rw [ar,ar,du];omega),?_,157,?_,ae⟩
  .rw [cK,ez,ba,ba];show _=_++[V.int ((g z).getD 0)];rw [en];rfl
  intro b o hb;rw [330];exact sm b o hb
 obtain⟨rfl,_,sm,hd2⟩:=h;rw [ar,b0] at hd2;exact q H2 sm hd2
end L2
namespace hJ
open PySem L2 M11
section
def iP (K:bp)(q:Str)(params:Arguments)(body:Expr)(scope:Scope)(bt:Int->Int->Bool):Sp:=λvs H Q _=>∃(R:Addr)(rs:z0q)(aa:88)(d fl c':Addr)(pm gO:Value)(kvs:93) (ks:z0t)(g:G),
 vs=[.ref R,.ref d,.ref fl]/\aI K H R 153/\bM K H rs aa/\aa.length<=1000/\329/\H d=188/\kvs.map 87=ks.map Sum.inr/\ks.Nodup/\ks.length<=10000 /\
 (∀z,a0 kvs 150=(g z).map V.int)/\(∃n,pS bt aa n g)/\H fl=some (pj fl (PySem.W.kla_obj "<lambda>" q params body scope [] pm c' gO))/\H c'=some (j_ c' q) /\
 ∀(mQ:93) (Sg:z0t)(g':G)(H':Hp),gE d H H'->H' d=some (.dK mQ)->mQ.map 87=Sg.map Sum.inr->(∀z,a0 mQ 150=(g' z).map V.int)->dZ bt aa g g'->iI bt aa g'->mQ.length<=20000->Q (.ref d) H'
def iQ:aK ["rules","sizes","better","changed","head","parts","size"] ["rules","sizes","better"] (ay nQ):=163
structure FD (K:bp)(aa:88) (JF:z0t)(H H5:Hp)(d:Addr)(kvs:93) (ks:z0t)(g:G):Prop where
 sm:gE d H H5
 hd:H5 d=188
 keys:kvs.map 87=ks.map Sum.inr
 nd:ks.Nodup
 sub:∀x∈ks,x∈JF++aa.map 87
 val:∀z,a0 kvs 150=(g z).map V.int
def FD.len {aa:88}{JF:z0t}{H H5:Hp}{d:Addr}{kvs:93}{ks:z0t}{g:G}(h:FD K aa JF H H5 d kvs ks g):kvs.length<=JF.length+aa.length:=by
 have h1:=congrArg List.length h.keys;have h2:=iL ks _ h.nd h.sub;rw [a8,ar] at h2;rw [ar,ar] at h1;omega
def FD.same {aa:88}{JF:z0t}{H H5 H6:Hp}{d:Addr}{kvs:93}{ks:z0t}{g:G}(h:FD K aa JF H H5 d kvs ks g)(s:aD H5 H6):FD K aa JF H H6 d kvs ks g :=
 ⟨λb o n e=>s _ _ (h.sm b o n e),s _ _ h.hd,h.keys,h.nd,h.sub,h.val⟩
def FD.put {aa:88}{JF:z0t}{H H5:Hp}{d:Addr}{kvs:93}{ks:z0t}{g:G}(h:FD K aa JF H H5 d kvs ks g){ru:ax}(hr:ru∈aa) (n:Int) :
  FD K aa JF H (upd H5 d (.dK (bS kvs (Sum.inr ru.1) (.int n)))) d (bS kvs (Sum.inr ru.1) (.int n)) (gP ks ru.1) (dO g ru.1 n):=by
 refine⟨λb o nb e=>by rw [aj nb];exact h.sm b o nb e,ae,iX h.keys ru.1,qW ru.1 h.nd,λx hx=>?_,λz=>?_⟩
 .rcases (jJ ks ru.1 x).mp hx with z | z
  .exact h.sub x z
  rw [z];exact dJ _ (iB hr)
 rw [rV];unfold dO;by_cases c:z=ru.1
 .rw [aw c,aw (by rw [c])];rfl
 rw [au c,au (λe=>c (kr e)),h.val]
def vo (F:iz K "settled_sizes" "settled_sizes" nQ f fd)(T:Txt mg){q:Str}{params:Arguments}{body:Expr}{scope:Scope}{bt:Int->Int->Bool}{te:TE}(S:aK ["size","known"] ["size","known"] scope)
  (tE:∀(pm gO:Value)(c':Addr)(us:z0n),us.length=(["size","known"]:z0t).length->bindArgs (PySem.W.kla_fn "<lambda>" q params body scope [] pm (.ref c') gO) ⟨us,[]⟩=pure ((["size","known"]:z0t).zip us))
  (jF:∀(f c':Addr)(A:Around)(outer:List Env)(s:Shared)(H:Hp),PE (pM fI P w K mg base ["size","known"] q scope f (.ref c') A outer s H λ_ _ _=>False) body te)
  (Sw:∀a b H Q,Q (.bl (bt a b)) H->te [some (.int a),some (.int b)] H Q):bR P w K mg base fI 2 f fd ["rules","sizes","better"] (iP K q params body scope bt):=by
 refine F.ok iQ 184 186
 .obtain⟨R,rs,aa,d,fl,c',pm,gO,kvs,ks,g,rfl,_⟩:=h;rfl
 obtain⟨R,rs,aa,d,fl,c',pm,gO,kvs,ks,g,rfl,hR,cM,bO,h8,hd,hk,Vn,hkl,hv,⟨n0,Vo⟩,IB,mS,qq⟩:=h;have hu:=gh hr;refine⟨_,ag (aA (i:=3) iQ.nd rfl 90 fY)
  (ag (iw bW (gW (pv 3))
   (ag (aA (i:=3) iQ.nd rfl 90 fY)
   (ao (bJ bW rfl (aR 91) (gu rfl (az (aq (i:=4) iQ.nd rfl 90) (az (aq (i:=5) iQ.nd rfl 90) bE)))
    (ao (cy (gW (aP (dY rfl) rfl T.all boot_all (ab (aT ["part"] [(1,"sizes")] rfl (eV (pv 5)) 162 nofun rfl nofun
       (λ_ _ _ _ _=>aq (i:=0) (show (["part","sizes"]:z0t).Nodup by decide +kernel) rfl 90) 220 (λ_ _ _ _ _=>xD (kR hu 91 (pv 1)))) ak)))
     (ag (aA (i:=6) iQ.nd rfl 90 (aN df av (aP (lJ rfl) rfl T.sum wF (ab (aT ["part"] [(1,"sizes")] rfl (eV (pv 5)) 162 nofun rfl nofun
       (λ_ _ _ _ _=>aq (i:=0) (show (["part","sizes"]:z0t).Nodup by decide +kernel) rfl 90) 220 (λ_ _ _ _ _=>fO hu (pv 1) 91 142)) ak))))
     (ao (cy (PW.pt (GX (fC (dD hu (pv 4) (pv 1))) (GU (gW (Bg (i:=2) (k:=0) rfl rfl S hr tE jF (ab (pv 6) (ab (fO hu (pv 1) (pv 4) 142) ak)))))))
      (ag (fK hu (pv 1) (pv 4) (pv 6) rfl) (ao (aA (i:=3) iQ.nd rfl 90 fY))) bf))) bf))))))
  (ao (bw (pv 1)))),?_⟩
 nofun
 have ll:=a7 cM;have S0:FD K aa ks H H d kvs ks g:=⟨λ_ _ _ e=>e,hd,hk,Vn,λx hx=>fg _ hx,hv⟩;refine⟨λm σ H5=>∃(gp:93) (Ah:z0t)(g2:G)(ch:Bool)(y4 y5 y6:Option V),σ=[aE R,aE d,aE fl,some (.bl ch),y4,y5,y6]/\FD K aa ks H H5 d gp Ah g2/\dZ bt aa g g2 /\
  ((ch=true/\∃n,m=n+1/\pS bt aa n g2)\/(ch=false/\iI bt aa g2)),⟨n0+1,kvs,ks,g,true,none,none,none,rfl,S0,.refl,.inl ⟨rfl,n0,rfl,Vo⟩⟩,?_⟩
 rintro m σ H5 ⟨gp,Ah,g2,ch,y4,y5,y6,rfl,S2,JA,cs⟩;refine⟨_,rfl,ch,rfl,?_⟩;refine 246
 .rcases cs with ⟨_,n,em,en⟩ | ⟨c',_⟩
  case inr=>rw [c'] at c;cases c
  refine⟨λσ H6=>∃(mP:93) (Fu:z0t)(g3:G)(zR:Bool)(y4 y5 y6:Option V),σ=[aE R,aE d,aE fl,some (.bl zR),y4,y5,y6]/\FD K aa ks H H6 d mP Fu g3/\(g3,zR)=uB bt aa g2,?_,?_⟩
  .rintro σ H6 ⟨mP,Fu,g3,zR,y4,y5,y6,rfl,S3,e3⟩;have Z2:g3=(uB bt aa g2).1:=congrArg Prod.fst e3;have Pr:zR=(uB bt aa g2).2:=congrArg Prod.snd e3;have Rk:dZ bt aa g g3:=by
    rw [Z2];exact JA.trans (tH bt aa aa (g2,false) λ_ h=>h)
   cases h3:zR with
   | false =>
    rw [h3] at Pr;obtain⟨f1,f2⟩:=tJ bt aa (g2,false) Pr.symm;refine⟨0,∅,mP,Fu,g3,false,_,_,_,rfl,S3,Rk,.inr ⟨rfl,?_⟩⟩;have e33:g3=g2:=Z2.trans f1;rw [e33];exact f2
   | true =>
    rw [h3] at Pr;cases n with
    | zero=>rw [show (uB bt aa g2).2=false from en] at Pr;cases Pr
    | succ n' =>
     rcases en with en | en
     .rw [en] at Pr;cases Pr
     exact⟨n'+1,∅,mP,Fu,g3,true,_,_,_,rfl,S3,Rk,.inl ⟨rfl,n',rfl,by rw [Z2];exact en⟩⟩
  refine⟨_,rfl,R,rfl,⟨_,S2.sm.seq hd hR⟩,?_⟩;refine bQ (xs:=145) (λi σ H6=>∃(mP:93) (Fu:z0t)(g3:G)(zR:Bool)(y4 y5 y6:Option V),σ=[aE R,aE d,aE fl,some (.bl zR),y4,y5,y6]/\FD K aa ks H H6 d mP Fu g3/\(g3,zR)=(aa.take i).foldl (sstep bt) (g2,false))
   ⟨gp,Ah,g2,false,_,_,_,rfl,S2,rfl⟩ ?_ ?_ ?_
  .rintro i σ H6 _ ⟨mP,Fu,g3,zR,y4,y5,y6,rfl,S3,_⟩;exact S3.sm.seq hd hR
  .rintro i x σ H6 ex ⟨mP,Fu,g3,zR,y4,y5,y6,rfl,S3,e3⟩;rw [aX] at ex;obtain⟨r,er,rfl⟩:=bT.mp ex;obtain⟨ru,e1,p,v1,v2⟩:=cM.get er;have kZ:=cE e1;have O2:=h8 ru kZ;have fo:(aa.take (i+1)).foldl (sstep bt) (g2,false)=sstep bt (g3,zR) ru:=by
    rw [cK,e1,wj,<-e3];rfl
   rw [fo];have Wx:=S3.sm.tup hd v2;refine⟨r,_,rfl,S3.sm.tup hd v1,rfl,_,_,rfl,_,_,rfl,rfl,?_⟩;refine⟨_,rfl,p,rfl,⟨_,Wx⟩,λD2 jL=>vO rfl Wx ∅ S3.hd jL λH7 Gd hd7=>?_⟩;have S4:=S3.same Gd;have v4:=Gd.tup Wx;have eb:(ru.2.map λz=>(a0 mP 150).isSome).all id=k_ g3 ru:=by
    unfold k_;rw [List.all_map];refine List.all_congr rfl λz=>?_;show (a0 mP 150).isSome=_;rw [S3.val,qZ]
   refine⟨D2,_,rfl,aI.of hd7,_,rfl,?_⟩;rw [eb];refine b_ (λc4=>?_) (λc4=>?_)
   .have al:∀z∈ru.2,(g3 z).isSome=true:=λz hz=>eG.mp c4 z hz;refine⟨_,rfl,p,rfl,⟨_,v4⟩,λD3 JM=>EY (g:=g3) rfl v4 ∅ S4.hd S4.val al JM λH8 P4 Ti=>?_⟩;have S5:=S4.same P4;have esz:1+(ru.2.map λz=>(g3 z).getD 0).sum=aM g3 ru:=rfl;refine⟨D3,_,rfl,aI.of Ti,_,_,rfl,rfl,?_⟩;have mem:(a0 mP (Sum.inr ru.1)).isSome=(g3 ru.1).isSome:=by rw [S5.val,qZ]
    have fl5:=S5.sm fl _ (λz=>by rw [z,hd] at IB;cases IB) IB;have c5':=S5.sm c' _ (λz=>by rw [z,hd] at mS;cases mS) mS;have l5:=S5.len;refine⟨_,rfl,_,rfl,d,_,rfl,cu.k (k:=Sum.inr ru.1) S5.hd,_,rfl,?_⟩;refine b_ (λc5=>?_) (λc5=>?_)
    .have fr:cW bt g3 ru=true:=by
      unfold cW;rw [<-mem,c4,c5];rfl
     refine⟨_,rfl,_,rfl,_,rfl,d,_,rfl,jZ.k (k:=Sum.inr ru.1) S5.hd (br ∅),?_⟩;exact⟨_,_,dO g3 ru.1 (aM g3 ru),true,_,_,_,rfl,S5.put kZ (aM g3 ru),(aw fr).symm⟩
    have isS:(g3 ru.1).isSome=true:=by
     rw [mem] at c5;cases hq:(g3 ru.1).isSome with
     | true=>rfl
     | false=>rw [hq] at c5;exact absurd rfl c5
    obtain⟨k,ek⟩:=ni.mp isS;have hg:cu H8 d (.str ru.1) (some (.int k)):=by
     have:=cu.k (k:=Sum.inr ru.1) S5.hd;rw [S5.val,ek] at this;exact this
    refine⟨fl,pm,c',gO,rfl,_,rfl,_,rfl,_,rfl,d,_,rfl,hg,fl5,c5',rfl,Sw (aM g3 ru) k _ _ ⟨_,rfl,?_⟩⟩;refine b_ (λc6=>?_) (λc6=>?_)
    .have fr:cW bt g3 ru=true:=by
      unfold cW;rw [c4,ek];show (true && (false || bt (aM g3 ru) k))=true
      rw [c6];rfl
     refine⟨_,rfl,_,rfl,_,rfl,d,_,rfl,jZ.k (k:=Sum.inr ru.1) S5.hd (br ∅),?_⟩;exact⟨_,_,dO g3 ru.1 (aM g3 ru),true,_,_,_,rfl,S5.put kZ (aM g3 ru),(aw fr).symm⟩
    have fr:¬cW bt g3 ru=true:=by
     unfold cW;rw [c4,ek];show ¬(true && (false || bt (aM g3 ru) k))=true
     rw [rC.mpr c6];exact nofun
    exact⟨mP,Fu,g3,zR,_,_,_,rfl,S5,(au fr).symm⟩
   have e5:sstep bt (g3,zR) ru=(g3,zR):=au (λz=>c4 (by unfold cW at z;exact(jo.mp z).1));exact⟨mP,Fu,g3,zR,_,_,_,rfl,S4,e5.symm⟩
  rintro σ H6 ⟨mP,Fu,g3,zR,y4,y5,y6,rfl,S3,e3⟩;rw [ar,ll,b0] at e3;exact⟨mP,Fu,g3,zR,_,_,_,rfl,S3,e3⟩
 rcases cs with ⟨c',_⟩ | ⟨_,se⟩
 .rw [c'] at c;exact absurd rfl c
 exact⟨_,rfl,qq gp Ah g2 H5 S2.sm S2.hd S2.keys S2.val JA se (by have:=S2.len;omega)⟩
end
end hJ
namespace M11
open PySem L2
theorem fold_lt {bt:Int->Int->Bool}{aa:88}{J:G->Prop}{r:G->G->Prop}(tr:∀a b c,r a b->r b c->r a c)
  (yl:∀g ru,J g->ru∈aa->cW bt g ru=true->J (dO g ru.1 (aM g ru))/\r (dO g ru.1 (aM g ru)) g) :
  ∀(l:88)(a:G×Bool),(∀ru∈l,ru∈aa)->J a.1->J (l.foldl (sstep bt) a).1/\(l.foldl (sstep bt) a=a\/r (l.foldl (sstep bt) a).1 a.1)
 | [],a,_,j=>⟨j,.inl rfl⟩
 | ru::l,a,h,j=>by
  by_cases c:cW bt a.1 ru=true
  .have e:sstep bt a ru=(dO a.1 ru.1 (aM a.1 ru),true):=aw c;obtain⟨j1,r1⟩:=yl a.1 ru j (h ru cS) c;obtain⟨j2,r2⟩:=fold_lt tr yl l (dO a.1 ru.1 (aM a.1 ru),true) (λx hx=>h x (cT _ hx)) j1;rw [List.foldl_cons,e];refine⟨j2,.inr ?_⟩;rcases r2 with r2 | r2
   .rw [r2];exact r1
   exact tr _ _ _ r2 r1
  have e:sstep bt a ru=a:=au c;rw [List.foldl_cons,e];exact fold_lt tr yl l a (λx hx=>h x (cT _ hx)) j
def zF {bt:Int->Int->Bool}{aa:88}{J:G->Prop}{r:G->G->Prop}(tr:∀a b c,r a b->r b c->r a c)
  (yl:∀g ru,J g->ru∈aa->cW bt g ru=true->J (dO g ru.1 (aM g ru))/\r (dO g ru.1 (aM g ru)) g){g:G}(h:Acc r g)(j:J g):∃n,pS bt aa n g:=by
 induction h with
 | intro g _ ih =>
  cases c:(uB bt aa g).2 with
  | false=>exact⟨0,c⟩
  | true =>
   obtain⟨j2,r2⟩:=fold_lt tr yl aa (g,false) (λ_ h=>h) j;have r3:r (uB bt aa g).1 g:=by
    rcases r2 with r2 | r2
    .have e:(uB bt aa g)=(g,false):=r2;rw [e] at c;cases c
    exact r2
   obtain⟨n,hn⟩:=ih _ r3 j2;exact⟨n+1,.inr hn⟩
def dZ.keep {bt:Int->Int->Bool}{aa:88}{J:G->Prop}(yl:∀g ru,J g->ru∈aa->cW bt g ru=true->J (dO g ru.1 (aM g ru))){g g':G}(h:dZ bt aa g g')(j:J g):J g':=by
 induction h with
 | refl=>exact j
 | step _ a b ih=>exact yl _ _ ih a b
def fV (f:Str->Nat) (hs:z0t):Nat:=(hs.map f).sum
theorem yB {f k:Str->Nat}:∀{hs:z0t},(∀x∈hs,f x<=k x)->fV f hs<=fV k hs
 | [],_=>aG _
 | h::r,q=>by
  have h1:=q h cS;have h2:=yB (hs:=r) λx hx=>q x (cT _ hx);show f h+fV f r<=k h+fV k r;omega
theorem nF {f k:Str->Nat}:∀{hs:z0t}{h:Str},(∀x∈hs,f x<=k x)->h∈hs->f h < k h->fV f hs < fV k hs
 | a::r,h,q,m,l=>by
  have h1:=q a cS;have h2:∀x∈r,f x<=k x:=λx hx=>q x (cT _ hx);show f a+fV f r < k a+fV k r;rcases b8.mp m with z | z
  .have:=yB h2;rw [z] at l;omega
  have:=nF h2 z l;omega
theorem jO (g:G)(J:∀z n,g z=some n->(0:Int)<=n):∀ps:z0t,0<=(ps.map λp=>(g p).getD 0).sum
 | []=>92
 | p::r=>by
  have h1:=jO g J r;have h2:0<=(g p).getD 0:=by
   cases e:g p with
   | none=>exact j4 _
   | some n=>exact J p n e
  rw [cI,lQ];omega
def NN (g:G):Prop:=∀z n,g z=some n->(0:Int)<=n
def xE {g:G}(j:NN g)(ru:ax):NN (dO g ru.1 (aM g ru)):=λz n e=>by
 unfold dO at e;by_cases c:z=ru.1
 .rw [aw c] at e;cases e;have:=jO g j ru.2;unfold aM;omega
 rw [au c] at e;exact j z n e
def bl (a b:Int):Bool:=decide (a < b)
def bg (a b:Int):Bool:=decide (a > b)
def Bz (hs:z0t)(g' g:G):Prop :=
 fV (λh=>if (g' h).isSome then 0 else 1) hs < fV (λh=>if (g h).isSome then 0 else 1) hs \/
 (fV (λh=>if (g' h).isSome then 0 else 1) hs=fV (λh=>if (g h).isSome then 0 else 1) hs/\fV (λh=>((g' h).getD 0).toNat) hs < fV (λh=>((g h).getD 0).toNat) hs)
def K5 (hs:z0t)(g:G):Acc (Bz hs) g:=by
 have wf:=(Prod.lex (β:=Nat) (α:=Nat) ⟨(· < ·),Nat.lt_wfRel.wf⟩ ⟨(· < ·),Nat.lt_wfRel.wf⟩).wf;have key:∀p:Nat×Nat,∀g:G,(fV (λh=>if (g h).isSome then 0 else 1) hs,fV (λh=>((g h).getD 0).toNat) hs)=p->Acc (Bz hs) g:=λp=>by
  induction p using wf.induction with
  | _ p ih =>
   intro g e;refine⟨g,λg' r=>ih _ ?_ g' rfl⟩;rw [<-e];rcases r with r | ⟨r1,r2⟩
   .exact Prod.Lex.left _ _ r
   show Prod.Lex _ _ (fV (λh=>if (g' h).isSome then 0 else 1) hs,_) _;rw [r1];exact Prod.Lex.right _ r2
 exact key _ g rfl
def Oy (hs:z0t)(a b c:G)(h:Bz hs a b)(k:Bz hs b c):Bz hs a c:=by
 unfold Bz at *;omega
def Ii {aa:88}(g:G)(ru:ax)(j:NN g)(m:ru∈aa)(f:cW bl g ru=true):NN (dO g ru.1 (aM g ru))/\Bz 204 (dO g ru.1 (aM g ru)) g:=by
 refine⟨xE j ru,?_⟩;have hm:ru.1∈aa.map 87:=iB m;have nn:=xE j ru;have ue:dO g ru.1 (aM g ru) ru.1=some (aM g ru):=aw rfl;have ne:∀z,z≠ru.1->dO g ru.1 (aM g ru) z=g z:=λz n=>au n;unfold cW at f;have f2:=(jo.mp f).2;cases e:g ru.1 with
 | none =>
  refine .inl (nF (λx _=>?_) hm ?_)
  .by_cases c:x=ru.1
   .show (if (dO g ru.1 (aM g ru) x).isSome then 0 else 1)<=_;rw [c,ue];exact gr _
   show (if (dO g ru.1 (aM g ru) x).isSome then 0 else 1)<=_;rw [ne x c];exact aG _
  show (if (dO g ru.1 (aM g ru) ru.1).isSome then 0 else 1) < (if (g ru.1).isSome then 0 else 1);rw [ue,e];show 0 < 1;exact Nat.one_pos
 | some k =>
  rw [e] at f2;have lt:aM g ru < k:=cR (by simpa [bl] using f2);have h0:=nn ru.1 _ ue;refine .inr ⟨?_,nF (λx _=>?_) hm ?_⟩
  .unfold fV
   congr 1
   refine rH λx _=>?_;by_cases c:x=ru.1
   .show (if (dO g ru.1 (aM g ru) x).isSome then 0 else 1)=(if (g x).isSome then 0 else 1);rw [c,ue,e];rfl
   show (if (dO g ru.1 (aM g ru) x).isSome then 0 else 1)=(if (g x).isSome then 0 else 1);rw [ne x c]
  .by_cases c:x=ru.1
   .show ((dO g ru.1 (aM g ru) x).getD 0).toNat<=((g x).getD 0).toNat;rw [c,ue,e];show (aM g ru).toNat<=k.toNat;omega
   show ((dO g ru.1 (aM g ru) x).getD 0).toNat<=((g x).getD 0).toNat;rw [ne x c];exact aG _
  show ((dO g ru.1 (aM g ru) ru.1).getD 0).toNat < ((g ru.1).getD 0).toNat;rw [ue,e];show (aM g ru).toNat < k.toNat;omega
def BD (aa:88)(g:G)(j:NN g):∃n,pS bl aa n g:=zF (Oy 204) (λg ru=>Ii g ru) (K5 _ g) j
inductive Em (aa:88):Str->Prop
 | mk {ru:ax}:ru∈aa->(∀p∈ru.2,Em aa p)->Em aa ru.1
def uk (aa:88)(b:Str->Int):Prop:=(∀z,0<=b z)/\∀ru∈aa,(∀p∈ru.2,Em aa p)->1+(ru.2.map b).sum<=b ru.1
def GJ (aa:88)(b:Str->Int)(g:G):Prop:=∀z n,g z=some n->0<=n/\n<=b z/\Em aa z
theorem Cv {aa:88}{b:Str->Int}{g:G}(j:GJ aa b g)(hb:∀z,0<=b z):∀ps:z0t,(ps.map λp=>(g p).getD 0).sum<=(ps.map b).sum
 | []=>92
 | p::r=>by
  have h1:=Cv j hb r;have h2:(g p).getD 0<=b p:=by
   cases e:g p with
   | none=>exact hb p
   | some n=>exact(j p n e).2.1
  rw [cI,lQ,cI,lQ];omega
def gm (b:Str->Int)(g:G)(h:Str):Nat:=if (g h).isSome then (b h - (g h).getD 0).toNat else (b h).toNat+1
def tF {aa:88}{b:Str->Int}(B:uk aa b)(g:G)(ru:ax)(j:GJ aa b g)(m:ru∈aa)(f:cW bg g ru=true) :
  GJ aa b (dO g ru.1 (aM g ru))/\fV (gm b (dO g ru.1 (aM g ru))) 204 < fV (gm b g) 204:=by
 have hm:ru.1∈aa.map 87:=iB m;have ue:dO g ru.1 (aM g ru) ru.1=some (aM g ru):=aw rfl;have ne:∀z,z≠ru.1->dO g ru.1 (aM g ru) z=g z:=λz n=>au n;unfold cW at f;obtain⟨f1,f2⟩:=jo.mp f;have em:∀p∈ru.2,Em aa p:=λp hp=>by
  obtain⟨n,en⟩:=ni.mp (eG.mp f1 p hp);exact(j p n en).2.2
 have bd:=B.2 ru m em;have sb:=Cv j B.1 ru.2;have s0:=jO g (λz n e=>(j z n e).1) ru.2;have sz:0<=aM g ru/\aM g ru<=b ru.1:=by unfold aM;omega
 refine⟨λz n e=>?_,nF (λx _=>?_) hm ?_⟩
 .by_cases c:z=ru.1
  .rw [c,ue] at e;cases e;rw [c];exact⟨sz.1,sz.2,.mk m em⟩
  rw [ne z c] at e;exact j z n e
 .by_cases c:x=ru.1
  .rw [c];unfold gm;rw [ue];show (b ru.1 - aM g ru).toNat<=_;cases e:g ru.1 with
   | none=>show _<=(b ru.1).toNat+1;omega
   | some k =>
    rw [e] at f2;have lt:aM g ru > k:=cR (by simpa [bg] using f2);show _<=(b ru.1 - k).toNat;omega
  unfold gm;rw [ne x c];exact aG _
 unfold gm;rw [ue];show (b ru.1 - aM g ru).toNat < _;cases e:g ru.1 with
 | none=>show _ < (b ru.1).toNat+1;omega
 | some k =>
  rw [e] at f2;have lt:aM g ru > k:=cR (by simpa [bg] using f2);show _ < (b ru.1 - k).toNat;omega
def BR {aa:88}{b:Str->Int}(B:uk aa b)(g:G)(j:GJ aa b g):∃n,pS bg aa n g :=
 zF (r:=λg' g=>fV (gm b g') 204 < fV (gm b g) 204) (λ_ _ _ h k=>ku h k) (tF B) ((InvImage.wf (λg:G=>fV (gm b g) (aa.map λx:ax=>x.1)) Nat.lt_wfRel.wf).apply g) j
def zy {aa:88}{b:Str->Int}(B:uk aa b){g g':G}(h:dZ bg aa g g')(j:GJ aa b g):GJ aa b g':=h.keep (λg ru a m f=>(tF B g ru a m f).1) j
end M11
namespace L2
open PySem
def zK {K:bp}{H:Hp}{p D:Addr}{zs:z0t}{σ:St}{v:V}{x:Str}{Qp:Hp->Prop}(hp:aI K H p 203)(hz:zs.length<=10000)(hD:H D=none)
  (q:∀ts H2,aD H H2->H2 D=some 222->Paired (λt h=>aZ K H2 t [.str h,v]) ts zs->Qp H2) :
  ∃W:241,(∃m,W 0 m [] (dP [x] [] σ) 227) /\
 ∀i m ys σ' H,W i m ys σ' H->((jK K p).stop i H/\Qp H)\/((jK K p).go i H/\∃m',m' < m/\∀x H',(jK K p).lV i H x H'->dF 0 x σ' H' λσ2 H2=>hX σ2 H2 λb H3 =>
  if b=true then uA (gT (gN 0) (gT (tC v) qp)) σ2 H3 239 else 257):=by
 refine bL (xs:=154) (λi ys σ2 H2=>∃ts:z0q,ys=ts.map V.ref/\ts.length=i/\Paired (λt h=>aZ K H2 t [.str h,v]) ts (zs.take i)/\(∃y0,σ2=[y0])/\370)
  ⟨[],rfl,rfl,.nil,⟨none,rfl⟩,af hD _,ae⟩ (λi ys σ2 H2 _ h=>?_) (λi x ys σ2 H2 ex h=>?_) (λys σ2 H2 h=>?_)
 .obtain⟨_,_,_,_,_,sm,_⟩:=h;exact sm.seq hp
 .obtain⟨ts,rfl,ht,jW,⟨y0,rfl⟩,sm,hd⟩:=h;rw [aX] at ex;obtain⟨z,ez,rfl⟩:=bT.mp ex;have li:=(bu.mp ez).1;refine goN (uJ ?_);refine⟨_,rfl,qo,λt j9=>⟨?_,219,ts++[t],?_,?_,?_,157,?_,ae⟩⟩
  .rw [aj (aC hd j9)];exact hd
  .rw [ba];rfl
  .rw [a8,ht];rfl
  .rw [cK,ez];have i5:upd H2 t (.tup [.str z,v]) D=some 222:=by rw [aj (aC hd j9)];exact hd
   exact fc (Paired.b9 jW λt' h' z=>bz i5 ((af j9 _).tup z)) (bz i5 (aZ.of ae))
  intro b o hb;rw [330];exact af j9 _ _ _ (sm b o hb)
 obtain⟨ts,rfl,ht,jW,_,sm,hd⟩:=h;rw [ar,b0] at jW;exact q ts H2 sm hd jW
def Tab.same {T:Addr}{pos:Pos}{qual:Str}{H H':Hp}(h:Tab T pos qual H)(s:aD H H'):Tab T pos qual H':=by
 obtain⟨ps,a,b,c⟩:=h;refine⟨ps,s _ _ a,b,c.imp id ?_⟩;rintro⟨c',e,g⟩;exact⟨c',e,s _ _ g⟩
def Tab.Mn {T d:Addr}{pos:Pos}{qual:Str}{H H':Hp}{kvs:93}(h:Tab T pos qual H)(s:gE d H H')(hd:H d=188):Tab T pos qual H':=by
 obtain⟨ps,a,b,c⟩:=h;refine⟨ps,s _ _ (λz=>by rw [z,hd] at a;cases a) a,b,c.imp id ?_⟩;rintro⟨c',e,g⟩;exact⟨c',e,s _ _ (λz=>by rw [z,hd] at g;cases g) g⟩
structure z9 (K:bp)(x qual:Str)(st:Stmt)(f:Addr)(fd:FuncData)(T:Addr):Prop where
 ex:∃(oc:Value)(od:z0m)(kV doc pm:Value)(an:z0m)(c:Addr)(ct:Value)(yS:z0a),
  fd=PySem.W.fnOf x qual (dH st) (cP st) (ay st) .none kV doc pm an (.ref c) ct/\K.lookup f=some ⟨oc,od,.func fd,yS⟩/\PySem.W.codeIn K (.ref c) qual=true/\PySem.W.codeHdIn K c T=true
 kp:PySem.W.keepIn K (.ref f)=true
def z9.ok {P:Program}{w:World}{K:bp}{mg:z0c}{base:Heap}{x qual:Str}{st:Stmt}{f:Addr}{fd:FuncData}{T:Addr}{N ps:z0t}{k:Nat}{sp:Sp}(F:z9 K x qual st f fd T)(S:aK N ps (ay st))(len:∀vs H Q E,sp vs H Q E->vs.length=ps.length)
  (jF:∀(c:Addr)(A:Around)(outer:List Env)(s:Shared)(H:Hp)(vs:List V)(Q:VK)(E:XK),PySem.W.codeHdIn K c T=true->gF k (A.deeper (PyProof.Rows.envOfC qual (ay st) s.heap.objs.size f (.ref c)))->sp vs H Q E ->
   ∃t,Cj (pM fI P w K mg base N qual (ay st) f (.ref c) A outer s H E).KW (cP st) t/\t { nx:=λ_ H'=>Q .fu H',rt:=Q } (start N vs) H):bR P w K mg base fI (k+1) f fd ps sp:=by
 obtain⟨oc,od,kV,doc,pm,an,c,ct,yS,rfl,lk,ym,hC⟩:=F.ex;refine IS lk ym S len λA outer s H vs Q E hr Fv=>?_;obtain⟨t,h,q⟩:=jF c A outer s H vs Q E hC hr Fv;exact⟨t,h.KW,q⟩
theorem vv {v:V}:∀(hs:z0t)(bY:93) (as:z0t),bY.map 87=as.map Sum.inr->(dw (hs.map λh=>((Sum.inr h:aQ),v)) bY).map 87=(M11.xY as hs).map Sum.inr
 | [],bY,as,e=>e
 | h::r,bY,as,e=>vv r (bS bY (Sum.inr h) v) (M11.gP as h) (hJ.iX e h)
theorem rT {v:V}:∀(hs:z0t)(bY:93)(z:Str),a0 (dw (hs.map λh=>((Sum.inr h:aQ),v)) bY) 150=if z∈hs then some v else a0 bY 150
 | [],bY,z=>by simp [dw]
 | h::r,bY,z=>by
  have ih:=rT (v:=v) r (bS bY (Sum.inr h) v) z;show a0 (dw (r.map λh=>((Sum.inr h:aQ),v)) (bS bY (Sum.inr h) v)) 150=_;rw [ih,rV];by_cases c:z∈r
  .rw [aw c,aw (cT _ c)]
  rw [au c];by_cases c2:z=h
  .rw [aw (by rw [c2]),aw (by rw [c2];exact cS)]
  rw [au (λe=>c2 (kr e)),au (λe=>(b8.mp e).elim c2 c)]
end L2
namespace hJ
open PySem L2 M11
def Sb:List Stmt->Arguments×Expr×Scope×Pos
 | [.Return (some (.Call _ [_,_,.Lambda p b s pos] _ _)) _]=>(p,b,s,pos)
 | _=>(⟨[],[],none,[],[],none,[]⟩,.Constant .none 0 ⟨0,0,0,0⟩,ay su,⟨0,0,0,0⟩)
abbrev sX:=Sb (cP su)
abbrev By:=Sb (cP xp)
abbrev Ag:Str := "least_sizes" ++ ".<locals>." ++ "<lambda>"
abbrev MH:Str := "greatest_empty_sizes" ++ ".<locals>." ++ "<lambda>"
def NF:aK ["size","known"] ["size","known"] sX.2.2.1:=163
def NH:aK ["size","known"] ["size","known"] By.2.2.1:=163
section
def Bj (F:iz K "settled_sizes" "settled_sizes" nQ f fd)(T:Txt mg):bR P w K mg base fI 2 f fd ["rules","sizes","better"] (iP K Ag sX.1 sX.2.1 sX.2.2.1 M11.bl) :=
 vo F T NF (λpm gO c' us hl=>match us,hl with | [_,_],_=>rfl) (λ_ _ _ _ _ _=>fQ lX 91 (pv 1) (cA _)) (λa b H Q h=>⟨_,rfl,_,rfl,_,_,rfl,rfl,h⟩)
def Bk (F:iz K "settled_sizes" "settled_sizes" nQ f fd)(T:Txt mg):bR P w K mg base fI 2 f fd ["rules","sizes","better"] (iP K MH By.1 By.2.1 By.2.2.1 M11.bg) :=
 vo F T NH (λpm gO c' us hl=>match us,hl with | [_,_],_=>rfl) (λ_ _ _ _ _ _=>fQ Hk 91 (pv 1) (cA _)) (λa b H Q h=>⟨_,rfl,_,rfl,_,_,rfl,rfl,h⟩)
def zB (aa:88):G:=λz=>if z∈ur (hd aa) [] (aa.flatMap (·.2)) then some 0 else none
def qF (K:bp)(T1:Addr):Sp:=λvs H Q _=>∃(R:Addr)(rs:z0q)(aa:88),vs=[.ref R]/\aI K H R 153/\bM K H rs aa/\aa.length<=1000/\329/\Tab T1 sX.2.2.2 Ag H /\
 ∀(d:Addr)(kvs:93) (ks:z0t)(g:G)(H':Hp),H d=none->gE T1 H H'->Tab T1 sX.2.2.2 Ag H'->H' d=188->kvs.map 87=ks.map Sum.inr->(∀z,a0 kvs 150=(g z).map V.int)->dZ M11.bl aa (zB aa) g->iI M11.bl aa g->kvs.length<=20000->Q (.ref d) H'
def Kf:aK ["rules"] ["rules"] (ay su):=163
def Hv {T1:Addr}(F:z9 K "least_sizes" "least_sizes" su f fd T1)(T:Txt mg)(hB:um mg base)(GW:aF P w K mg base 1 "words_in" ["rules"] (CA K))
  (GS:aF P w K mg base 2 "settled_sizes" ["rules","sizes","better"] (iP K Ag sX.1 sX.2.1 sX.2.2.1 M11.bl)):bR P w K mg base fI 3 f fd ["rules"] (qF K T1):=by
 refine F.ok Kf 184 (λc A outer s H vs Q E hC hr h=>?_)
 .obtain⟨R,rs,aa,rfl,_⟩:=h;rfl
 obtain⟨R,rs,aa,rfl,hR,cM,bO,h8,hT,q⟩:=h;refine⟨_,ao (bw (bC GS hr rfl (ab 91 (ab (bN (eZ rfl) rfl T.Dp gC (ab
  (aT ["word"] [] rfl (aR (bC (GW.mono (by decide:1<=2)) hr rfl (ab 91 ak))) 162 nofun rfl nofun
   (λ_ _ _ _ _=>aq (i:=0) (show (["word"]:z0t).Nodup by decide +kernel) rfl 90) 220
   (λ_ _ _ _ _=>bX (ab 91 (ab av ak)))) ak)) (ab (G_ (T:=T1) rfl hC hB nofun) ak))))),?_⟩
 dsimp only [uM];refine⟨_,rfl,_,rfl,R,rs,aa,rfl,hR,cM,bO,h8,λD1 H1 f1 s1 e1=>?_⟩;have lw:(ur (hd aa) [] (aa.flatMap (·.2))).length<=8000:=by
  have h1:=nq (hd aa) (aa.flatMap (·.2)) [];have h2:=jH aa 1000 bO h8;simp only [kc] at h1;omega
 refine⟨D1,rfl,⟨_,aI.of e1⟩,λD2 jL=>zK (aI.of e1) ∅ jL λts H2 s2 e2 p2=>?_⟩;have kp:Paired (λt (kv:aQ×V)=>aZ K H2 t [kV kv.1,kv.2]) ts ((ur (hd aa) [] (aa.flatMap (·.2))).map λh=>((Sum.inr h:aQ),V.int 0)):=c_ p2 λ_ _ z=>z;refine⟨D2,ts,_,rfl,e2,kp,λd hd2=>?_⟩;have k1:=vv (v:=.int 0) (ur (hd aa) [] (aa.flatMap (·.2))) [] [] rfl;have k2:∀z,a0 (dw ((ur (hd aa) [] (aa.flatMap (·.2))).map λh=>((Sum.inr h:aQ),V.int 0)) []) 150=(zB aa z).map V.int:=λz=>by
  rw [rT];unfold zB
  split <;> rfl
 have lk:=ja (ur (hd aa) [] (aa.flatMap (·.2))) [];simp only [kc] at lk;generalize dw ((ur (hd aa) [] (aa.flatMap (·.2))).map λh=>((Sum.inr h:aQ),V.int 0)) []=Sf at k1 k2;have s3:=(s1.trans s2).trans (af hd2 (.dK Sf));have e3:upd H2 d (.dK Sf) d=some (.dK Sf):=ae;have Ak:H d=none:=(s1.trans s2).free hd2;generalize upd H2 d (.dK Sf)=H3 at s3 e3;refine⟨hT.same s3,λfl c' gO H4 s4 t4 ffl e4 ZF=>?_⟩;have nT:d≠T1:=λz=>by
  obtain⟨ps,a,_⟩:=hT.same s3;rw [<-z,e3] at a;cases a
 have Dj:=s4 d _ nT e3;have XD:∀{a xs},aZ K H a xs->aZ K H4 a xs:=λ{a xs} h=>by
  obtain⟨ps,b,_⟩:=hT;rcases h with (h | ⟨u,h⟩) | h
  .exact .inl (.inl (s4 _ _ (λz=>by rw [z,b] at h;cases h) (s3 _ _ h)))
  .exact .inl (.inr ⟨u,s4 _ _ (λz=>by rw [z,b] at h;cases h) (s3 _ _ h)⟩)
  exact .inr h
 have XE:∀{a xs},aI K H a xs->aI K H4 a xs:=λ{a xs} h=>by
  obtain⟨ps,b,_⟩:=hT;rcases h with (h | ⟨u,h⟩) | h
  .exact .inl (.inl (s4 _ _ (λz=>by rw [z,b] at h;cases h) (s3 _ _ h)))
  .exact .inl (.inr ⟨u,s4 _ _ (λz=>by rw [z,b] at h;cases h) (s3 _ _ h)⟩)
  exact .inr h
 refine⟨R,rs,aa,d,fl,c',_,gO,Sf,_,zB aa,rfl,XE hR,cM.keep λ_ _ z=>XD z,bO,h8,Dj,k1,pK _ gI,∅,k2,BD aa _ λz n e=>?_,e4,ZF,λmQ Sg g' H5 s5 e5 k5 v5 st se lk'=>?_⟩
 .unfold zB at e
  split at e
  .cases e;exact j4 _
  cases e
 refine q d mQ Sg g' H5 Ak (λb o n hb=>s5 b o (λz=>?_) (s4 b o n (s3 b o hb))) (t4.Mn s5 Dj) e5 k5 v5 st se lk';rw [z,Ak] at hb;cases hb
def w5 (K:bp)(T2:Addr):Sp:=λvs H Q _=>∃(R:Addr)(rs:z0q)(aa:88)(b:Str->Int),vs=[.ref R]/\aI K H R 153/\bM K H rs aa/\aa.length<=1000/\329/\uk aa b/\Tab T2 By.2.2.2 MH H /\
 ∀(d:Addr)(kvs:93) (ks:z0t)(g:G)(H':Hp),H d=none->gE T2 H H'->Tab T2 By.2.2.2 MH H'->H' d=188->kvs.map 87=ks.map Sum.inr->(∀z,a0 kvs 150=(g z).map V.int)->GJ aa b g->dZ M11.bg aa (λ_=>none) g->iI M11.bg aa g->Q (.ref d) H'
def Ki:aK ["rules"] ["rules"] (ay xp):=163
def Hy {T2:Addr}(F:z9 K "greatest_empty_sizes" "greatest_empty_sizes" xp f fd T2)(hB:um mg base)
  (GS:aF P w K mg base 2 "settled_sizes" ["rules","sizes","better"] (iP K MH By.1 By.2.1 By.2.2.1 M11.bg)):bR P w K mg base fI 3 f fd ["rules"] (w5 K T2):=by
 refine F.ok Ki 184 (λc A outer s H vs Q E hC hr h=>?_)
 .obtain⟨R,rs,aa,b,rfl,_⟩:=h;rfl
 obtain⟨R,rs,aa,b,rfl,hR,cM,bO,h8,hBd,hT,q⟩:=h;refine⟨_,ao (bw (bC GS hr rfl (ab 91 (ab fX (ab (G_ (T:=T2) rfl hC hB nofun) ak))))),?_⟩;refine⟨_,rfl,λd Ak=>?_⟩;have s3:=af Ak (.dK []);have e3:upd H d (.dK []) d=some (.dK []):=ae;generalize upd H d (.dK [])=H3 at s3 e3;refine⟨hT.same s3,λfl c' gO H4 s4 t4 ffl e4 ZF=>?_⟩;have nT:d≠T2:=λz=>by
  obtain⟨ps,a,_⟩:=hT.same s3;rw [<-z,e3] at a;cases a
 have Dj:=s4 d _ nT e3;have XD:∀{a xs},aZ K H a xs->aZ K H4 a xs:=λ{a xs} h=>by
  obtain⟨ps,b,_⟩:=hT;rcases h with (h | ⟨u,h⟩) | h
  .exact .inl (.inl (s4 _ _ (λz=>by rw [z,b] at h;cases h) (s3 _ _ h)))
  .exact .inl (.inr ⟨u,s4 _ _ (λz=>by rw [z,b] at h;cases h) (s3 _ _ h)⟩)
  exact .inr h
 have XE:∀{a xs},aI K H a xs->aI K H4 a xs:=λ{a xs} h=>by
  obtain⟨ps,b,_⟩:=hT;rcases h with (h | ⟨u,h⟩) | h
  .exact .inl (.inl (s4 _ _ (λz=>by rw [z,b] at h;cases h) (s3 _ _ h)))
  .exact .inl (.inr ⟨u,s4 _ _ (λz=>by rw [z,b] at h;cases h) (s3 _ _ h)⟩)
  exact .inr h
 have j0:GJ aa b (λ_=>none):=λz n e=>nomatch e;refine⟨R,rs,aa,d,fl,c',_,gO,[],[],λ_=>none,rfl,XE hR,cM.keep λ_ _ z=>XD z,bO,h8,Dj,rfl,gI,gr _,λ_=>rfl,BR hBd _ j0,e4,ZF,λmQ Sg g' H5 s5 e5 k5 v5 st se lk'=>?_⟩;refine q d mQ Sg g' H5 Ak (λb o n hb=>s5 b o (λz=>?_) (s4 b o n (s3 b o hb))) (t4.Mn s5 Dj) e5 k5 v5 (zy hBd st j0) st se;rw [z,Ak] at hb;cases hb
end
end hJ
namespace L2
open PySem PySem.Spec PyProof.Rows
def Pc (o:Obj):Nat:=match o.data with
 | .dict _ ep=>ep
 | _=>0
def UC (d:Addr)(o:Obj)(kvs:93):It :=
 ⟨λi H=>H d=some (.mf o (.dK kvs))/\i < kvs.length,λi H x H'=>H'=H/\∃kv,kvs[i]?=some kv/\x=kV kv.1,λi H=>H d=some (.mf o (.dK kvs))/\kvs.length<=i⟩
def BY {X:Cx}{ai:z0e}{σ:St}{H:Hp}{s:Shared}{d:Addr}{o:Obj}{kvs:93}(I:141)(e:H d=some (.mf o (.dK kvs))) :
  (d == sysModules)=false/\∃vs,KV kvs vs/\s.heap.DictAt (aY X.prog X.w) d vs (Pc o):=by
 obtain⟨ho,hz,hs,vs,r,o',es,ep,h1,h2,h3,h4⟩:=(show cQ X.prog X.w H s.heap d (.mf o (.dK kvs)) from I.cw d _ e);rw [ho] at h1;cases h1;refine⟨hs,vs,r,o,es,ho,h2,?_,h4⟩;unfold Pc;rw [h3]
def DK {P:Program}{w:World}{K:bp}{tg:Expr}(d it:Addr)(o:Obj)(kvs:93):Turn P w K tg (UC d o kvs) [it] it (λi h=>h.IsKeyIter it d i kvs.length (Pc o)) where
 mem:=92
 obj:=λi h st b hb=>by
  have e:b=it:=by simpa using hb
  subst e;obtain⟨o,e,c,d⟩:=st;exact⟨o,e,λv z=>by rw [d] at z;cases z⟩
 keep:=λi h h' st k=>let ⟨o,e,r⟩:=st;⟨o,k it 144 o e,r⟩
 item:=by
  intro X hP hw hK hc i ai s σ H E I hf st hg;subst hP hw hK;obtain⟨hq,hi⟩:=hg;obtain⟨hs,vs,r,da⟩:=BY I hq;have l:=r.length;obtain⟨kv,VL⟩:∃kv,kvs[i]?=some kv:=⟨kvs[i],cZ hi⟩;obtain⟨q,eq⟩:∃q,vs[i]?=some q:=⟨vs[i]'∅,cZ ∅⟩;have ek:kv.1=q.1:=by
   have:=congrArg (λl:List aQ=>l[i]?) r.keys;simp only [aX,VL,eq] at this;exact gJ this
  obtain⟨f0,f1,f2,f3,f4,f5⟩:=hf it 144;rw [l] at st;refine wpAny_pyNext_dict_item (k:=q.1) (v:=q.2) st da eq λkey h' hk u_ sb=>?_;have I1:Inv X ai σ H { s with heap:=h' }:=I.turned (t':=s.toks) (λb o hb e=>(sb.2 b hb).trans e) f0 f1 f3 f4 f5;obtain⟨o2,e,c,dd⟩:=id u_;rw [<-l] at u_;exact⟨key,rfl,Dk (s:={ s with heap:=h' }) e c dd nofun ⟨kV kv.1,H,I1,by rw [ek];exact Io hk,⟨rfl,kv,VL,rfl⟩,u_,λb hb=>(hf b hb).1⟩⟩
 done:=by
  intro X hP hw hK hc i ai s σ H E I hf st hg;subst hP hw hK;obtain⟨hq,hi⟩:=hg;obtain⟨hs,vs,r,da⟩:=BY I hq;have l:=r.length;obtain⟨f0,f1,f2,f3,f4,f5⟩:=hf it 144;rw [l] at st;exact wpAny_pyNext_dict_end (I.ok.hd hc) st da (kj ∅) 503
 self:=λ_ _ _ _ _ st h=>wpAny_pyIter_keyiter st h
def Sr (tl:TE):TI:=λσ H R=>tl σ H λx H1=>∃d kvs,x=.ref d/\H1 d=188/\∀o,R (UC d o kvs) (upd H1 d (.mf o (.dK kvs)))
def CY {X:Cx}{tg l:Expr}{tl:TE}(hl:PE X l tl):PI X tg l (Sr tl):=by
 intro ai s σ H R I h;refine dC (hl ai s σ H _ I h) λv s1 bI=>?_;obtain⟨x,H1,I1,r1,q1⟩:=bI;obtain⟨d,kvs,e,hd,q⟩:=q1;subst e;cases r1;obtain⟨hz,hs,vs,r,o,es,ep,h1,h2⟩:=(show cQ X.prog X.w H1 s1.heap d (.dK kvs) from I1.cw d _ hd);have I2:Inv X ai σ (upd H1 d (.mf o (.dK kvs))) { s1 with heap:=s1.heap,toks:=s1.toks }:=I1.write (x:=d) (e:=d) (by rw [hd];exact True.intro) (.inl rfl) (λb u _ e=>e) ⟨o,h1⟩ ⟨h1,hz,hs,vs,r,o,es,ep,h1,h2⟩;have e2:upd H1 d (.mf o (.dK kvs)) d=some (.mf o (.dK kvs)):=ae;obtain⟨_,vs2,r2,da⟩:=BY I2 e2;have q2:=q o;generalize upd H1 d (.mf o (.dK kvs))=H2 at I2 e2 q2;refine wpAny_pyIter_dict hs da ?_;refine⟨s1.heap.objs.size,[s1.heap.objs.size],_,_,H2,rfl,I2.kept (t':=s1.toks) λb o e=>cg _ e,DK d _ o kvs,⟨_,dB _ rfl,rfl,by rw [r2.length];rfl⟩,λb hb=>?_,q2⟩;have e:b=s1.heap.objs.size:=by simpa using hb
 subst e;exact I2.xR (aG _) (I2.cw.fresh (aG _))
section
variable {d D:Addr}{o:Obj}{kvs:93}{ts:z0t}{js:z0j}{g:TG}{tif:TT}{te:TE}{R:Hp->Prop}{σ:St}{H:Hp}
def tX (Pv:Nat->List V->St->Hp->Prop)(h0:Pv 0 [] (dP ts js σ) 227)(hl:∀i ys σ H,i<=kvs.length->Pv i ys σ H->H d=some (.mf o (.dK kvs)))
  (hs:∀i kv ys σ H,kvs[i]?=some kv->Pv i ys σ H->g (kV kv.1) σ H 505)
  (hd:∀ys σ H,Pv kvs.length ys σ H->R H) :
  ∃W:241,(∃m,W 0 m [] (dP ts js σ) 227) /\
 ∀i m ys σ' H,W i m ys σ' H->((UC d o kvs).stop i H/\R H)\/((UC d o kvs).go i H/\∃m',m' < m/\∀x H',(UC d o kvs).lV i H x H'->g x σ' H' λσ2 H2=>tif σ2 H2 λb H3 =>
  if b=true then te σ2 H3 239 else 257):=by
 refine⟨λi m ys σ H=>m=kvs.length - i/\i<=kvs.length/\Pv i ys σ H,⟨kvs.length,92,gr _,h0⟩,?_⟩;rintro i m ys σ' H ⟨rfl,hi,p⟩;have q:=hl i ys σ' H hi p;by_cases jj:i < kvs.length
 .refine .inr ⟨⟨q,jj⟩,kvs.length - (i+1),∅,λx H' y=>?_⟩;obtain⟨e,kv,VL,rfl⟩:=y;subst e;have z:=hs i kv ys σ' _ VL p;have h1:(i+1<=kvs.length)=True:=eq_true jj;simp only [h1,true_and];exact z
 have e:i=kvs.length:=by omega
 subst e;exact .inl ⟨⟨q,aG _⟩,hd ys σ' H p⟩
end
def vJ {A:Around}{s:Shared}{l b:Addr}{ys xs:z0u}{aV fq:z0n}(r:bH (ys.map V.int) aV)(r2:bH (xs.map V.int) fq)(hl:s.heap.IsList l aV.toArray)(hb:s.heap.IsList b fq.toArray)(ne:l≠b)(hu:A.units < cLine) :
  SeqAt.EqAt A s (.ref l) (.ref b) (decide (ys=xs)):=by
 have l1:=r.length;have l2:=r2.length;rw [ar] at l1 l2;by_cases bO:ys.length=xs.length
 .have h:=SeqAt.RcAt.lists (A:=A) (e:=λj=>decide (ys[j]?=xs[j]?)) hl hb (by simp only [cJ];omega) hu λj h1 h2=>?_
  .have e:((List.range aV.toArray.size).all λj=>decide (ys[j]?=xs[j]?))=decide (ys=xs):=by
    rw [jl,eG,decide_eq_true_iff];constructor
    .intro h;refine List.ext_getElem? λj=>?_;by_cases c:j < ys.length
     .exact cR (h j (j6.mpr (by simp only [cJ];omega)))
     rw [kj ∅,kj ∅]
    intro h j _;rw [h];exact cv rfl
   rw [e] at h;exact .of_refs ne h
  have k1:j < aV.length:=by simpa using h1
  have k2:j < fq.length:=by simpa using h2
  have e1:ys[j]?=some (ys[j]'∅):=cZ ∅;have e2:xs[j]?=some (xs[j]'∅):=cZ ∅;obtain⟨u1,f1,q1⟩:=r.get (show (ys.map V.int)[j]?=some (.int (ys[j]'∅)) by rw [aX,e1];rfl);obtain⟨u2,f2,q2⟩:=r2.get (show (xs.map V.int)[j]?=some (.int (xs[j]'∅)) by rw [aX,e2];rfl);have g1:aV.toArray[j]=u1:=by
   have:=(bu.mp f1).2;simpa using this
  have g2:fq.toArray[j]=u2:=by
   have:=(bu.mp f2).2;simpa using this
  rw [g1,g2,e1,e2];obtain⟨t1,rfl⟩:=q1;obtain⟨t2,rfl⟩:=q2;have:=wb (A:=A.in1) (s:=s) (ys[j]'∅) t1 (xs[j]'∅) t2;have e3:(ys[j]'∅ == xs[j]'∅)=decide (some (ys[j]'∅)=some (xs[j]'∅)):=by
   rw [jl,beq_iff_eq,decide_eq_true_iff,Option.some.injEq]
  rw [e3] at this;exact this
 have h:=SeqAt.RcAt.lists_lengths (A:=A) hl hb (by simp only [cJ,bne_iff_ne];omega) hu;rw [dU (λz=>bO (by rw [z]))];exact .of_refs ne h
def D0 {X:Cx}(hu:X.A.units+1 < cLine):ng X (compareOp .In) (λx y H Q=>∃t a l1 l2 xs ys zs,x=.ref a/\y=.ref t/\aZ X.K H t [.ref l1,.ref l2]/\aI X.K H a (List.map V.int xs)/\aI X.K H l1 (List.map V.int ys)/\aI X.K H l2 (List.map V.int zs)/\l1≠a/\l2≠a /\
  Q (.bl (decide (ys=xs) || decide (zs=xs))) H):=by
 intro ai s σ H x y v u Q I rx ry h;obtain⟨t,a,l1,l2,xs,ys,zs,rfl,rfl,ht,ha,h1,h2,n1,n2,q⟩:=h;cases rx;cases ry;obtain⟨aV,r,pl,hz⟩:=I.tuple ht;obtain⟨u1,u2,rfl,q1,q2⟩:=vals2 r;cases (show u1=Value.ref l1 from q1);cases (show u2=Value.ref l2 from q2);obtain⟨xa,ra,pa,za⟩:=I.list ha;obtain⟨x1,r1,p1,z1⟩:=I.list h1;obtain⟨x2,r2,p2,z2⟩:=I.list h2;have e1:=vJ (A:=X.A.in1) (s:=s) r1 ra p1.isList pa.isList n1 hu;have e2:=vJ (A:=X.A.in1) (s:=s) r2 ra p2.isList pa.isList n2 hu;refine SeqAt.in_tupleAt (λy=>if y == .ref l1 then decide (ys=xs) else decide (zs=xs)) (show s.heap.IsTuple t #[.ref l1,.ref l2] from pl) (λy hy=>?_) ?_
 .have Yg:y=.ref l1\/y=.ref l2:=by simpa using hy
  by_cases c:y=.ref l1
  .subst c;rw [aw (rA _)];exact e1
  rcases Yg with z | z
  .exact absurd z c
  subst z;rw [au (λq=>c (eq_of_beq q))];exact e2
 refine⟨.bl (decide (ys=xs) || decide (zs=xs)),H,I,?_,q⟩
 show Value.bool _=Value.bool _
 congr 1
 by_cases c:l2=l1
 .subst c;have e3:=I.sY h1 h2;have e4:ys=zs:=by
   have:=congrArg (List.map λv:V=>match v with | .int n=>n | _=>0) e3
   simpa [ff,Function.comp_def] using this
  subst e4;simp
 simp [c]
end L2
namespace M11
open PySem L2
def EN (b:Str->Bool) (zs:z0t) (i:Nat):z0u:=((List.range i).filter λj=>!(zs[j]?.elim true b)).map λj:Nat=>(j:Int)
def zD (b:Str->Bool) (zs:z0t) (i:Nat){z:Str}(e:zs[i]?=some z):EN b zs (i+1)=EN b zs i++(if b z=true then [] else [(i:Int)]):=by
 unfold EN;rw [List.range_succ,pU,ba]
 congr 1
 by_cases h:b z=true
 .rw [aw h];simp [e,h]
 rw [au h];simp [e,h]
def Ly (b:Str->Bool) (zs:z0t) (i:Nat):(EN b zs i).length<=i:=by
 unfold EN;rw [ar];have:=iC (λj=>!(zs[j]?.elim true b)) (List.range i);rw [qY] at this;exact this
def K4 (b:Str->Bool) (zs:z0t) (j:Nat):Bool:=decide ([]=EN b zs zs.length) || decide ([(j:Int)]=EN b zs zs.length)
def QQ (aa:88) (names:z0t)(b:Str->Bool)(n:Str) (k j:Nat):Prop:=∃ru z,aa[k]?=some ru/\ru.1=n/\ru.2[j]?=some z/\z∈names/\K4 b ru.2 j=true
end M11
namespace L2
open PySem M11
def jA (p:Str×Addr):aQ×V:=(Sum.inr p.1,.ref p.2)
theorem oo:∀(ps bY:93),((bY++ps).map 87).Nodup->dw ps bY=bY++ps
 | [],bY,_=>by simp [dw]
 | p::r,bY,h=>by
  have n:a0 bY p.1=none:=by
   cases e:a0 bY p.1 with
   | none=>rfl
   | some v =>
    have hm:=(eQ bY p.1).mp (by rw [e];rfl);rw [ba,cI] at h;exact absurd rfl ((iN.mp h).2.2 p.1 hm p.1 cS)
  show dw r (bS bY p.1 p.2)=_;rw [kP p.2 n,oo r (bY++[(p.1,p.2)]) (by rw [iA];exact h),iA];rfl
theorem gS:∀(ps:z0f),(ps.map 87).Nodup->∀p∈ps,a0 (ps.map jA) (Sum.inr p.1)=some (.ref p.2)
 | q::r,h,p,hp=>by
  rw [cI] at h ⊢;rcases b8.mp hp with z | z
  .rw [z];exact fh rfl
  rw [fj,gS r (hU.mp h).2 p z];intro e;have e':q.1=p.1:=kr e;exact(hU.mp h).1 (by rw [e'];exact iB z)
def lG (ps:z0f):(ps.map jA).map 87=(ps.map 87).map Sum.inr:=by
 rw [ff,ff];rfl
def tW {K:bp}{H:Hp}{p D:Addr}{zs:z0t}{σ:St}{x:Str}{Qp:Hp->Prop}(hp:aI K H p 203)(hz:zs.length<=10000)(hD:H D=none)
  (q:∀ts (ps:z0f) H2,aD H H2->H2 D=some 222->ps.map 87=zs->Paired (λt (p:Str×Addr)=>aZ K H2 t [.str p.1,.ref p.2]) ts ps->(∀p∈ps,H2 p.2=some 138/\H p.2=none/\p.2≠D)->(ps.map (·.2)).Nodup->Qp H2) :
  ∃W:241,(∃m,W 0 m [] (dP [x] [] σ) 227) /\
 ∀i m ys σ' H,W i m ys σ' H->((jK K p).stop i H/\Qp H)\/((jK K p).go i H/\∃m',m' < m/\∀x H',(jK K p).lV i H x H'->dF 0 x σ' H' λσ2 H2=>hX σ2 H2 λb H3 =>
  if b=true then uA (gT (gN 0) (gT (Q7 qp) qp)) σ2 H3 239 else 257):=by
 refine bL (xs:=154) (λi ys σ2 H2=>∃(ts:z0q)(ps:z0f),ys=ts.map V.ref/\ts.length=i/\ps.map 87=zs.take i/\Paired (λt (p:Str×Addr)=>aZ K H2 t [.str p.1,.ref p.2]) ts ps /\
   (∀p∈ps,H2 p.2=some 138/\H p.2=none/\p.2≠D)/\(ps.map (·.2)).Nodup/\(∃y0,σ2=[y0])/\370)
  ⟨[],[],rfl,rfl,rfl,.nil,92,92,⟨none,rfl⟩,af hD _,ae⟩ (λi ys σ2 H2 _ h=>?_) (λi x ys σ2 H2 ex h=>?_) (λys σ2 H2 h=>?_)
 .obtain⟨_,_,_,_,_,_,_,_,_,sm,_⟩:=h;exact sm.seq hp
 .obtain⟨ts,ps,rfl,ht,hm,jW,hl,hn,⟨y0,rfl⟩,sm,hd⟩:=h;rw [aX] at ex;obtain⟨z,ez,rfl⟩:=bT.mp ex;have li:=(bu.mp ez).1;refine goN (uJ ?_);refine⟨_,rfl,uq,λl uG=>⟨qo,λt j9=>?_⟩⟩;have Oo:l≠D:=(aC hd uG).symm;have nt:t≠l:=λe=>by rw [e,ae] at j9;cases j9
  have Sz:H2 t=none:=by rw [aj nt] at j9;exact j9
  have ntD:t≠D:=(aC hd Sz).symm;have jt:aD H2 (upd (upd H2 l 138) t (.tup [.str z,.ref l])):=(af uG _).trans (af j9 _);have i5:=jt _ _ hd;have el:upd (upd H2 l 138) t (.tup [.str z,.ref l]) l=some 138:=by rw [aj nt.symm,ae]
  have et:aZ K (upd (upd H2 l 138) t (.tup [.str z,.ref l])) t [.str z,.ref l]:=aZ.of ae;generalize upd (upd H2 l 138) t (.tup [.str z,.ref l])=H4 at jt i5 el et;refine⟨i5,219,ts++[t],ps++[(z,l)],by rw [ba];rfl,by rw [a8,ht];rfl,by rw [ba,hm,cK,ez];rfl,?_,?_,?_,157,?_,ae⟩
  .exact fc (Paired.b9 jW λt' h' z=>bz i5 (jt.tup z)) (bz i5 et)
  .intro p' pE;rcases bP.mp pE with h | h
   .obtain⟨a1,a2,a3⟩:=hl p' h;exact⟨by rw [aj a3];exact jt _ _ a1,a2,a3⟩
   rw [bB.mp h];exact⟨by rw [aj Oo];exact el,sm.free uG,Oo⟩
  .rw [ba];refine iN.mpr ⟨hn,92,λa ha b hb e=>?_⟩;rw [oU,bB] at hb;obtain⟨p',pE,rfl⟩:=bU.mp ha;have:=(hl p' pE).1;rw [e,hb] at this;rw [show H2 l=none from uG] at this;cases this
  intro b o hb;rw [330];exact jt _ _ (sm b o hb)
 obtain⟨ts,ps,rfl,ht,hm,jW,hl,hn,_,sm,hd⟩:=h;rw [ar,b0] at hm;exact q ts ps H2 sm hd hm jW hl hn
def zO {K:bp}{H:Hp}{p D d:Addr}{zs:z0t}{kvs:93}{σ:St}{js:z0j}{Qp:Hp->Prop}(hσ:dP ["place","part"] js σ=[none,none,aE d])(hp:aZ K H p 203)(hz:zs.length<=1000)
  (hd:H d=188)(hD:H D=none)(q:∀H2,aD H H2->H2 D=some (.lst ((EN (λz=>(a0 kvs 150).isSome) zs zs.length).map V.int))->Qp H2) :
  ∃W:241,(∃m,W 0 m [] (dP ["place","part"] js σ) 227) /\
 ∀i m ys σ' H,W i m ys σ' H->((ui K p).stop i H/\Qp H)\/((ui K p).go i H/\∃m',m' < m/\∀x H',(ui K p).lV i H x H'->zz K 2 (iZ (dF 0) (iZ (dF 1) BV)) x σ' H' λσ2 H2=>tB (Cs (gN 1) (gN 2)) σ2 H2 λb H3 =>
  if b=true then gN 0 σ2 H3 239 else 257):=by
 refine zP (xs:=154) (λi ys σ2 H2=>ys=(EN (λz=>(a0 kvs 150).isSome) zs i).map V.int/\(∃y0 y1,σ2=[y0,y1,aE d])/\370)
  ⟨rfl,⟨none,none,hσ⟩,af hD _,ae⟩ (λi ys σ2 H2 _ h=>h.2.2.1.tup hp) (λi x ys σ2 H2 t ex h ht=>?_) (λys σ2 H2 h=>?_)
 .obtain⟨rfl,⟨y0,y1,rfl⟩,sm,hd2⟩:=h;rw [aX] at ex;obtain⟨z,ez,rfl⟩:=bT.mp ex;have li:=(bu.mp ez).1;have jt:=sm.trans (af ht (.tup [155,.str z]));have i5:upd H2 t (.tup [155,.str z]) D=some (.lst ((EN (λz=>(a0 kvs 150).isSome) zs i).map V.int)):=by rw [aj (aC hd2 ht)];exact hd2
  have hv:aZ K (upd H2 t (.tup [155,.str z])) t [155,.str z]:=aZ.of ae;generalize upd H2 t (.tup [155,.str z])=H3 at jt i5 hv;have fl:=Ly (λz=>(a0 kvs 150).isSome) zs i;refine⟨t,_,rfl,hv,rfl,_,_,rfl,_,_,rfl,rfl,?_⟩;refine⟨_,rfl,_,rfl,d,_,rfl,cu.k (k:=140) (jt _ _ hd),_,rfl,?_⟩;refine 246
  .refine⟨_,rfl,i5,219,?_,⟨_,_,rfl⟩,?_,ae⟩
   .rw [zD _ zs i ez,au (λe=>by rw [e] at c;exact absurd c nofun),ba];rfl
   intro b o hb;rw [330];exact jt b o hb
  refine⟨?_,⟨_,_,rfl⟩,jt,i5⟩;rw [zD _ zs i ez,aw,dN];cases hq:(a0 kvs 150).isSome with
  | true=>rfl
  | false=>exact absurd (by rw [hq];rfl) c
 obtain⟨rfl,_,sm,hd2⟩:=h;rw [ar] at hd2;exact q H2 sm hd2
open PySem PySem.Spec PyProof.Rows
def gG {X:Cx}{elt iter tg:Expr}{iy:Nat}{y:Str}{py Rm:Pos}{ifs:z0r}{scope:Scope}{pos:Pos}{wi:TI}{g:TG}{tif:TT}{te:TE}(ts:z0t)(js:z0j)(hN:X.N.Nodup)(hiy:X.N[iy]?=some y)(hy:X.env.scope.names.lookup y=some .local)(hc:X.calm=true)(hi:PI X tg iter wi)
  (cp:Mf X scope js)(jE:∀y∈scope.names,y.2≠.cell)(jD:scope.kind=.function)
  (BP:∀y∈scope.names,y.2=.local->scope.names.lookup y.1=some .local)
  (hg:∀cl C s1 H1 fp,PG (tS X scope cl C s1 H1 (ts++js.map (·.2)) fp) tg g)
  (YK:∀cl C s1 H1 fp,Fb (tS X scope cl C s1 H1 (ts++js.map (·.2)) fp) ifs tif)(he:∀cl C s1 H1 fp,PE (tS X scope cl C s1 H1 (ts++js.map (·.2)) fp) elt te)
  (hsw:swapsWith (.ListComp elt [⟨tg,iter,ifs,0⟩] scope pos) (some (.Name y py)) Rm.line X.env=pure true:=by rfl)(hs:∀x,foldedSetIterable iter X.env x=pure x:=by intro _;rfl) :
  PS X (.Assign [.Name y py] (.ListComp elt [⟨tg,iter,ifs,0⟩] scope pos) Rm) (Rg (FX wi ts js g tif te) (dF iy)):=by
 intro ai s σ H DD I h;rw [exec_Assign_Name_used _ _ _ _ hsw];refine aB (wpAny_standAt (aB ?_));show wpAny _ _ (do let _ <-comprehension (.ListComp elt [⟨tg,iter,ifs,0⟩] scope pos) scope X.env _ (newList []) false (eval iter X.env) (some (assign (.Name y py) X.env))) _ _ s;obtain⟨cl,og⟩:=xZ (env:=X.env) (scope:=scope) λy hy=>I.ok.has y (.inl (cp.all y hy));refine aB (dS (wpAny_comprehension_free (use:=some (assign (.Name y py) X.env)) (Q:=λ_ s'=>SP X ai DD .next s') rfl hs og.eq jD BP (dC (hi ai s σ H _ I h) λv s1 h1=>dC h1 λVe s2 h2=>?_)) (λ_ s' hq=>aH (aH hq)) λ_ _ e=>e);obtain⟨it,fp,tn,J,H2,e,I2,T,JA,f2,h2⟩:=h2;subst e;obtain⟨W,⟨m0,w0⟩,turn⟩:=h2 s2.heap.objs.size I2.fresh;have IB:∀b∈fp,b < s2.heap.objs.size:=λb hb=>by obtain⟨o,e,_⟩:=T.obj _ _ JA b hb;exact bD e
 refine j7 (wpAny_newFunctionEnv jE (by intro y hy;simp at hy) (λh₁ BO xP=>?_) jD);dsimp only at BO xP ⊢;generalize OY:s2.heap.push { cls:=.type "list",dict:=none,data:=.seq ([]:z0n).toArray }=G2 at BO xP ⊢;have Lv:G2.objs.size=s2.heap.objs.size+1:=by rw [<-OY,oJ]
 have Qs:s2.heap.objs.size≠G2.objs.size:=by rw [Lv];exact bV (lS _)
 have old:∀b o,s2.heap.get? b=some o->h₁.get? b=some o:=λb o e =>
  xP.extBut b o (by rw [Lv];exact bV (rD (bD e))) (cg _ (OY ▸ cg _ e))
 have mT:h₁.get? s2.heap.objs.size=some { cls:=.type "list",data:=.seq ([]:z0n).toArray 0 }:=xP.extBut _ _ Qs (cg _ (OY ▸ dB _ rfl));generalize oh:tS X scope cl G2.objs.size s2 H2 (ts++js.map (·.2)) fp=X2;have I4:Inv X2 [] (dP ts js σ) (upd H2 s2.heap.objs.size 138) { s2 with heap:=h₁,toks:=s2.toks+([]:z0d).length }:=by
  rw [<-oh];exact vy I2 f2 IB jD jE cp og (by rw [Lv];exact lS _) rfl rfl old BO mT
 have x1:X2.prog=X.prog:=by rw [<-oh];rfl
 have x2:X2.w=X.w:=by rw [<-oh];rfl
 have x3:X2.K=X.K:=by rw [<-oh];rfl
 have x4:X2.calm=true:=by rw [<-oh];exact hc
 have x5:X2.A=X.A:=by rw [<-oh];rfl
 have x6:X2.env=compEnvC scope cl G2.objs.size X.env:=by rw [<-oh];rfl
 have x7:X2.xe=λ_ _=>False:=by rw [<-oh];rfl
 have YN:PG X2 tg g:=by rw [<-oh];exact hg _ _ _ _ _
 have OQ:Fb X2 ifs tif:=by rw [<-oh];exact YK _ _ _ _ _
 have Df:PE X2 elt te:=by rw [<-oh];exact he _ _ _ _ _
 have Rj:tn 0 h₁:=T.keep _ _ _ JA λb _ o e=>old b o e;have rZ:∀{H':Hp}{j8:z0e},(∀b∈fp,H' b=none)->(∀p∈j8,p.1∉fp)->∀b∈fp,yk X2 j8 H' b:=λ{H' j8} hn hp b hb=>by
  have o4:=I4.ok;subst oh;exact⟨hn b hb,(o4.Qz b hb).1,o4.ER b hb,.inl hb,(o4.Qz b hb).2,λp pE=>by
   have uF:p∈([]:z0e)++j8:=pE;rw [mx] at uF;intro z;exact hp p uF (by rw [z];exact hb)⟩
 have fin:∀{s':Shared}{σ':St}{H':Hp},Inv X2 [] σ' H' s'->DD.nx (σ.set iy (some (.ref s2.heap.objs.size))) H' ->
   compPost 151 X.A X.xe (some (assign (.Name y py) X.env)) (λ_ s'=>SP X ai DD .next s') (.ref s2.heap.objs.size) G2.objs.size (.ok .next) s':=λ{s' σ' H'} J' q=>by
  subst oh;obtain⟨m',Dc,_⟩:=J'.loc;have I5:Inv X ai σ H' s':=I2.Nc (s':=s') J'.os J'.base J'.cw J'.bare λb hb=>by
   obtain⟨_,f1,_,f3,f4,f5⟩:=f2 b hb;exact⟨f3,f1,f4,f5⟩
  obtain⟨f0,f1,_,f3,f4,f5⟩:=I2.xR (H':=H') (b:=G2.objs.size) (by rw [Lv];exact oE _) J'.free;show wpAny _ _ (assign (.Name y py) X.env (.ref s2.heap.objs.size)) _ _ s';refine wpAny_assign_Name (u7 I5 hN hiy (.inl hy) (v:=.ref s2.heap.objs.size) rfl (λRx I6 bI=>?_) (.inr hy));obtain⟨a,sb,ha⟩:=bI;have nCa:G2.objs.size≠a:=by
   rcases ha with ha | ha
   .rw [ha];exact f1
   exact(f4 _ _ ha).symm
  refine⟨m',Dc.sameBut sb nCa,λh' Lj=>?_⟩;exact⟨_,H',I6.turned (t':=Rx.toks) (λb o hb e=>(Lj.2 b hb).trans e) f0 f1 f3 f4 f5,q⟩
 have loop:∀s₃:Shared,s₃={ s2 with heap:=h₁,toks:=s2.toks+([]:z0d).length } ->
   codeAny 151 X.A (.compLoop (.ListComp elt [⟨tg,iter,ifs,0⟩] scope pos) 0 (.ref it) (.ref s2.heap.objs.size) (compEnvC scope cl G2.objs.size X.env))
    (compPost 151 X.A X.xe (some (assign (.Name y py) X.env)) (λ_ s'=>SP X ai DD .next s') (.ref s2.heap.objs.size) G2.objs.size) s₃:=by
  rintro s₃ rfl;subst oh;refine qi (λn s'=>∃i ys σ' H',Inv 498 [] σ' H' s'/\tn i s'.heap/\(∀b∈fp,H' b=none)/\W i n ys σ' H') ?_ m0
   ⟨0,[],_,_,I4,Rj,λb hb=>by rw [aj (bV (IB b hb))];exact(f2 b hb).1,w0⟩
  rintro n s' ⟨i,ys,σ0,H',J',u_,Tx,w'⟩;rcases turn i n ys σ0 H' w' with ⟨stop,q⟩ | ⟨go,m',hm,step⟩
  .refine dS (T.done 498 rfl rfl rfl hc i [] s' _ H' (λ_ _=>False) J' (rZ Tx 144) u_ stop) (λr s4 ⟨hr,J4⟩=>?_) λ_ _ z=>z;subst hr;exact fin J4 q
  refine dS (T.item 498 rfl rfl rfl hc i [] s' _ H' (λ_ _=>False) J' (rZ Tx 144) u_ go) (λr s4 ⟨u,hr,h4⟩=>?_) λ_ _ z=>z;subst hr;refine dS h4 (λ_ s5 bI=>?_) λ_ _ z=>z;obtain⟨xv,H5,J5,r5,y5,DM,Tw⟩:=bI;have J5':=J5.pinned (rZ Tw 144) (T.obj _ _ DM);have back:∀{s7:Shared}{σ7:St}{H7:Hp},Inv 498 ([]++o7 fp s5.heap) σ7 H7 s7->Inv 498 [] σ7 H7 s7/\tn (i+1) s7.heap/\∀b∈fp,H7 b=none:=λ{s7 σ7 H7} J7=>by
   refine⟨J7.kJ,T.keep _ _ _ DM λb hb o e=>(J7.pin (b,o) (dJ _ (dJ _ (ig hb e)))).1,λb hb=>?_⟩;obtain⟨o,e,d⟩:=T.obj _ _ DM b hb;exact(J7.pin (b,o) (dJ _ (dJ _ (ig hb e)))).2.1
  show wpAny _ _ (assign tg (tS X scope cl G2.objs.size s2 H2 (ts++js.map (·.2)) fp).env u) _ _ s5;refine dS (YN _ s5 _ H5 xv u _ J5' r5 (step xv H5 y5)) (λ_ s6 bI=>?_) λ_ _ z=>z;obtain⟨σ6,H6,J6,q6⟩:=bI;refine dS (OQ _ s6 _ H6 _ J6 q6) (λb s7 bI=>?_) λ_ _ z=>z;obtain⟨H7,J7,q7⟩:=bI;cases b with
  | false =>
   rw [au cX] at q7 ⊢;obtain⟨J8,WN,Zj⟩:=back J7;exact⟨m',hm,i+1,ys,σ6,H7,J8,WN,Zj,q7⟩
  | true =>
   rw [aw rfl] at q7 ⊢;refine dS (Df _ s7 _ H7 _ J7 q7) (λyv s8 bI=>?_) λ_ _ z=>z;obtain⟨y,H8,J8,r8,Y8,Qi,w8⟩:=bI;refine dS (cx (X:=tS X scope cl G2.objs.size s2 H2 (ts++js.map (·.2)) fp) _ s8 _ H8 (.ref s2.heap.objs.size) [y] (.ref s2.heap.objs.size) [yv] (λv H'=>W (i+1) m' (ys++[y]) σ6 H') J8 rfl (.cons r8 .nil) ⟨s2.heap.objs.size,ys,y,rfl,rfl,Y8,Qi,w8⟩)
    (λ_ s9 ⟨_,H9,J9,_,w9⟩=>?_) λ_ _ z=>z
   obtain⟨J10,NB,O5⟩:=back J9;exact⟨m',hm,i+1,ys++[y],σ6,H9,J10,NB,O5,w9⟩
 exact codeAny_compStart_list (loop _ rfl) (T.self _ _ _ _ _ Rj (loop _ rfl))
end L2
namespace hJ
open PySem L2 M11
section
def xF {l:z0t}(h:l.Nodup):(l.map (Sum.inr:Str->aQ)).Nodup:=List.Pairwise.map _ (λa b hab e=>hab (kr e)) h
structure Fz (K:bp)(ps:z0f)(st:Str->z0g)(H:Hp)(d:Addr):Prop where
 hd:Rd H d (.dK (ps.map jA))
 n1:(ps.map 87).Nodup
 n2:(ps.map (·.2)).Nodup
 lst:∀p∈ps,∃ts,H p.2=some 222/\Paired (λt (e:Nat×Nat)=>aZ K H t [.int (e.1:Int),.int (e.2:Int)]) ts (st p.1)
def Rd.same {H H':Hp}{a:Addr}{u:HO}(h:Rd H a u)(s:aD H H'):Rd H' a u:=h.elim (λz=>.inl (s _ _ z)) λ⟨o,z⟩=>.inr ⟨o,s _ _ z⟩
theorem Fz.same {ps:z0f}{st:Str->z0g}{H H':Hp}{d:Addr}(h:Fz K ps st H d)(s:aD H H'):Fz K ps st H' d :=
 ⟨Rd.same h.hd s,h.n1,h.n2,λp hp=>let ⟨ts,a,b⟩:=h.lst p hp;⟨ts,s _ _ a,Paired.b9 b λ_ _ z=>s.tup z⟩⟩
def v7 (st:Str->z0g)(n:Str)(e:Nat×Nat):Str->z0g:=λz=>if z=n then st z++[e] else st z
def Fz.more {ps:z0f}{st:Str->z0g}{H:Hp}{d:Addr}(h:Fz K ps st H d){p:Str×Addr}(hp:p∈ps){ts:z0q}{t:Addr}{e:Nat×Nat}(a:H p.2=some 222)
  (b:Paired (λt (e:Nat×Nat)=>aZ K H t [.int (e.1:Int),.int (e.2:Int)]) ts (st p.1))(c:aZ K H t [.int (e.1:Int),.int (e.2:Int)]) :
  Fz K ps (v7 st p.1 e) (upd H p.2 (.lst (ts.map V.ref++[.ref t]))) d:=by
 have nd:d≠p.2:=λz=>by
  rcases h.hd with q | ⟨o,q⟩
  .rw [z,a] at q;cases q
  rw [z,a] at q;cases q
 refine⟨?_,h.n1,h.n2,λp' pE=>?_⟩
 .rcases h.hd with q | ⟨o,q⟩
  .exact .inl (by rw [aj nd];exact q)
  exact .inr ⟨o,by rw [aj nd];exact q⟩
 by_cases z:p'=p
 .rw [z];refine⟨ts++[t],by rw [ae,ba];rfl,?_⟩;have e1:v7 st p.1 e p.1=st p.1++[e]:=aw rfl;rw [e1];exact fc (Paired.b9 b λ_ _ z=>bz a z) (bz a c)
 have n1:p'.1≠p.1:=λq=>z (by
  have w1:=gS ps h.n1 p' pE;have w2:=gS ps h.n1 p hp;rw [q,w2] at w1;injection w1 with w3;injection w3 with w4;exact gQ q w4.symm)
 have n2:p'.2≠p.2:=λq=>by
  obtain⟨i,hi,ei⟩:=rf.mp pE;obtain⟨j,hj,ej⟩:=rf.mp hp;have zx:i=j:=by
   refine(v9 (xs:=ps.map (·.2)) (h₀:=by simpa using hi) (h₁:=by simpa using hj) h.n2).mp ?_;rw [oR,oR,ei,ej];exact q
  subst zx;exact z (ei.symm.trans ej)
 obtain⟨rX,a',b'⟩:=h.lst p' pE;refine⟨rX,by rw [aj n2];exact a',?_⟩;have e1:v7 st p.1 e p'.1=st p'.1:=au n1;rw [e1];exact Paired.b9 b' λ_ _ z=>bz a z
def CC (K:bp):Sp:=λvs H Q _=>∃(R:Addr)(rs:z0q)(aa:88),vs=[.ref R]/\aI K H R 153/\bM K H rs aa/\aa.length<=1000/\329 /\
 ∀(d:Addr)(ps:z0f)(st:Str->z0g)(aL:z0h)(H':Hp),H d=none->aD H H'->H' d=some (.dK (ps.map jA))->Fz K ps st H' d->ps.map 87=hd aa->(∀p∈ps,H p.2=none)->uj aa aL->qE aa aa.length aL ->
  (∀n k j,n∈hd aa->((k,j)∈st n↔QQ aa (hd aa) 328 n k j))->Q (.ref d) H'
def i8:aK ["rules","empty","steps","number","rule","place","part","filled"] ["rules"] (ay AU):=163
def Hn (F:iz K "steps_with_like_rows" "steps_with_like_rows" AU f fd)(T:Txt mg)(GE:aF P w K mg base 1 "found_empties" ["rules"] (oY K))(GH:aF P w K mg base 1 "heads_of" ["rules"] (lB K)):bR P w K mg base fI 2 f fd ["rules"] (CC K):=by
 refine F.ok i8 184 186
 .obtain⟨R,rs,aa,rfl,_⟩:=h;rfl
 obtain⟨R,rs,aa,rfl,hR,cM,bO,h8,q⟩:=h;have hu:=gh hr;refine⟨_,ag (aA (i:=1) i8.nd rfl (Or.inr rfl) (bN (eZ rfl) rfl T.Dp gC (ab (bC GE hr rfl (ab 91 ak)) ak)))
  (ag (aA (i:=2) i8.nd rfl 90 (bN (eZ rfl) rfl T.Dp gC (ab
   (aT ["name"] [] rfl (aR (bC GH hr rfl (ab 91 ak))) 162 nofun rfl nofun
    (λ_ _ _ _ _=>aq (i:=0) (show (["name"]:z0t).Nodup by decide +kernel) rfl 90) 220
    (λ_ _ _ _ _=>bX (ab 91 (ab (bK ak) ak)))) ak)))
  (ag (bJ bW rfl (nX rfl T.LA (ab 91 ak)) (gu rfl (az (aq (i:=3) i8.nd rfl 90) (az (aq (i:=4) i8.nd rfl 90) bE)))
   (ag (gG (iy:=7) ["place","part"] [(1,"empty")] i8.nd rfl rfl rfl (nW rfl T.LA (ab (a_ bF (pv 4) av 142) ak)) 162 nofun rfl nofun
    (λ_ _ _ _ _=>di (n:=2) K rfl (az (aq (i:=0) (show (["place","part","empty"]:z0t).Nodup by decide +kernel) rfl 90) (az (aq (i:=1) (show (["place","part","empty"]:z0t).Nodup by decide +kernel) rfl 90) bE)))
    (λ_ _ _ _ _=>fM (fC (dD hu (pv 1) (pv 2)))) (λ_ _ _ _ _=>pv 0))
   (ao (bJ bW rfl (nW rfl T.LA (ab (a_ bF (pv 4) av 142) ak)) (gu rfl (az (aq (i:=5) i8.nd rfl 90) (az (aq (i:=6) i8.nd rfl 90) bE)))
    (ao (cy (PW.pt (mI (fC (kR hu (pv 6) (pv 2))) (jR (bc (D0 hu) (pv 7) (bX (ab (bK ak) (ab (bK (ab (pv 5) ak)) ak))) rfl))))
     (ao (cU (gZ gA iD iE cx (fO hu (pv 2) (a_ bF (pv 4) av 142) 142) (ab (bX (ab (pv 3) (ab (pv 5) ak))) ak)))) bf)))))
   )
  (ao (bw (pv 2))))),?_⟩
 nofun
 have ll:=a7 cM;refine⟨_,rfl,R,rs,aa,rfl,hR,cM,bO,h8,λD1 DL aL H1 f1 s1 e1 w1 emp mW=>?_⟩;have X8:Paired (λt (kv:aQ×V)=>aZ K H1 t [kV kv.1,kv.2]) DL (aL.map λp=>((Sum.inr p.1:aQ),V.int (p.2:Int))):=c_ w1 λ_ _ z=>z;refine⟨D1,DL,_,rfl,e1,X8,λe he=>?_⟩;have ekE:dw (aL.map λp=>((Sum.inr p.1:aQ),V.int (p.2:Int))) []=aL.map λp=>((Sum.inr p.1:aQ),V.int (p.2:Int)):=oo _ [] (by
  rw [mx,ff];have:=xF emp.nd;rw [ff] at this;exact this)
 rw [ekE];have Er:∀z,(a0 (aL.map λp=>((Sum.inr p.1:aQ),V.int (p.2:Int))) 150).isSome=decide (z∈aL.map 87):=λz=>by
  rw [jl,eQ,decide_eq_true_iff,ff];have:(aL.map λp:Str×Nat=>(Sum.inr p.1:aQ))=(aL.map 87).map Sum.inr:=by rw [ff];rfl
  show _∈(aL.map λp:Str×Nat=>(Sum.inr p.1:aQ))↔_;rw [this];exact dr
 generalize (aL.map λp=>((Sum.inr p.1:aQ),V.int (p.2:Int)))=kE at Er ⊢;have s2:=s1.trans (af he (.dK kE));have e2:upd H1 e (.dK kE) e=some (.dK kE):=ae;generalize upd H1 e (.dK kE)=H2 at s2 e2;refine⟨_,rfl,R,rs,aa,rfl,s2.seq hR,cM.same s2,bO,λD2 H3 f3 s3 e3=>?_⟩;have Ox:=ja 204 [];simp only [kc,ar] at Ox;refine⟨D2,rfl,⟨_,aI.of e3⟩,λD3 JM=>tW (aI.of e3) ∅ JM λts ps H4 s4 e4 m4 p4 l4 n4=>?_⟩;have n1:(ps.map 87).Nodup:=by rw [m4];exact pK _ gI
 have Ij:Paired (λt (kv:aQ×V)=>aZ K H4 t [kV kv.1,kv.2]) ts (ps.map jA):=c_ p4 λ_ _ z=>z;refine⟨D3,ts,_,rfl,e4,Ij,λd vA=>?_⟩;have TV:dw (ps.map jA) []=ps.map jA:=oo _ [] (by
  rw [mx,lG];exact xF n1)
 rw [TV];have s5:=((s2.trans s3).trans s4).trans (af vA (.dK (ps.map jA)));have yM:=af vA (.dK (ps.map jA));have e5:upd H4 d (.dK (ps.map jA)) d=some (.dK (ps.map jA)):=ae;have TZ:=yM _ _ (s4 _ _ (s3 _ _ e2));have Ak:H d=none:=((s2.trans s3).trans s4).free vA;have S5:Fz K ps (λ_=>[]) (upd H4 d (.dK (ps.map jA))) d:=⟨.inl e5,n1,n4,λp hp=>⟨[],yM _ _ (l4 p hp).1,.nil⟩⟩;have Qx:∀p∈ps,H p.2=none:=λp hp=>(s2.trans s3).free (l4 p hp).2.1;generalize upd H4 d (.dK (ps.map jA))=H5 at s5 e5 TZ S5;clear yM;have eb:(λz=>(a0 kE 150).isSome)=λz=>decide (z∈aL.map 87):=funext Er;refine⟨_,rfl,R,_,rfl,s5.seq hR,?_⟩
 let yj:uh:=λi σ H6=>∃(st:Str->z0g)(y3 y4 y5 y6 y7:Option V),σ=[aE R,aE e,aE d,y3,y4,y5,y6,y7]/\aD H H6/\H6 e=some (.dK kE)/\H6 d=some (.dK (ps.map jA))/\Fz K ps st H6 d /\
  (∀n,(st n).length<=8 * i)/\∀n k j,n∈hd aa->((k,j)∈st n↔k < i/\QQ aa (hd aa) 328 n k j)
 refine k0 (xs:=145) yj
  ⟨λ_=>[],none,none,none,none,none,rfl,s5,TZ,e5,S5,92,92⟩ ?_ ?_ ?_
 .rintro i σ H6 _ ⟨st,y3,y4,y5,y6,y7,rfl,s6,_⟩;exact s6.seq hR
 .rintro i x σ H6 t ex ⟨st,y3,y4,y5,y6,y7,rfl,s6,Pf,ZD,S6,l6,c6⟩ ht
  ac_nf0
  rw [aX] at ex;obtain⟨r,er,rfl⟩:=bT.mp ex;obtain⟨ru,tN,p,v1,v2⟩:=cM.get er;have kZ:=cE tN;have O2:=h8 ru kZ;have li:=(bu.mp tN).1;have vf:=af ht (.tup [155,.ref r]);have MR:aZ K (upd H6 t (.tup [155,.ref r])) t [155,.ref r]:=aZ.of ae;have s7:=s6.trans vf;have Pe:=vf _ _ Pf;have ed7:=vf _ _ ZD;have S7:=S6.same vf;generalize upd H6 t (.tup [155,.ref r])=H7 at MR s7 Pe ed7 S7;refine⟨t,_,rfl,MR,rfl,_,_,rfl,_,_,rfl,rfl,?_⟩;refine⟨_,rfl,r,_,_,_,rfl,rfl,s7.tup v1,rfl,p,_,rfl,s7.tup v2,λD5 Qu=>zO rfl (s7.tup v2) ∅ Pe Qu λH8 P7 e8=>?_⟩;rw [eb] at e8;have s8:=s7.trans P7;have ee8:=P7 _ _ Pe;have ed8:=P7 _ _ ed7;have S8:=S7.same P7;have nD5:∀p∈ps,p.2≠D5:=λp hp z=>by
   obtain⟨rX,a,_⟩:=S7.lst p hp;rw [z,Qu] at a;cases a
  obtain⟨pn,zw,Am⟩:∃pn∈ps,pn.1=ru.1:=by
   have:ru.1∈ps.map 87:=by rw [m4];exact(il _ _ _).mpr (.inr (iB kZ))
   obtain⟨pn,a,b⟩:=bU.mp this;exact⟨pn,a,b⟩
  refine⟨_,rfl,r,_,_,_,rfl,rfl,s8.tup v1,rfl,p,_,rfl,s8.tup v2,?_⟩
  let Fe:uh:=λj σ H9=>∃(st:Str->z0g)(y5 y6:Option V),σ=[aE R,aE e,aE d,some (155),aE r,y5,y6,aE D5]/\aD H H9/\H9 e=some (.dK kE)/\H9 d=some (.dK (ps.map jA))/\Fz K ps st H9 d /\
   H9 D5=some (.lst ((EN 328 ru.2 ru.2.length).map V.int))/\(∀n,(st n).length<=8 * i+j)/\∀n k j',n∈hd aa->((k,j')∈st n↔(k < i\/(k=i/\j' < j))/\QQ aa (hd aa) 328 n k j')
  refine pI (xs:=ru.2.map V.str) Fe
   ⟨st,_,_,rfl,s8,ee8,ed8,S8,e8,λn=>l6 n,λn k j' hn=>by rw [c6 n k j' hn];simp⟩ ?_ ?_ ?_
  .rintro j σ H9 _ ⟨st,y5,y6,rfl,s9,_⟩;exact s9.tup v2
  .rintro j x σ H9 t2 iM ⟨st,y5,y6,rfl,s9,Zz,ZC,S9,e9,l9,c9⟩ j9
   ac_nf0
   rw [aX] at iM;obtain⟨z,ez,rfl⟩:=bT.mp iM;have lj:=(bu.mp ez).1;have yL:=af j9 (.tup [.int (j:Int),.str z]);have Ip:aZ K (upd H9 t2 (.tup [.int (j:Int),.str z])) t2 [.int (j:Int),.str z]:=aZ.of ae;have qt:=s9.trans yL;have xW:=yL _ _ Zz;have qA:=yL _ _ ZC;have Fy:=yL _ _ e9;have Ni:=S9.same yL;generalize upd H9 t2 (.tup [.int (j:Int),.str z])=z8 at Ip qt xW qA Fy Ni;have mem:(a0 (ps.map jA) 150).isSome=true↔z∈hd aa:=by rw [eQ,lG,m4];exact dr
   have kO:¬(z∈hd aa/\K4 328 ru.2 j=true)->∀n k j',n∈hd aa->((k,j')∈st n↔(k < i\/(k=i/\j' < j+1))/\QQ aa (hd aa) 328 n k j'):=λhn n k j' YC=>by
    rw [c9 n k j' YC];constructor
    .rintro⟨h1,h3⟩;exact⟨∅,h3⟩
    rintro⟨h1,h3⟩;refine⟨?_,h3⟩;by_cases c:k=i/\j'=j
    .obtain⟨A9,z',a1,a2,a3,a4,a5⟩:=h3;rw [c.1,tN] at a1;cases a1;rw [c.2] at a5;rw [c.2,ez] at a3;cases a3;exact absurd ⟨a4,a5⟩ hn
    omega
   have l9':∀n,(st n).length<=8 * i+(j+1):=λn=>by have:=l9 n;omega
   refine⟨t2,_,rfl,Ip,rfl,_,_,rfl,_,_,rfl,rfl,?_⟩;refine⟨_,rfl,_,rfl,d,_,rfl,cu.k (k:=140) qA,_,rfl,?_⟩;refine 246
   .have hz:=mem.mp c;refine⟨_,rfl,uq,λl1 hl1=>?_⟩;have Km:=af hl1 138;have JT:upd z8 l1 138 l1=some 138:=ae;have nl1:l1≠D5:=(aC Fy hl1).symm;generalize upd z8 l1 138=Fg at Km JT;refine⟨_,rfl,Fl,λl2 uG=>?_⟩;have A6:=af uG (.lst [.int (j:Int)]);have M_:upd Fg l2 (.lst [.int (j:Int)]) l2=some (.lst [.int (j:Int)]):=ae;have Xw:l2≠D5:=(aC (Km _ _ Fy) uG).symm;generalize upd Fg l2 (.lst [.int (j:Int)])=z7 at A6 M_;refine⟨qo,λt3 Sz=>?_⟩;have NU:=af Sz (.tup [.ref l1,.ref l2]);have e13:aZ K (upd z7 t3 (.tup [.ref l1,.ref l2])) t3 [.ref l1,.ref l2]:=aZ.of ae;generalize upd z7 t3 (.tup [.ref l1,.ref l2])=DE at NU e13;have qr:=(Km.trans A6).trans NU;refine⟨t3,D5,l1,l2,_,[],[(j:Int)],rfl,rfl,e13,aI.of (qr _ _ Fy),aI.of (NU _ _ (A6 _ _ JT)),aI.of (NU _ _ M_),nl1,Xw,_,rfl,?_⟩;have Jr:=Ni.same qr;have NT:=qt.trans qr;refine b_ (λc2=>?_) (λc2=>?_)
    .obtain⟨tsn,an,bn⟩:=Jr.lst pn zw;have vn:=gS ps n1 pn zw;rw [Am] at vn;have hg:cu DE d (.str ru.1) (some (.ref pn.2)):=by
      have:=cu.k (k:=Sum.inr ru.1) (qr _ _ qA);rw [vn] at this;exact this
     have ltn:=a7 bn;have l9n:=l9 pn.1;refine⟨_,rfl,_,rfl,r,_,_,_,rfl,rfl,NT.tup v1,rfl,d,_,rfl,hg,.inl ⟨rfl,_,aI.of an⟩,_,rfl,_,rfl,qo,λt4 zu=>?_⟩;have qJ:=af zu (.tup [155,.int (j:Int)]);have e14:aZ K (upd DE t4 (.tup [155,.int (j:Int)])) t4 [155,.int (j:Int)]:=aZ.of ae;generalize upd DE t4 (.tup [155,.int (j:Int)])=H14 at qJ e14;have Uv:=Jr.same qJ;have LV:=qJ _ _ an;have aaa:=Paired.b9 bn λt' (e':Nat×Nat)(z:aZ K DE t' [.int (e'.1:Int),.int (e'.2:Int)])=>qJ.tup z;refine⟨pn.2,_,_,rfl,rfl,LV,219,?_⟩;have S15:=Uv.more (e:=(i,j)) zw LV aaa e14;have ne1:e≠pn.2:=λz=>by have:=qJ _ _ (qr _ _ xW);rw [z,LV] at this;cases this
     have ne2:d≠pn.2:=λz=>by have:=qJ _ _ (qr _ _ qA);rw [z,LV] at this;cases this
     refine⟨v7 st pn.1 (i,j),_,_,rfl,λb o hb=>?_,by rw [aj ne1];exact qJ _ _ (qr _ _ xW),by rw [aj ne2];exact qJ _ _ (qr _ _ qA),S15,by rw [aj (nD5 pn zw).symm];exact qJ _ _ (qr _ _ Fy),λn=>?_,λn k j' YC=>?_⟩
     .rw [aj (λz=>by rw [z,Qx pn zw] at hb;cases hb)];exact qJ _ _ (NT b o hb)
     .have:=l9 n;unfold v7
      split
      .rw [a8];simp;omega
      omega
     have hit:QQ aa (hd aa) 328 ru.1 i j:=⟨ru,z,tN,rfl,ez,hz,c2⟩;have Nd:=c9 n k j' YC;unfold v7;by_cases cn:n=pn.1
     .rw [aw cn,bP,bB,Nd];constructor
      .rintro(⟨h1,h3⟩ | h1)
       .exact⟨∅,h3⟩
       cases h1;exact⟨∅,by rw [cn,Am];exact hit⟩
      rintro⟨h1,h3⟩;by_cases cc:k=i/\j'=j
      .exact .inr (by rw [cc.1,cc.2])
      exact .inl ⟨∅,h3⟩
     rw [au cn,Nd];constructor
     .rintro⟨h1,h3⟩;exact⟨∅,h3⟩
     rintro⟨h1,h3⟩;refine⟨?_,h3⟩;by_cases cc:k=i/\j'=j
     .obtain⟨A9,z',a1,a2,_⟩:=h3;rw [cc.1,tN] at a1;cases a1;exact absurd (a2.symm.trans Am.symm) cn
     omega
    exact⟨st,_,_,rfl,NT,qr _ _ xW,qr _ _ qA,Jr,qr _ _ Fy,l9',kO λ⟨_,h⟩=>c2 h⟩
   exact⟨st,_,_,rfl,qt,xW,qA,Ni,Fy,l9',kO λ⟨h,_⟩=>c (mem.mpr h)⟩
  rintro σ H9 ⟨st,y5,y6,rfl,s9,Zz,ZC,S9,e9,l9,c9⟩;rw [ar] at l9 c9;refine⟨st,_,_,_,_,_,rfl,s9,Zz,ZC,S9,λn=>?_,λn k j' hn=>?_⟩
  .have:=l9 n;omega
  rw [c9 n k j' hn];constructor
  .rintro⟨h1 | ⟨h1,h2⟩,h3⟩
   .exact⟨∅,h3⟩
   exact⟨∅,h3⟩
  rintro⟨h1,h3⟩;refine⟨?_,h3⟩;by_cases c:k < i
  .exact .inl c
  refine .inr ⟨∅,?_⟩;obtain⟨A9,z',a1,_,a3,_⟩:=h3;have:k=i:=by omega
  rw [this,tN] at a1;cases a1;exact(bu.mp a3).1
 rintro σ H6 ⟨st,y3,y4,y5,y6,y7,rfl,s6,Pf,ZD,S6,l6,c6⟩;rw [ar,ll] at c6;refine⟨_,rfl,q d ps st aL H6 Ak s6 ZD S6 m4 Qx emp mW λn k j hn=>?_⟩;rw [c6 n k j hn];constructor
 .exact λh=>h.2
 intro h;obtain⟨A9,_,a1,_⟩:=id h;exact⟨(bu.mp a1).1,h⟩
end
end hJ
namespace L2
open PySem
def cu.r {H:Hp}{a:Addr}{kvs:93}{k:aQ}(e:Rd H a (.dK kvs)):cu H a (kV k) (a0 kvs k):=.inl ⟨kvs,k,e,rfl,rfl⟩
end L2
namespace hJ
open PySem L2 M11
section
def Down (aa:88) (names:z0t)(st:Str->z0g)(rk:Str->Nat):Prop:=∀n∈names,∀e∈st n,∃ru z,aa[e.1]?=some ru/\ru.2[e.2]?=some z/\z∈names/\rk z < rk n
def Mj (K:bp):Sp:=λvs H Q _=>∃(R d:Addr)(rs:z0q)(aa:88)(ps:z0f)(st:Str->z0g)(name:Str)(rk:Str->Nat),vs=[.ref R,.ref d,.str name]/\aI K H R 153/\bM K H rs aa/\aa.length<=1000 /\
 Fz K ps st H d/\ps.length<=1000/\name∈ps.map 87/\Down aa (ps.map 87) st rk/\∀(D:Addr)(H':Hp),H D=none->aD H H'->H' D=some 138->Q (.ref D) H'
structure LY (K:bp) (names:z0t)(rk:Str->Nat)(name:Str)(H H5:Hp)(D m:Addr)(oA:z0q)(ky:z0f) (ms:z0t)(kvs:93):Prop where
 sm:aD H H5
 hD:H5 D=some (.lst (oA.map V.ref))
 hm:H5 m=188
 keys:kvs.map 87=ms.map Sum.inr
 nd:ms.Nodup
 sub:∀x∈ms,x∈names
 wl:ky.length=ms.length+1
 wv:Paired (λt (e:Str×Addr)=>aZ K H5 t [.str e.1,.ref e.2]) oA ky
 we:∀e∈ky,e.1∈names/\rk e.1<=rk name/\∃xs,H5 e.2=some (.lst xs)/\xs.length<=ky.length/\e.2≠D
def LY.len {names:z0t}{rk:Str->Nat}{name:Str}{H H5:Hp}{D m:Addr}{oA:z0q}{ky:z0f}{ms:z0t}{kvs:93}(h:LY K names rk name H H5 D m oA ky ms kvs):oA.length=ky.length/\kvs.length=ms.length/\ms.length<=names.length:=by
 refine⟨a7 h.wv,?_,iL _ _ h.nd h.sub⟩;have:=congrArg List.length h.keys;simpa using this
def LY.more {names:z0t}{rk:Str->Nat}{name z:Str}{H H5 H9:Hp}{D m t c:Addr}{oA:z0q}{ky:z0f}{ms:z0t}{kvs:93}{xs:List V}(h:LY K names rk name H H5 D m oA ky ms kvs)(fD:H D=none)(fm:H m=none)
  (hz:z∈names)(hr:rk z<=rk name)(hn:z∉ms)(s:aD (upd H5 m (.dK (bS kvs 150 (.bl true)))) H9)(ht:aZ K H9 t [.str z,.ref c])(hc:H9 c=some (.lst xs))(hx:xs.length<=ky.length+1)(nc:c≠D) :
  LY K names rk name H (upd H9 D (.lst (oA.map V.ref++[.ref t]))) D m (oA++[t]) (ky++[(z,c)]) (ms++[z]) (bS kvs 150 (.bl true)):=by
 have Vb:D≠m:=λe=>by have:=h.hD;rw [e,h.hm] at this;cases this
 have yn:H9 D=some (.lst (oA.map V.ref)):=s _ _ (by rw [aj Vb];exact h.hD);have hm9:H9 m=some (.dK (bS kvs 150 (.bl true))):=s _ _ ae;refine⟨λb o hb=>?_,by rw [ae,ba];rfl,by rw [aj Vb.symm];exact hm9,?_,?_,?_,?_,?_,?_⟩
 .rw [aj (λe=>by rw [e,fD] at hb;cases hb)];exact s _ _ (by rw [aj (λe=>by rw [e,fm] at hb;cases hb)];exact h.sm b o hb)
 .rw [i9 (by rw [h.keys];exact λe=>hn (dr.mp e)),h.keys,ba];rfl
 .refine iN.mpr ⟨h.nd,92,λa ha b hb e=>?_⟩;rw [bB.mp hb] at e;exact hn (e ▸ ha)
 .intro x Yh;rcases bP.mp Yh with e | e
  .exact h.sub x e
  rw [bB.mp e];exact hz
 .rw [a8,a8,h.wl];rfl
 .exact fc (Paired.b9 h.wv λ_ _ e=>bz yn (s.tup (iq h.hm e))) (bz yn ht)
 intro e he;rw [a8];rcases bP.mp he with e' | e'
 .obtain⟨a,b,ys,c1,d1,n1⟩:=h.we e e';exact⟨a,b,ys,by rw [aj n1];exact s _ _ (by rw [aj (λq=>by rw [q,h.hm] at c1;cases c1)];exact c1),∅,n1⟩
 rw [bB.mp e'];exact⟨hz,hr,xs,by rw [aj nc];exact hc,hx,nc⟩
def nI:aK ["rules","steps","name","ways","met","at","way","number","place","part"] ["rules","steps","name"] (ay NK):=163
def Of (F:iz K "way_back" "way_back" NK f fd)(T:Txt mg):bR P w K mg base fI 1 f fd ["rules","steps","name"] (Mj K):=by
 refine F.ok nI 184 186
 .obtain⟨R,d,rs,aa,ps,st,name,rk,rfl,_⟩:=h;rfl
 obtain⟨R,d,rs,aa,ps,st,name,rk,rfl,hR,cM,bO,S,EC,Iu,Vx,q⟩:=h;have hu:=gh hr;refine⟨_,ag (aA (i:=3) nI.nd rfl 90 (bK (ab (bX (ab (pv 2) (ab (bK ak) ak))) ak)))
  (ag (aA (i:=4) nI.nd rfl 90 fX)
  (ag (aA (i:=5) nI.nd rfl 90 av)
  (ag (iw bW (bc lX (pv 5) (aP aU rfl T.len d_ (ab (pv 3) ak)) (cA _))
   (ag (aA (i:=6) nI.nd rfl 90 (a_ bF (a_ cO (pv 3) (pv 5) 142) av 142))
   (ag (bJ bW rfl (aR (fO hu (pv 1) (a_ bF (a_ cO (pv 3) (pv 5) 142) av 142) 142)) (gu rfl (az (aq (i:=7) nI.nd rfl 90) (az (aq (i:=8) nI.nd rfl 90) bE)))
    (ag (aA (i:=9) nI.nd rfl 90 (a_ bF (a_ bF (a_ cO 91 (pv 7) 142) av 142) (pv 8) 142))
    (ag (cy (bc jx (pv 9) (pv 2) (cA _)) (ao iU) bf)
    (ao (cy (fC (dD hu (pv 9) (pv 4)))
     (ag (fK hu (pv 4) (pv 9) fY rfl) (ao (cU (gZ gA iD iE cx (pv 3) (ab (bX (ab (pv 9) (ab (aN jh (pv 6) (bK (ab (bX (ab (pv 7) (ab (pv 8) ak))) ak))) ak))) ak))))) bf)))))
   (ao (N8 (i:=5) nI.nd rfl 90 av OE)))))
  (ao (bw (bK ak)))))),?_⟩
 nofun
 have C_:(ps.map 87).length=ps.length:=ar _;refine⟨_,rfl,uq,λl0 Vq=>?_⟩;have s1:=af Vq 138;have e1:upd H l0 138 l0=some 138:=ae;generalize upd H l0 138=H1 at s1 e1;refine⟨qo,λt0 ht0=>?_⟩;have s2:=af ht0 (.tup [.str name,.ref l0]);have e2:aZ K (upd H1 t0 (.tup [.str name,.ref l0])) t0 [.str name,.ref l0]:=aZ.of ae;generalize upd H1 t0 (.tup [.str name,.ref l0])=H2 at s2 e2;refine⟨Fl,λD hD=>?_⟩;have s3:=af hD (.lst [.ref t0]);have e3:upd H2 D (.lst [.ref t0]) D=some (.lst ([t0].map V.ref)):=ae;have nl0:l0≠D:=aC (s2 _ _ e1) hD;generalize upd H2 D (.lst [.ref t0])=H3 at s3 e3;intro m hm;have s4:=af hm (.dK []);have e4:upd H3 m (.dK []) m=some (.dK []):=ae;generalize upd H3 m (.dK [])=H4 at s4 e4;have fD:H D=none:=(s1.trans s2).free hD;have fm:H m=none:=((s1.trans s2).trans s3).free hm;have W0:LY K (ps.map 87) rk name H H4 D m [t0] [(name,l0)] [] []:=⟨((s1.trans s2).trans s3).trans s4,s4 _ _ e3,e4,rfl,gI,92,rfl,.cons ((s3.trans s4).tup e2) .nil,λe he=>by
  rw [bB.mp he];exact⟨Iu,aG _,[],s4 _ _ (s3 _ _ (s2 _ _ e1)),92,nl0⟩⟩
 refine⟨λmm σ H5=>∃(oA:z0q)(ky:z0f) (ms:z0t)(kvs:93) (at_:Nat)(y6 y7 y8 y9:Option V),σ=[aE R,aE d,some (.str name),aE D,aE m,some (.int (at_:Int)),y6,y7,y8,y9]/\LY K (ps.map 87) rk name H H5 D m oA ky ms kvs /\
  at_<=ky.length/\mm=1002 - at_,⟨1002,[t0],[(name,l0)],[],[],0,none,none,none,none,rfl,W0,92,rfl⟩,?_⟩
 rintro mm σ H5 ⟨oA,ky,ms,kvs,at_,y6,y7,y8,y9,rfl,W,hat,rfl⟩;obtain⟨lw,lk,lm⟩:=W.len;have aas:=W.wl;refine⟨_,rfl,_,rfl,D,_,rfl,.inl (aI.of W.hD),_,_,rfl,rfl,_,rfl,?_⟩;refine 246
 .have c':=cR c;rw [ar,lw] at c';have jj:at_ < ky.length:=by omega
  obtain⟨n,l,en⟩:∃n l,ky[at_]?=some (n,l):=⟨(ky[at_]).1,(ky[at_]).2,cZ jj⟩;obtain⟨t1,et1,Vj⟩:=Paired.at_ W.wv at_ (n,l) en;have V2:pQ (oA.map V.ref) (at_:Int)=some (.ref t1):=cH (by rw [aX,et1];rfl);obtain⟨hn,hrn,xs,hl,hxl,Oo⟩:=W.we (n,l) (cE en);dsimp only at hn hrn hl Oo;obtain⟨pn,zw,Am⟩:=bU.mp hn;have vn:=gS ps S.n1 pn zw;rw [Am] at vn;obtain⟨tsn,an,bn⟩:=S.lst pn zw;rw [Am] at bn;refine⟨λσ H5=>∃(oA:z0q)(ky:z0f) (ms:z0t)(kvs:93)(y6 y7 y8 y9:Option V),σ=[aE R,aE d,some (.str name),aE D,aE m,some (.int ((at_+1:Nat):Int)),y6,y7,y8,y9]/\LY K (ps.map 87) rk name H H5 D m oA ky ms kvs/\at_+1<=ky.length,?_,?_⟩
  .rintro σ H6 ⟨oA,ky,ms,kvs,y6,y7,y8,y9,rfl,W2,h2⟩;exact⟨1002 - (at_+1),∅,oA,ky,ms,kvs,at_+1,_,_,_,_,rfl,W2,h2,rfl⟩
  refine⟨_,rfl,_,rfl,D,_,_,_,rfl,rfl,aI.of W.hD,V2,t1,_,_,_,rfl,rfl,Vj,rfl,?_⟩;have hg:cu H5 d (.str n) (some (.ref pn.2)):=by
   have:=cu.r (k:=Sum.inr n) (Rd.same S.hd W.sm);rw [vn] at this;exact this
  refine⟨_,rfl,_,rfl,_,rfl,D,_,_,_,rfl,rfl,aI.of W.hD,V2,t1,_,_,_,rfl,rfl,Vj,rfl,d,_,rfl,hg,pn.2,rfl,⟨_,aI.of (W.sm _ _ an)⟩,?_⟩
  let yj:uh:=λi σ H6=>∃(oA:z0q)(ky:z0f) (ms:z0t)(kvs:93)(y7 y8 y9:Option V),σ=[aE R,aE d,some (.str name),aE D,aE m,some (.int (at_:Int)),aE l,y7,y8,y9]/\LY K (ps.map 87) rk name H H6 D m oA ky ms kvs /\
   at_+1<=ky.length/\∃e∈ky,e.2=l
  refine bQ (xs:=tsn.map V.ref) yj ⟨oA,ky,ms,kvs,_,_,_,rfl,W,jj,(n,l),cE en,rfl⟩ ?_ ?_ ?_
  .rintro i σ H6 _ ⟨oA,ky,ms,kvs,y7,y8,y9,rfl,W2,_⟩;exact aI.of (W2.sm _ _ an)
  .rintro i x σ H6 ex ⟨oA,ky,ms,kvs,y7,y8,y9,rfl,W2,h2,e0,YU,ZA⟩
   ac_nf0
   rw [aX] at ex;obtain⟨ti,eti,rfl⟩:=bT.mp ex;have lbn:=a7 bn;have lti:=(bu.mp eti).1;obtain⟨⟨k,j⟩,ekj⟩:∃e,(st n)[i]?=some e:=⟨(st n)[i]'∅,cZ ∅⟩;obtain⟨ti',TM,hti⟩:=Paired.at_ bn i (k,j) ekj;rw [eti] at TM;cases TM;obtain⟨ru,z,er,ez,hz,hrk⟩:=Vx n hn (k,j) (cE ekj);obtain⟨r,QA,p,v1,v2⟩:=Paired.at_ cM k ru er;have atr:pQ 153 (k:Int)=some (.ref r):=cH (by rw [aX,QA];rfl);have JW:pQ (ru.2.map V.str) (j:Int)=some (.str z):=cH (by rw [aX,ez];rfl);obtain⟨lw2,Vc,lm2⟩:=W2.len;have aao:=W2.wl;refine⟨ti,_,rfl,W2.sm.tup hti,rfl,_,_,rfl,_,_,rfl,rfl,?_⟩;refine⟨_,rfl,_,rfl,R,_,_,_,rfl,rfl,W2.sm.seq hR,atr,r,_,_,_,rfl,rfl,W2.sm.tup v1,rfl,_,rfl,p,_,_,_,rfl,rfl,W2.sm.tup v2,JW,?_⟩;refine⟨_,rfl,_,rfl,rfl,_,rfl,?_⟩;have nz:z≠name:=λe=>by rw [e] at hrk;omega
   refine b_ (λc=>absurd (cR c) (λe=>nz (by injection e))) (λ_=>?_);have mem:(a0 kvs 150).isSome=true↔z∈ms:=by rw [eQ,W2.keys];exact dr
   refine⟨_,rfl,_,rfl,m,_,rfl,cu.k (k:=140) W2.hm,_,rfl,?_⟩;refine 246
   .have nm:z∉ms:=λh=>by rw [mem.mpr h] at c;exact absurd c nofun
    refine⟨_,rfl,_,rfl,m,_,rfl,jZ.k (k:=140) W2.hm (br ∅),?_⟩;obtain⟨_,_,Fm,uG,aax,Xw⟩:=W2.we e0 YU;rw [ZA] at uG Xw;have Vb:D≠m:=λe=>by have:=W2.hD;rw [e,W2.hm] at this;cases this
    have nlm:l≠m:=λe=>by rw [e,W2.hm] at uG;cases uG
    have O0:upd H6 m (.dK (bS kvs 150 (.bl true))) D=some (.lst (oA.map V.ref)):=by rw [aj Vb];exact W2.hD
    have hlu:upd H6 m (.dK (bS kvs 150 (.bl true))) l=some (.lst Fm):=by rw [aj nlm];exact uG
    refine⟨_,rfl,.inl ⟨rfl,_,aI.of O0⟩,_,rfl,_,rfl,_,rfl,_,rfl,qo,λt4 zu=>?_⟩;have s4':=af zu (.tup [.int (k:Int),.int (j:Int)]);generalize upd (upd H6 m (.dK (bS kvs 150 (.bl true)))) t4 (.tup [.int (k:Int),.int (j:Int)])=H7 at s4';refine⟨Fl,λl4 hl4=>?_⟩;have s5':=af hl4 (.lst [.ref t4]);have e5':upd H7 l4 (.lst [.ref t4]) l4=some (.lst [.ref t4]):=ae;generalize upd H7 l4 (.lst [.ref t4])=H8 at s5' e5';have P8:=s4'.trans s5';refine⟨l,l4,Fm,[.ref t4],rfl,rfl,P8 _ _ hlu,e5',fits (by simp;omega),λc0 hc0=>?_⟩;have s6':=af hc0 (.lst (Fm++[.ref t4]));have e6':upd H8 c0 (.lst (Fm++[.ref t4])) c0=some (.lst (Fm++[.ref t4])):=ae;have nc0:c0≠D:=(aC (P8 _ _ O0) hc0).symm;generalize upd H8 c0 (.lst (Fm++[.ref t4]))=H9 at s6' e6';refine⟨qo,λt5 Sy=>?_⟩;have WY:=af Sy (.tup [.str z,.ref c0]);have e7':aZ K (upd H9 t5 (.tup [.str z,.ref c0])) t5 [.str z,.ref c0]:=aZ.of ae;generalize upd H9 t5 (.tup [.str z,.ref c0])=z8 at WY e7';have sA:=(P8.trans s6').trans WY;refine⟨D,_,_,rfl,rfl,sA _ _ O0,219,?_⟩;exact⟨oA++[t5],ky++[(z,c0)],ms++[z],_,_,_,_,rfl,W2.more fD fm hz ∅ nm sA e7' (WY _ _ e6') (by rw [a8];simp;omega) nc0,by rw [a8];omega,e0,fg _ YU,ZA⟩
   exact⟨oA,ky,ms,kvs,_,_,_,rfl,W2,h2,e0,YU,ZA⟩
  rintro σ H6 ⟨oA,ky,ms,kvs,y7,y8,y9,rfl,W2,h2,_⟩;exact⟨_,rfl,_,_,rfl,rfl,oA,ky,ms,kvs,_,_,_,_,rfl,W2,h2⟩
 refine⟨uq,λD9 yn=>q D9 _ (W.sm.free yn) (W.sm.trans (af yn _)) ae⟩
end
end hJ
namespace L2
open PySem PySem.Spec PyProof.Rows
section
variable {prog:Program}{w:World}{A:Around}{E:z0b}{s:Shared}
def zX (a b c:Value):argsOk "min" ⟨[a],[("key",b),("default",c)]⟩:=by unfold argsOk;kernel_rfl
def uO {l:Addr}{kf dv:Value}{Q:z0b}(hh:A.handled=none)(hl:s.heap.IsList l #[])(h:∀h' tk,(∀b o,185->h'.get? b=some o)->Q dv { s with heap:=h',toks:=tk }) :
  wpAny 158 A (call (.builtin "min") [.ref l] [("key",kf),("default",dv)]) Q E s:=by
 have Iu:(toString "min" ++ toString ".loop":String) = "min.loop" := by decide
 refine kn (wy F.plain_min F.entry_min ?_);have core:wpAny 158 A.in1 (Builtin.«min» ⟨[.ref l],[("key",kf),("default",dv)]⟩) (λfin s'=>match fin with
   | .done f=>(match (Except.ok f:Result) with | .ok (.ret v)=>Q v s' | .ok _=>False | .error e=>E e s')
   | .again c'=>c'.quiet=true/\codeAny 158 A c' (λr s'=>match r with | .ok (.ret v)=>Q v s' | .ok _=>False | .error e=>E e s') s') E s:=by
  show wpAny _ A.in1 (Builtin.Builtins.bindParams "min" ["key","default"] 0 ⟨[],[("key",kf),("default",dv)]⟩ >>= _) _ _ s;refine aB (wpAny_of_eq (show Builtin.Builtins.bindParams "min" ["key","default"] 0 ⟨[],[("key",kf),("default",dv)]⟩=pure [some kf,some dv] from rfl) ?_);refine aB (aH ?_);refine aB (oP hl ?_);refine aB (j7 ?_);rw [Iu];obtain⟨ol,h1,h2⟩:=id hl;generalize hG:s.heap.push { cls:=.type "list_iterator",data:=.fields #[.ref l,.int 0 0] }=G;have k1:∀b o,185->G.get? b=some o:=λb o e=>by rw [<-hG];exact cg _ e
  have hi:G.get? s.heap.objs.size=some { cls:=.type "list_iterator",data:=.fields #[.ref l,.int 0 0] }:=by rw [<-hG];exact dB _ rfl
  refine aH ⟨kx F.plain_min_loop _,rj F.entry_min_loop ?_⟩;rw [rF F.plain_min_loop _];show wpAny _ A.in1 (seqItems? (.ref G.objs.size) >>= _) _ _ _;refine aB (rh (dB _ rfl) rfl ?_);show wpAny _ A.in1 (tryCatch (pyNext (238)) _ >>= _) _ _ _;refine aB (wpAny_tryCatch (wD (show A.in1.handled=none from hh) ⟨_,cg _ hi,rfl,rfl⟩ ⟨ol,cg _ (k1 _ _ h1),h2⟩ 144 λh' eb=>?_));refine aB (kq (aH ?_));exact h h' _ λb o e=>eb b o (bV (bD e)) (cg _ (k1 b o e))
 simp only [checkBuiltinCall,F.kind_min];cases Yo:Manifest.signature? "min" with
 | none=>exact aH core
 | some sig =>
  have ha':Bind.checkArgs "min" sig ⟨[.ref l],[("key",kf),("default",dv)]⟩=pure ():=by have:=zX (.ref l) kf dv;simpa only [argsOk,Yo] using this
  simp only [ha'];exact aH core
end
def Q5 (K:bp)(t:TA)(td:TE):TE:=λσ H Q=>t σ H λvs H1=>td σ H1 λdv H2=>∃a,vs=[.ref a]/\aI K H2 a []/\Q dv H2
def Kt {X:Cx}{p pos lp X8 Ij:Pos}{e e2:Expr}{t:TA}{td:TE}(hc:X.calm=true)(hg:Gl X "min")(hm:X.mg "min"=none)(YM:Gl X "len")(Qn:X.mg "len"=none)(ha:PA X [e] t)(hd:PE X e2 td)
  (he:backTo pos (starEach [e] X.env)=(false,eval e X.env)::backTo pos (starEach [] X.env):=by rfl)(hp:(backTo pos (starEach [e] X.env)).any 87=false:=by rfl) :
  PE X (.Call (.Name "min" p) [e] [⟨some "key",.Name "len" lp,X8⟩,⟨some "default",e2,Ij⟩] pos) (Q5 X.K t td):=by
 intro ai s σ H Q I h;refine q0 (jU I hg hm boot_min ?_);refine callWith_kw (dC (ha pos ai s σ H _ I h) λus s1 bI=>?_) he hp rfl rfl;obtain⟨vs,H1,I1,r1,q1⟩:=bI;refine kws_cons (jU I1 YM Qn d_ (kws_cons (dC (hd ai s1 σ H1 _ I1 q1) λu2 s2 bI=>?_)));obtain⟨dv,H2,I2,r2,a,ev,hs,q⟩:=bI;refine kws_nil ?_;subst ev;obtain⟨u,rfl,rx⟩:=vals1 r1;cases (show u=Value.ref a from rx);obtain⟨aV,rv,pl,hz⟩:=I2.list hs;cases rv;exact uO (I2.ok.hd hc) pl.isList λh' tk kk=>⟨dv,H2,I2.kept (t':=tk) kk,r2,q⟩
open PySem
def EZ {K:bp}{H:Hp}{p D:Addr}{ls:z0q}{σ:St}{x:Str}{Qp:Hp->Prop}(hp:H p=some (.lst (ls.map V.ref)))(hl:∀l∈ls,H l=some 138)(hD:H D=none)(q:∀H2,aD H H2->H2 D=some 138->Qp H2) :
  ∃W:241,(∃m,W 0 m [] (dP [x] [] σ) 227) /\
 ∀i m ys σ' H,W i m ys σ' H->((jK K p).stop i H/\Qp H)\/((jK K p).go i H/\∃m',m' < m/\∀x H',(jK K p).lV i H x H'->dF 0 x σ' H' λσ2 H2=>gN 0 σ2 H2 λx H'=>∃k,Jp K x H' k/\(λb H3 =>
  if b=true then gN 0 σ2 H3 239 else 257) k H'):=by
 refine bL (tif:=λσ H Q=>gN 0 σ H λx H'=>∃k,Jp K x H' k/\Q k H') (xs:=ls.map V.ref) (λi ys σ2 H5=>ys=[]/\(∃y0,σ2=[y0])/\aD H H5/\H5 D=some 138) ⟨rfl,⟨none,rfl⟩,af hD _,ae⟩ (λi ys σ2 H5 _ h=>aI.of (h.2.2.1 _ _ hp)) (λi x ys σ2 H5 ex h=>?_) (λys σ2 H5 h=>?_)
 .obtain⟨rfl,⟨y0,rfl⟩,s5,e5⟩:=h;rw [aX] at ex;obtain⟨l,el,rfl⟩:=bT.mp ex;refine goN ?_;refine⟨_,rfl,false,.inl ⟨[],aI.of (s5 _ _ (hl l (cE el))),rfl⟩,?_⟩;refine iY ?_;exact⟨rfl,157,s5,e5⟩
 obtain⟨rfl,_,s5,e5⟩:=h;exact q H5 s5 e5
end L2
namespace hJ
open PySem L2 M11
section
def Cn (aa:88)(rk:Str->Nat):Prop:=∀aL,uj aa aL->qE aa aa.length aL->∀n k j,QQ aa (hd aa) 328 n k j->∀ru z,aa[k]?=some ru->ru.2[j]?=some z->rk z < rk n
def F6 (K:bp):Sp:=λvs H Q _=>∃(R:Addr)(rs:z0q)(aa:88)(rk:Str->Nat),vs=[.ref R]/\aI K H R 153/\bM K H rs aa/\aa.length<=1000/\329/\Cn aa rk /\
 ∀(D:Addr)(H':Hp),H D=none->aD H H'->H' D=some 138->Q (.ref D) H'
def AQ:aK ["rules","steps","loops"] ["rules"] (ay Gs):=163
def KO (F:iz K "find_loop" "find_loop" Gs f fd)(T:Txt mg)(GS:aF P w K mg base 2 "steps_with_like_rows" ["rules"] (CC K))(GW:aF P w K mg base 1 "way_back" ["rules","steps","name"] (Mj K)):bR P w K mg base fI 3 f fd ["rules"] (F6 K):=by
 refine F.ok AQ 184 186
 .obtain⟨R,rs,aa,rk,rfl,_⟩:=h;rfl
 obtain⟨R,rs,aa,rk,rfl,hR,cM,bO,h8,hnl,q⟩:=h;refine⟨_,ag (aA (i:=1) AQ.nd rfl (Or.inr rfl) (bC GS hr rfl (ab 91 ak)))
  (ag (gG (iy:=2) ["name"] [(0,"rules"),(1,"steps")] AQ.nd rfl rfl rfl (CY (pv 1)) 162 nofun rfl nofun
   (λ_ _ _ _ _=>aq (i:=0) (show (["name","rules","steps"]:z0t).Nodup by decide +kernel) rfl 90) 220
   (λ_ _ _ _ _=>bC (GW.mono (by decide:1<=2)) hr rfl (ab (pv 1) (ab (pv 2) (ab 91 ak)))))
  (ao (bw (Kt rfl rfl T.min rfl T.len (ab (aT ["loop"] [] rfl (aR (pv 2)) 162 nofun rfl nofun
   (λ_ _ _ _ _=>aq (i:=0) (show (["loop"]:z0t).Nodup by decide +kernel) rfl 90) (λ_ _ _ _ _=>fM (DU K 91 (λ_=>rfl))) (λ_ _ _ _ _=>pv 0)) ak) (bK ak))))),?_⟩
 nofun
 refine⟨_,rfl,R,rs,aa,rfl,hR,cM,bO,h8,λd ps st aL H1 fd1 s1 e1 S1 m1 Qx emp mW hits=>?_⟩;have R8:ps.length<=1000:=by
  have h1:=congrArg List.length m1;have h2:=ja 204 [];simp only [kc,ar] at h2;rw [ar] at h1;have h3:(hd aa).length=(xY [] 204).length:=rfl;omega
 have Vx:Down aa (ps.map 87) st rk:=λn hn e he=>by
  rw [m1] at hn ⊢;have hit:=(hits n e.1 e.2 hn).mp he;obtain⟨ru,z,er,_,ez,hz,_⟩:=id hit;exact⟨ru,z,er,ez,hz,hnl aL emp mW n e.1 e.2 hit ru z er ez⟩
 refine⟨_,rfl,d,_,rfl,e1,λo D hD=>?_⟩;have Qc:∀p∈ps,p.2≠d:=λp hp z=>by
  obtain⟨ts,a,_⟩:=S1.lst p hp;rw [z,e1] at a;cases a
 have s2:aD H (upd H1 d (.mf o (.dK (ps.map jA)))):=λb u hb=>by
  rw [aj (λz=>by rw [z,fd1] at hb;cases hb)];exact s1 b u hb
 have S2:Fz K ps st (upd H1 d (.mf o (.dK (ps.map jA)))) d:=⟨.inr ⟨o,ae⟩,S1.n1,S1.n2,λp hp=>by
  obtain⟨ts,a,b⟩:=S1.lst p hp;exact⟨ts,by rw [aj (Qc p hp)];exact a,Paired.b9 b λ_ _ z=>iq e1 z⟩⟩
 have e2:upd H1 d (.mf o (.dK (ps.map jA))) d=some (.mf o (.dK (ps.map jA))):=ae;generalize upd H1 d (.mf o (.dK (ps.map jA)))=H2 at hD s2 S2 e2 ⊢;refine tX (λi ys σ2 H3=>∃ls:z0q,ys=ls.map V.ref/\ls.length=i/\(∀l∈ls,H3 l=some 138/\l≠D)/\(∃y0,σ2=[y0,aE R,aE d])/\aD H2 H3/\H3 D=some (.lst ys))
  ⟨[],rfl,rfl,92,⟨none,rfl⟩,af hD _,ae⟩ (λi ys σ2 H3 _ h=>?_) (λi kv ys σ2 H3 ex h=>?_) (λys σ2 H3 h=>?_)
 .obtain⟨_,_,_,_,_,sm,_⟩:=h;exact sm _ _ e2
 .obtain⟨ls,rfl,hls,hl,⟨y0,rfl⟩,sm,i5⟩:=h;rw [aX] at ex;obtain⟨p,ep,rfl⟩:=bT.mp ex;have hp:=cE ep;have li:=(bu.mp ep).1;refine goN (uJ ?_);have s3:=s2.trans sm;refine⟨_,rfl,_,rfl,_,rfl,R,d,rs,aa,ps,st,p.1,rk,rfl,s3.seq hR,cM.same s3,bO,S2.same sm,R8,iB hp,Vx,λD4 H4 f4 s4 e4=>?_⟩;have Dj:=s4 _ _ i5;have nD4:D4≠D:=λz=>by rw [z,i5] at f4;cases f4
  refine⟨Dj,219,ls++[D4],by rw [ba];rfl,by rw [a8,hls];rfl,λl YH=>?_,157,λb u hb=>?_,ae⟩
  .rcases bP.mp YH with h | h
   .obtain⟨a1,a2⟩:=hl l h;exact⟨by rw [aj a2];exact s4 _ _ a1,a2⟩
   rw [bB.mp h];exact⟨by rw [aj nD4];exact e4,nD4⟩
  rw [330];exact s4 _ _ (sm b u hb)
 obtain⟨ls,rfl,hls,hl,_,sm,i5⟩:=h;have s3:=s2.trans sm;refine⟨_,rfl,D,rfl,⟨_,aI.of i5⟩,λD5 Qu=>?_⟩;refine EZ i5 (λl YH=>(hl l YH).1) Qu λH5 s5 e5=>?_;refine⟨uq,λD6 Y_=>⟨D5,rfl,aI.of (af Y_ _ _ _ e5),?_⟩⟩;exact q D6 _ ((s3.trans s5).free Y_) ((s3.trans s5).trans (af Y_ _)) ae
end
end hJ
namespace L2
open PySem
def Cq {K:bp}{T:Addr}{pos:Pos}{qu:Str}{H H':Hp}{a:Addr}{xs:List V}(s:gE T H H')(t:Tab T pos qu H)(h:aZ K H a xs):aZ K H' a xs:=by
 obtain⟨ps,b,_⟩:=t;rcases h with (h | ⟨u,h⟩) | h
 .exact .inl (.inl (s _ _ (λz=>by rw [z,b] at h;cases h) h))
 .exact .inl (.inr ⟨u,s _ _ (λz=>by rw [z,b] at h;cases h) h⟩)
 exact .inr h
def CP {K:bp}{T:Addr}{pos:Pos}{qu:Str}{H H':Hp}{a:Addr}{xs:List V}(s:gE T H H')(t:Tab T pos qu H)(h:aI K H a xs):aI K H' a xs:=by
 obtain⟨ps,b,_⟩:=t;rcases h with (h | ⟨u,h⟩) | h
 .exact .inl (.inl (s _ _ (λz=>by rw [z,b] at h;cases h) h))
 .exact .inl (.inr ⟨u,s _ _ (λz=>by rw [z,b] at h;cases h) h⟩)
 exact .inr h
def Cr {T T':Addr}{pos pos':Pos}{qu JB:Str}{H H':Hp}(s:gE T H H')(t:Tab T pos qu H)(h:Tab T' pos' JB H)(n:T'≠T):Tab T' pos' JB H':=by
 obtain⟨ps,b,_⟩:=t;obtain⟨Xf,a,o,c⟩:=h;refine⟨Xf,s _ _ n a,o,c.imp id ?_⟩;rintro⟨c',e,g⟩;exact⟨c',e,s _ _ (λz=>by rw [z,b] at g;cases g) g⟩
def tU {K:bp}{H:Hp}{p D:Addr}{zs:z0t}{σ:St}{js:z0j}{cs:List (Option V)}{tif:TT}{te:TE}{Qp:Hp->Prop}(hσ:dP ["name"] js σ=none::cs)(hp:aI K H p 203)(hD:H D=none)
  (ht:∀z∈zs,∀H2 Q,aD H H2->Q false H2->tif (some (.str z)::cs) H2 Q)(q:∀H2,aD H H2->H2 D=some 138->Qp H2) :
  ∃W:241,(∃m,W 0 m [] (dP ["name"] js σ) 227) /\
 ∀i m ys σ' H,W i m ys σ' H->((jK K p).stop i H/\Qp H)\/((jK K p).go i H/\∃m',m' < m/\∀x H',(jK K p).lV i H x H'->dF 0 x σ' H' λσ2 H2=>tif σ2 H2 λb H3 =>
  if b=true then te σ2 H3 239 else 257):=by
 refine bL (xs:=154) (λi ys σ2 H5=>ys=[]/\(∃y0,σ2=y0::cs)/\aD H H5/\H5 D=some 138) ⟨rfl,⟨none,hσ⟩,af hD _,ae⟩ (λi ys σ2 H5 _ h=>h.2.2.1.seq hp) (λi x ys σ2 H5 ex h=>?_) (λys σ2 H5 h=>?_)
 .obtain⟨rfl,⟨y0,rfl⟩,s5,e5⟩:=h;rw [aX] at ex;obtain⟨z,ez,rfl⟩:=bT.mp ex;refine goN ?_;refine ht z (cE ez) H5 _ s5 ?_;refine iY ?_;exact⟨rfl,157,s5,e5⟩
 obtain⟨rfl,_,s5,e5⟩:=h;exact q H5 s5 e5
end L2
namespace hJ
open PySem L2 M11
section
structure Good (aa:88)(rk:Str->Nat)(b:Str->Int):Prop where
 least:∀g,dZ M11.bl aa (zB aa) g->iI M11.bl aa g->∀h∈hd aa,∃n,g h=some n/\n<=60
 met:∀je ms,aa[0]?=some je->je.1∈ms->Fc aa aa.length ms->∀h∈hd aa,h∈ms
 loop:Cn aa rk
 V1:uk aa b
 most:∀h∈hd aa,b h<=60
def mj (T1 T2:Addr)(H H':Hp):Prop:=∀b o,b≠T1->b≠T2->H b=some o->H' b=some o
def si (K:bp)(T1 T2:Addr):Sp:=λvs H Q _=>∃(R S:Addr)(rs ss:z0q)(aa str:88)(rk:Str->Nat)(b:Str->Int),vs=[.ref R,.ref S]/\aI K H R 153/\bM K H rs aa/\aa.length<=1000/\329/\aa≠[] /\
 aI K H S (ss.map V.ref)/\bM K H ss str/\str.length<=1000/\(∀ru∈str,ru.2.length<=8)/\(str.flatMap (·.2)).Nodup/\Good aa rk b/\Tab T1 sX.2.2.2 Ag H/\Tab T2 By.2.2.2 MH H/\T1≠T2 /\
 ∀H',mj T1 T2 H H'->Tab T1 sX.2.2.2 Ag H'->Tab T2 By.2.2.2 MH H'->Q .fu H'
def ir:aK ["rules","strengths","least","endless","met","unmet","steps","greatest","vast"] ["rules","strengths"] (ay xl):=163
def Ea {T1 T2:Addr}{tm:Tok}(F:iz K "refuse_faults" "refuse_faults" xl f fd)(T:Txt mg)(hM:mg "MOST_RULES"=some (.int 60 tm))(GT:aF P w K mg base 1 "refuse_twice" ["strengths"] (CB K))(GL:aF P w K mg base 3 "least_sizes" ["rules"] (qF K T1))
  (GH:aF P w K mg base 1 "heads_of" ["rules"] (lB K))(GM:aF P w K mg base 1 "names_met" ["rules"] (Mm K))(GF:aF P w K mg base 3 "find_loop" ["rules"] (F6 K))(GG:aF P w K mg base 3 "greatest_empty_sizes" ["rules"] (w5 K T2)) :
  bR P w K mg base fI 4 f fd ["rules","strengths"] (si K T1 T2):=by
 refine F.ok ir 184 186
 .obtain⟨R,S,rs,ss,aa,str,rk,b,rfl,_⟩:=h;rfl
 obtain⟨R,S,rs,ss,aa,str,rk,b,rfl,hR,cM,bO,h8,jX,hS,Vk,Yl,Yr,Yq,gd,Lu,VA,nT,q⟩:=h;have hu:=gh hr;refine⟨_,ag (cy (G0 (iT 91 (λ_=>rfl))) (ao iU) bf)
  (ag (cU (bC (GT.mono (by decide:1<=3)) hr rfl (ab (pv 1) ak)))
  (ag (aA (i:=2) ir.nd rfl (Or.inr rfl) (bC GL hr rfl (ab 91 ak)))
  (ag (gG (iy:=3) ["name"] [(2,"least")] ir.nd rfl rfl rfl (aR (bC (GH.mono (by decide:1<=3)) hr rfl (ab 91 ak))) 162 nofun rfl nofun
   (λ_ _ _ _ _=>aq (i:=0) (show (["name","least"]:z0t).Nodup by decide +kernel) rfl 90) (λ_ _ _ _ _=>fM (fC (dD hu 91 (pv 1)))) (λ_ _ _ _ _=>pv 0))
  (ag (cy (iT (pv 3) (λ_=>rfl)) (ao iU) bf)
  (ag (aA (i:=4) ir.nd rfl (Or.inr rfl) (bC (GM.mono (by decide:1<=3)) hr rfl (ab 91 ak)))
  (ag (gG (iy:=5) ["name"] [(4,"met")] ir.nd rfl rfl rfl (aR (bC (GH.mono (by decide:1<=3)) hr rfl (ab 91 ak))) 162 nofun rfl nofun
   (λ_ _ _ _ _=>aq (i:=0) (show (["name","met"]:z0t).Nodup by decide +kernel) rfl 90) (λ_ _ _ _ _=>fM (fC (dD hu 91 (pv 1)))) (λ_ _ _ _ _=>pv 0))
  (ag (cy (iT (pv 5) (λ_=>rfl)) (ao iU) bf)
  (ag (aA (i:=6) ir.nd rfl 90 (bC GF hr rfl (ab 91 ak)))
  (ag (cy (iT (pv 6) (λ_=>rfl)) (ao iU) bf)
  (ag (aA (i:=7) ir.nd rfl (Or.inr rfl) (bC GG hr rfl (ab 91 ak)))
  (ag (gG (iy:=8) ["name"] [(2,"least"),(7,"greatest")] ir.nd rfl rfl rfl (aR (bC (GH.mono (by decide:1<=3)) hr rfl (ab 91 ak))) 162 nofun rfl nofun
   (λ_ _ _ _ _=>aq (i:=0) (show (["name","least","greatest"]:z0t).Nodup by decide +kernel) rfl 90) (λ_ _ _ _ _=>fM (bc Hk (aP (vQ rfl) rfl T.max PyProof.Rows.boot_max (ab (fO hu (pv 1) 91 142) (ab (iV hu (pv 2) 91 av ⟨rfl,rfl,rfl,rfl⟩) ak))) (Kv (v:=.int 60) rfl hM ⟨tm,rfl⟩) (cA _))) (λ_ _ _ _ _=>pv 0))
  (ao (cy (iT (pv 8) (λ_=>rfl)) (ao iU) bf))))))))))))),?_⟩
 nofun
 have ll:=a7 cM;obtain⟨je,Ll⟩:∃je,aa[0]?=some je:=by
  cases aa with
  | nil=>exact absurd rfl jX
  | cons a r=>exact⟨a,rfl⟩
 have eR:(145).isEmpty=false:=by
  have l0:=(bu.mp Ll).1;cases rs with
  | nil=>simp at ll;omega
  | cons a r=>rfl
 refine⟨_,rfl,true,.inl ⟨_,hR,by rw [eR];rfl⟩,?_⟩;refine iY ?_;refine⟨_,rfl,S,ss,str,rfl,hS,Vk,Yl,Yr,Yq,λH1 s1=>?_⟩;have UR:=Lu.same s1;have t21:=VA.same s1;refine⟨_,rfl,R,rs,aa,rfl,s1.seq hR,cM.same s1,bO,h8,UR,λdl kl ksl gl H2 fl s2 t12 el kkl vl stl sel _=>?_⟩;have JL:=CP s2 UR (s1.seq hR);have EB:=(cM.same s1).keep λ_ _ z=>Cq s2 UR z;have t22:=Cr s2 UR t21 nT.symm;have hl:=gd.least gl stl sel;have S02:mj T1 T2 H H2:=λb o n1 _ hb=>s2 b o n1 (s1 b o hb);refine⟨_,rfl,R,rs,aa,rfl,JL,EB,bO,λD3 H3 f3 s3 e3=>⟨D3,rfl,⟨_,aI.of e3⟩,λD4 hD4=>tU rfl (aI.of e3) hD4 (λz hz H' Q' s' hQ=>?_) λH4 s4 e4=>?_⟩⟩
 .obtain⟨n,en,_⟩:=hl z hz;have hg:cu H' dl (.str z) (some (.int n)):=by
   have:=cu.k (k:=140) (s' _ _ (s3 _ _ el));rw [vl,en] at this;exact this
  exact⟨_,rfl,_,rfl,dl,_,rfl,hg,_,rfl,hQ⟩
 refine⟨_,rfl,false,.inl ⟨[],aI.of e4,rfl⟩,?_⟩;refine iY ?_;have NS:=s3.trans s4;refine⟨_,rfl,R,rs,aa,je,rfl,NS.seq JL,EB.same NS,Ll,bO,h8,λdm km ms H5 f5 s5 em kkm DM _ mc5=>?_⟩;have W4:=NS.trans s5;refine⟨_,rfl,R,rs,aa,rfl,W4.seq JL,EB.same W4,bO,λD6 H6 f6 s6 e6=>⟨D6,rfl,⟨_,aI.of e6⟩,λD7 Y9=>tU rfl (aI.of e6) Y9 (λz hz H' Q' s' hQ=>?_) λH7 s7 e7=>?_⟩⟩
 .have hm:=gd.met je ms Ll DM mc5 z hz;have hv:(a0 km 150).isSome=true:=by rw [eQ,kkm];exact dr.mpr hm
  refine⟨_,rfl,_,rfl,dm,_,rfl,cu.k (k:=140) (s' _ _ (s6 _ _ em)),_,rfl,?_⟩;rw [hv];exact hQ
 refine⟨_,rfl,false,.inl ⟨[],aI.of e7,rfl⟩,?_⟩;refine iY ?_;have W3:=(W4.trans s6).trans s7;refine⟨_,rfl,R,rs,aa,rk,rfl,W3.seq JL,EB.same W3,bO,h8,gd.loop,λD8 H8 f8 s8 e8=>?_⟩;refine⟨_,rfl,false,.inl ⟨[],aI.of e8,rfl⟩,?_⟩;refine iY ?_;have Mo:=W3.trans s8;have t18:=t12.same Mo;have Ri:=t22.same Mo;refine⟨_,rfl,R,rs,aa,b,rfl,Mo.seq JL,EB.same Mo,bO,h8,gd.V1,Ri,λdg kg ksg gg H9 f9 s9 t29 eg kkg vg jg _ _=>?_⟩;have hR9:=CP s9 Ri (Mo.seq JL);have Ys:=(EB.same Mo).keep λ_ _ z=>Cq s9 Ri z;have WL:=Cr s9 Ri t18 nT;have el8:=Mo _ _ el;have el9:=s9 _ _ (λz=>by obtain⟨ps,a,_⟩:=Ri;rw [<-z,el8] at a;cases a) el8;refine⟨_,rfl,R,rs,aa,rfl,hR9,Ys,bO,λD10 z8 f10 qt Fy=>⟨D10,rfl,⟨_,aI.of Fy⟩,λD11 Za=>tU rfl (aI.of Fy) Za (λz hz H' Q' s' hQ=>?_) λFg Km JT=>?_⟩⟩
 .obtain⟨n,en,aaz⟩:=hl z hz;have Lo:cu H' dl (.str z) (some (.int n)):=by
   have:=cu.k (k:=140) (s' _ _ (qt _ _ el9));rw [vl,en] at this;exact this
  have eg':=s' _ _ (qt _ _ eg);obtain⟨v,hv1,hv2⟩:∃v:Int,((gg z).map V.int).getD (.int 0)=.int v/\v<=60:=by
   cases e:gg z with
   | none=>exact⟨0,rfl,nofun⟩
   | some v=>exact⟨v,rfl,Int.le_trans (jg z v e).2.1 (gd.most z hz)⟩
  have YM:cu H' dg (.str z) ((gg z).map V.int):=by
   have:=cu.k (k:=140) eg';rw [vg] at this;exact this
  refine⟨_,rfl,_,rfl,dl,_,rfl,Lo,_,rfl,dg,rfl,.inl ⟨_,.inl eg'⟩,_,rfl,_,YM,?_⟩;rw [hv1];refine⟨n,v,rfl,_,_,rfl,rfl,_,rfl,?_⟩;rw [dU (by split <;> omega)]
  exact hQ
 refine⟨_,rfl,false,.inl ⟨[],aI.of JT,rfl⟩,?_⟩;refine iY ?_;have NQ:=qt.trans Km;exact q Fg (λc o n1 n2 hc=>NQ c o (s9 c o n2 (Mo c o (S02 c o n1 n2 hc)))) (WL.same NQ) (t29.same NQ)
end
end hJ
namespace M11
open PySem L2
abbrev Be:=Str×Str×Nat×Nat
def bq (aW:List Be):z0i:=aW.map λb=>(b.1,b.2.1)
def om (aW:List Be)(n:Str):z0t:=(aW.filter λb=>decide (b.1=n)).map (·.2.1)
def jd (names:z0t)(aW:List Be)(z:Str):z0t:=if z∈names then om aW z else [z]
inductive ux (aa:88) (names:z0t)(b:Str->Bool):List Be->Prop
 | nil:ux aa names b []
 | snoc {aW:List Be}{k j:Nat}{ru:ax}{z w:Str}:ux aa names b aW->aa[k]?=some ru->ru.2[j]?=some z->j < uL b ru.2->w∈jd names aW z->(ru.1,w)∉bq aW->ux aa names b (aW++[(ru.1,w,k,j)])
def pH {aW:List Be}{n w:Str}:w∈om aW n↔(n,w)∈bq aW:=by
 unfold om bq;rw [bU,bU];constructor
 .rintro⟨b,hb,rfl⟩;obtain⟨h1,h2⟩:=gw.mp hb;exact⟨b,h1,by rw [cR h2]⟩
 rintro⟨b,hb,e⟩;cases e;exact⟨b,gw.mpr ⟨hb,cv rfl⟩,rfl⟩
def Dl (aW:List Be)(b:Be)(n:Str):om (aW++[b]) n=om aW n++(if b.1=n then [b.2.1] else []):=by
 unfold om;rw [pU,ba];by_cases c:b.1=n
 .rw [aw c];simp [c]
 rw [au c];simp [c]
end M11
namespace hJ
open PySem L2 M11
def LP:Stmt->List Stmt
 | .ClassDef _ _ _ b _ _ _ _ _ _ _=>b
 | _=>[]
abbrev ME (st:Stmt) (i:Nat):Stmt:=(LP st).getD i (.Pass ⟨0,0,0,0⟩)
abbrev A3:Stmt:=ME sN 0
abbrev Gw:Stmt:=ME sN 1
abbrev AX:Stmt:=ME sN 2
abbrev xq:Stmt:=ME yK 0
abbrev AV:Stmt:=ME yK 1
section
structure BC (K:bp)(C:Addr):Prop where
 cls:Fi K C
 a1:d0 K C "empties"
 a2:d0 K C "empty"
 a3:d0 K C "begins"
 a4:d0 K C "firsts"
structure oC (K:bp)(C:Addr)(H0 H:Hp)(a e d bg:Addr)(kE:93)(aL:z0h)(ps:z0f)(aW:List Be):Prop where
 sm:aD H0 H
 ia:∃dx fs,H a=some (.ins C dx fs)/\fs.lookup ("empty":Str)=some (.ref e)/\fs.lookup ("begins":Str)=some (.ref bg)/\fs.lookup ("firsts":Str)=some (.ref d)/\fs.lookup ("find_begins":Str)=none/\(fs.lookup ("words_of_part":Str)=none/\fs.lookup ("first_words":Str)=none/\fs.lookup ("all_empty":Str)=none/\fs.lookup ("words_of_parts":Str)=none)
 he:H e=some (.dK kE)
 hd:H d=some (.dK (ps.map jA))
 n1:(ps.map 87).Nodup
 n2:(ps.map (·.2)).Nodup
 dk:∀p∈ps,(∃kvs,H p.2=188/\kvs.map 87=(om aW p.1).map Sum.inr)/\H0 p.2=none/\p.2≠e/\p.2≠d
 lb:∃ts,H bg=some 222/\Paired (λt (b:Be)=>aZ K H t [.str b.1,.str b.2.1,.int (b.2.2.1:Int),.int (b.2.2.2:Int)]) ts aW
 fb:H0 bg=none
 em:∃e1 ts,(∃dx fs,H a=some (.ins C dx fs)/\fs.lookup ("empties":Str)=some (.ref e1))/\H e1=some 222/\oy K H ts aL/\e1≠bg
def oC.same {C:Addr}{H0 H H':Hp}{a e d bg:Addr}{kE:93}{aL:z0h}{ps:z0f}{aW:List Be}(h:oC K C H0 H a e d bg kE aL ps aW)(s:aD H H'):oC K C H0 H' a e d bg kE aL ps aW:=by
 refine⟨h.sm.trans s,?_,s _ _ h.he,s _ _ h.hd,h.n1,h.n2,λp hp=>?_,?_,h.fb,?_⟩
 .obtain⟨dx,fs,q,r,N4,N3,N1,N0⟩:=h.ia;exact⟨dx,fs,s _ _ q,r,N4,N3,N1,N0⟩
 .obtain⟨⟨kvs,q,r⟩,t⟩:=h.dk p hp;exact⟨⟨kvs,s _ _ q,r⟩,t⟩
 .obtain⟨ts,q,r⟩:=h.lb;exact⟨ts,s _ _ q,Paired.b9 r λ_ _ z=>s.tup z⟩
 obtain⟨e1,ts,⟨dx,fs,q1,q2⟩,q3,q4,q5⟩:=h.em;exact⟨e1,ts,⟨dx,fs,s _ _ q1,q2⟩,s _ _ q3,q4.keep λ_ _ z=>s.tup z,q5⟩
def wZ (K:bp)(C:Addr):Sp:=λvs H Q _=>∃(H0:Hp)(a e d bg:Addr)(kE:93)(aL:z0h)(ps:z0f)(aW:List Be)(z:Str),vs=[.ref a,.str z]/\oC K C H0 H a e d bg kE aL ps aW /\
 ∀(D:Addr)(H':Hp),H D=none->aD H H'->H' D=some (.lst ((jd (ps.map 87) aW z).map V.str))->Q (.ref D) H'
def Ke:aK ["self","part"] ["self","part"] (ay AX):=163
def Hr {C:Addr}(F:iz K "words_of_part" "BeginTable.words_of_part" AX f fd)(T:Txt mg)(B:BC K C):bR P w K mg base fI 1 f fd ["self","part"] (wZ K C):=by
 refine F.ok Ke 184 186
 .obtain⟨H0,a,e,d,bg,kE,aL,ps,aW,z,rfl,_⟩:=h;rfl
 obtain⟨H0,a,e,d,bg,kE,aL,ps,aW,z,rfl,S,q⟩:=h;have hu:=gh hr;obtain⟨dx,fs,ea,f1,f2,f3,f4,f5⟩:=S.ia;refine⟨_,ao (bw (kQ (fC (kR hu (pv 1) (dA 91 rfl))) (bN (mY rfl) rfl T.lst gB (ab (fO hu (dA 91 rfl) (pv 1) 142) ak)) (bK (ab (pv 1) ak)))),?_⟩;dsimp only [uM];have mem:(a0 (ps.map jA) 150).isSome=true↔z∈ps.map 87:=by rw [eQ,lG];exact dr
 refine⟨_,rfl,_,rfl,a,C,dx,fs,_,rfl,ea,B.cls,B.a4,f3,d,_,rfl,cu.k (k:=140) S.hd,_,rfl,?_⟩;refine 246
 .have hz:=mem.mp c;obtain⟨p,hp,ep⟩:=bU.mp hz;obtain⟨⟨kvs,hk,kk⟩,_⟩:=S.dk p hp;have vn:=gS ps S.n1 p hp;rw [ep] at vn;have hg:cu H d (.str z) (some (.ref p.2)):=by
   have:=cu.k (k:=140) S.hd;rw [vn] at this;exact this
  refine⟨_,rfl,a,C,dx,fs,_,rfl,ea,B.cls,B.a4,f3,_,rfl,d,_,rfl,hg,p.2,kvs,rfl,hk,λD hD=>?_⟩;refine q D _ hD (af hD _) ?_;rw [ae,keys_str kk,ep];unfold jd;rw [aw hz]
 refine⟨_,rfl,Fl,λD hD=>?_⟩;refine q D _ hD (af hD _) ?_;rw [ae];unfold jd;rw [au (λh=>c (mem.mpr h))];rfl
def oC.more {C:Addr}{H0 H H2:Hp}{a e d bg t:Addr}{kE kvs:93}{aL:z0h}{ps:z0f}{aW:List Be}{p:Str×Addr}{wd:Str}{k j:Nat}{ts:z0q}(h:oC K C H0 H a e d bg kE aL ps aW)(hp:p∈ps)(hk:H p.2=188)(kk:kvs.map 87=(om aW p.1).map Sum.inr)
  (hn:(p.1,wd)∉bq aW)(hb:H bg=some 222)(Qr:Paired (λt (b:Be)=>aZ K H t [.str b.1,.str b.2.1,.int (b.2.2.1:Int),.int (b.2.2.2:Int)]) ts aW)
  (s:aD (upd H p.2 (.dK (bS kvs (Sum.inr wd) (.bl true)))) H2)(ht:aZ K H2 t [.str p.1,.str wd,.int (k:Int),.int (j:Int)]) :
  oC K C H0 (upd H2 bg (.lst (ts.map V.ref++[.ref t]))) a e d bg kE aL ps (aW++[(p.1,wd,k,j)]):=by
 have Va:bg≠p.2:=λz=>by rw [z,hk] at hb;cases hb
 have IG:H2 bg=some 222:=s _ _ (by rw [aj Va];exact hb);obtain⟨_,fp,npe,npd⟩:=h.dk p hp;have up:∀c o,c≠bg->c≠p.2->H c=some o->upd H2 bg (.lst (ts.map V.ref++[.ref t])) c=some o:=λc o n1 n2 q=>by
  rw [aj n1];exact s _ _ (by rw [aj n2];exact q)
 refine⟨λc o hc=>up c o (λz=>by rw [z,h.fb] at hc;cases hc) (λz=>by rw [z,fp] at hc;cases hc) (h.sm c o hc),?_,up _ _ (λz=>by have:=h.he;rw [z,hb] at this;cases this) npe.symm h.he,up _ _ (λz=>by have:=h.hd;rw [z,hb] at this;cases this) npd.symm h.hd,h.n1,h.n2,λp' pE=>?_,⟨ts++[t],by rw [ae,ba];rfl,?_⟩,h.fb,?_⟩
 .obtain⟨dx,fs,q,r,N4,N3,N1,N0⟩:=h.ia;exact⟨dx,fs,up _ _ (λz=>by rw [z,hb] at q;cases q) (λz=>by rw [z,hk] at q;cases q) q,r,N4,N3,N1,N0⟩
 .obtain⟨⟨mQ,q,r⟩,t'⟩:=h.dk p' pE;refine⟨?_,t'⟩;by_cases z:p'=p
  .rw [z];refine⟨bS kvs (Sum.inr wd) (.bl true),by rw [aj Va.symm];exact s _ _ ae,?_⟩;rw [i9 (by rw [kk];exact λq=>hn (pH.mp (dr.mp q))),kk,Dl,aw rfl,ba];rfl
  have n1:p'.1≠p.1:=λq'=>z (by
   have w1:=gS ps h.n1 p' pE;have w2:=gS ps h.n1 p hp;rw [q',w2] at w1;injection w1 with w3;injection w3 with w4;exact gQ q' w4.symm)
  have n2:p'.2≠p.2:=λq'=>by
   obtain⟨i,hi,ei⟩:=rf.mp pE;obtain⟨j',hj,ej⟩:=rf.mp hp;have zx:i=j':=by
    refine(v9 (xs:=ps.map (·.2)) (h₀:=by simpa using hi) (h₁:=by simpa using hj) h.n2).mp ?_;rw [oR,oR,ei,ej];exact q'
   subst zx;exact z (ei.symm.trans ej)
  refine⟨mQ,up _ _ (λz=>by rw [z,hb] at q;cases q) n2 q,?_⟩;rw [r,Dl,au (λq'=>n1 q'.symm),dN]
 .exact fc (Paired.b9 Qr λ_ _ z=>bz IG (s.tup (iq hk z))) (bz IG ht)
 obtain⟨e1,te,⟨dx,fs,q1,q2⟩,q3,q4,q5⟩:=h.em;exact⟨e1,te,⟨dx,fs,up _ _ (λz=>by rw [z,hb] at q1;cases q1) (λz=>by rw [z,hk] at q1;cases q1) q1,q2⟩,up _ _ q5 (λz=>by rw [z,hk] at q3;cases q3) q3,q4.keep λ_ _ z=>bz IG (s.tup (iq hk z)),q5⟩
def O3 (l m:List Be)(n:Str):om (l++m) n=om l n++om m n:=by
 unfold om;rw [pU,ba]
def J2 {names:z0t}(l m:List Be){z x:Str}(h:x∈jd names l z):x∈jd names (l++m) z:=by
 unfold jd at h ⊢
 split
 .rename_i c
  rw [aw c] at h;rw [O3];exact fg _ h
 rename_i c
 rw [au c] at h;exact h
def IL (aW:List Be)(n:Str):(om aW n).length<=aW.length:=by
 unfold om;rw [ar];exact iC _ _
def Je {n i:Nat}(h:i < n):(cnt n)[i]?=some (155):=by
 unfold cnt;rw [aX,List.getElem?_range h];rfl
def qV (n:Nat):(cnt n).length=n:=by unfold cnt;rw [ar,qY]
def Ga (K:bp)(C:Addr):Sp:=λvs H Q _=>∃(H0:Hp)(a e d bg r:Addr)(kE:93)(aL:z0h)(ps:z0f)(aW:List Be) (k:Nat)(ru:ax)(aa:88),vs=[.ref a,.int (k:Int),.ref r]/\oC K C H0 H a e d bg kE aL ps aW/\Dz K H0 r ru/\aa[k]?=some ru/\ru.2.length<=8 /\
 ru.1∈ps.map 87/\(∀x_:List Be,ux aa (ps.map 87) (λz=>(a0 kE 150).isSome) x_->x_.length<=900000)/\ux aa (ps.map 87) (λz=>(a0 kE 150).isSome) aW /\
 ∀(x_:List Be)(H':Hp),oC K C H0 H' a e d bg kE aL ps x_->ux aa (ps.map 87) (λz=>(a0 kE 150).isSome) x_->aW.length<=x_.length->(x_.length=aW.length->x_=aW/\∀j z,j < uL (λz=>(a0 kE 150).isSome) ru.2->ru.2[j]?=some z->∀wd∈jd (ps.map 87) aW z,(ru.1,wd)∈bq aW)->Q .fu H'
def xi:aK ["self","number","rule","own","place","word"] ["self","number","rule"] (ay Gw):=163
def KR {C fW:Addr}{TC:FuncData}(F:iz K "find_begins" "BeginTable.find_begins" Gw f fd)(T:Txt mg)(B:BC K C)(GP:aF P w K mg base 1 "first_places" ["parts","empty"] (yE K))(FW:bR P w K mg base fI 1 fW TC ["self","part"] (wZ K C))(MW:Meth K C "words_of_part" fW)(BW:Binds K TC ["self","part"] []) :
  bR P w K mg base fI 2 f fd ["self","number","rule"] (Ga K C):=by
 refine F.ok xi 184 186
 .obtain⟨H0,a,e,d,bg,r,kE,aL,ps,aW,k,ru,aa,rfl,_⟩:=h;rfl
 obtain⟨H0,a,e,d,bg,r,kE,aL,ps,aW,k,ru,aa,rfl,S,⟨p,v1,v2⟩,er,h8,hh,hbd,YZ,q⟩:=h;have hu:=gh hr;refine⟨_,ag (aA (i:=3) xi.nd rfl 90 (fO hu (dA 91 rfl) (a_ bF (pv 2) av 142) 142))
  (ao (bJ bW rfl (aR (bC GP hr rfl (ab (a_ bF (pv 2) av 142) (ab (dA 91 rfl) ak)))) (aq (i:=4) xi.nd rfl 90)
   (ao (bJ bW rfl (aR (nY 91 B.cls MW FW hr BW .nil lW (ab (a_ bF (a_ bF (pv 2) av 142) (pv 4) 142) ak))) (aq (i:=5) xi.nd rfl 90)
    (ao (cy (fC (dD hu (pv 5) (pv 3)))
     (ag (fK hu (pv 3) (pv 5) fY rfl)
     (ao (cU (gZ gA iD iE cx (dA 91 rfl) (ab (bX (ab (a_ bF (pv 2) av 142) (ab (pv 5) (ab (pv 1) (ab (pv 4) ak))))) ak))))) bf)))))),?_⟩
 nofun
 obtain⟨pn,zw,Am⟩:=bU.mp hh;have vn:=gS ps S.n1 pn zw;rw [Am] at vn;obtain⟨dx,fs,ea,f1,f2,f3,f4,f5⟩:=S.ia;have hg:cu H d (.str ru.1) (some (.ref pn.2)):=by
  have:=cu.k (k:=Sum.inr ru.1) S.hd;rw [vn] at this;exact this
 refine⟨_,rfl,a,C,dx,fs,_,rfl,ea,B.cls,B.a4,f3,_,rfl,r,_,_,_,rfl,rfl,S.sm.tup v1,rfl,d,_,rfl,hg,?_⟩;refine⟨_,rfl,r,_,_,_,rfl,rfl,S.sm.tup v1,rfl,_,rfl,a,C,dx,fs,_,rfl,ea,B.cls,B.a2,f1,p,e,ru.2,kE,rfl,S.sm.tup v2,∅,S.he,λD5 H5 f6 s5 e5=>⟨D5,rfl,⟨_,aI.of e5⟩,?_⟩⟩;obtain⟨ts0,hb0,_⟩:=S.lb;have nDb:D5≠bg:=λz=>by rw [z,hb0] at f6;cases f6
 have fle:=BZ (λz=>(a0 kE 150).isSome) ru.2;generalize hb:(λz=>(a0 kE 150).isSome)=b at *;generalize hn:uL b ru.2=n at *
 let yj:uh:=λi σ H6=>∃(d7:List Be)(y4 y5:Option V),σ=[aE a,some (.int (k:Int)),aE r,some (.ref pn.2),y4,y5]/\oC K C H0 H6 a e d bg kE aL ps d7/\H6 D5=some (.lst (cnt n))/\ux aa (ps.map 87) b d7/\aW.length<=d7.length /\
  (d7.length=aW.length->d7=aW/\∀j z,j < i->ru.2[j]?=some z->∀wd∈jd (ps.map 87) aW z,(ru.1,wd)∈bq aW)
 refine bQ (xs:=cnt n) yj ⟨aW,none,none,rfl,S.same s5,e5,YZ,aG _,λ_=>⟨rfl,λj z hj=>by omega⟩⟩ ?_ ?_ ?_
 .rintro i σ H6 _ ⟨d7,y4,y5,rfl,S2,e6,_⟩;exact aI.of e6
 .intro i x σ H6 ex pG
  ac_nf0
  obtain⟨d7,y4,y5,rfl,S2,e6,bg2,l2,c2⟩:=pG;have li:i < n:=by have:=(bu.mp ex).1;rw [qV] at this;exact this
  rw [Je li] at ex;cases ex;have lz:i < ru.2.length:=by omega
  obtain⟨z,ez⟩:∃z,ru.2[i]?=some z:=⟨ru.2[i],cZ lz⟩;have JW:pQ (ru.2.map V.str) (i:Int)=some (.str z):=cH (by rw [aX,ez];rfl);obtain⟨Pt,qR,Pk,g1,g2,g3,g4,g5⟩:=S2.ia;refine goN ?_
  ac_nf
  refine⟨_,rfl,a,Pt,qR,rfl,Pk,g5.1,_,rfl,r,_,_,_,rfl,rfl,S2.sm.tup v1,rfl,_,rfl,p,_,_,_,rfl,rfl,S2.sm.tup v2,JW,H0,a,e,d,bg,kE,aL,ps,d7,z,rfl,S2,λD6 H7 f7 s7 e7=>⟨D6,rfl,⟨_,aI.of e7⟩,?_⟩⟩;obtain⟨kK,IG,_⟩:=S2.lb;have nD6:D6≠bg:=λz=>by rw [z,IG] at f7;cases f7
  generalize Lh:jd (ps.map 87) d7 z=ws at *
  let Fe:uh:=λm σ H8=>∃(l:List Be)(y5:Option V),σ=[aE a,some (.int (k:Int)),aE r,some (.ref pn.2),some (155),y5]/\oC K C H0 H8 a e d bg kE aL ps (d7++l)/\H8 D5=some (.lst (cnt n))/\H8 D6=some (.lst (ws.map V.str))/\ux aa (ps.map 87) b (d7++l) /\
   (l=[]->∀wd∈ws.take m,(ru.1,wd)∈bq d7)
  refine bQ (xs:=ws.map V.str) Fe ⟨[],_,rfl,by rw [dN];exact S2.same s7,s7 _ _ e6,e7,by rw [dN];exact bg2,λ_ wd h=>by simp at h⟩ ?_ ?_ ?_
  .rintro m σ H8 _ ⟨l,y5,rfl,S3,e8,e9,_⟩;exact aI.of e9
  .intro m x σ H8 ex pG
   ac_nf0
   obtain⟨l,y5,rfl,S3,e8,e9,Ug,c3⟩:=pG;rw [aX] at ex;obtain⟨wd,ew,rfl⟩:=bT.mp ex;obtain⟨⟨kvs,hk,kk⟩,fp,npe,npd⟩:=S3.dk pn zw;obtain⟨yz,Vz,To⟩:=S3.lb;have lim:=hbd _ Ug;have ltk:kvs.length<=900000:=by
    have h1:=congrArg List.length kk;rw [ar,ar] at h1;have:=IL (d7++l) pn.1;omega
   have ltt:=a7 To;have mem:(a0 kvs (Sum.inr wd)).isSome=true↔(ru.1,wd)∈bq (d7++l):=by rw [eQ,kk,dr,pH,Am]
   refine goN ?_
   ac_nf
   refine⟨_,rfl,_,rfl,pn.2,_,rfl,cu.k (k:=Sum.inr wd) hk,_,rfl,?_⟩;refine 246
   .have nm:(ru.1,wd)∉bq (d7++l):=λh=>by rw [mem.mpr h] at c;exact absurd c nofun
    refine⟨_,rfl,_,rfl,_,_,rfl,jZ.k (k:=Sum.inr wd) hk (br ∅),?_⟩;obtain⟨dx3,JO,ZG,k1,k2,k3,k4,k5⟩:=S3.ia;have nap:a≠pn.2:=λz=>by rw [z,hk] at ZG;cases ZG
    have Va:bg≠pn.2:=λz=>by rw [z,hk] at Vz;cases Vz
    have Pj:upd H8 pn.2 (.dK (bS kvs (Sum.inr wd) (.bl true))) a=some (.ins C dx3 JO):=by rw [aj nap];exact ZG
    have hb4:upd H8 pn.2 (.dK (bS kvs (Sum.inr wd) (.bl true))) bg=some (.lst (yz.map V.ref)):=by rw [aj Va];exact Vz
    refine⟨_,rfl,a,C,dx3,JO,_,rfl,Pj,B.cls,B.a3,k2,.inl ⟨rfl,_,aI.of hb4⟩,_,rfl,r,_,_,_,rfl,rfl,iq hk (S3.sm.tup v1),rfl,_,rfl,_,rfl,_,rfl,Wi,λt4 zu=>?_⟩;have s4:=af zu (.tup [.str ru.1,.str wd,.int (k:Int),155]);have e4:aZ K (upd (upd H8 pn.2 (.dK (bS kvs (Sum.inr wd) (.bl true)))) t4 (.tup [.str ru.1,.str wd,.int (k:Int),155])) t4 [.str ru.1,.str wd,.int (k:Int),155]:=aZ.of ae;generalize upd (upd H8 pn.2 (.dK (bS kvs (Sum.inr wd) (.bl true)))) t4 (.tup [.str ru.1,.str wd,.int (k:Int),155])=H9 at s4 e4;refine⟨bg,_,_,rfl,rfl,s4 _ _ hb4,219,?_⟩;have nm':(pn.1,wd)∉bq (d7++l):=by rw [Am];exact nm
    have S4:=S3.more (k:=k) (j:=i) zw hk kk nm' Vz To s4 (by rw [Am];exact e4);have MO:∀D ys,H8 D=some (.lst ys)->D≠bg->upd H9 bg (.lst (yz.map V.ref++[.ref t4])) D=some (.lst ys):=λD ys hD nb=>by
     rw [aj nb];exact s4 _ _ (by rw [aj (λz=>by rw [z,hk] at hD;cases hD)];exact hD)
    rw [iA,Am] at S4;refine⟨l++[(ru.1,wd,k,i)],_,rfl,S4,MO _ _ e8 nDb,MO _ _ e9 nD6,?_,λh=>by simp at h⟩;rw [<-iA];refine .snoc Ug er ez (by rw [hn];exact li) (J2 d7 l (by rw [Lh];exact cE ew)) nm
   refine⟨l,_,rfl,S3,e8,e9,Ug,λhl x hx=>?_⟩;rw [cK,ew] at hx;rcases bP.mp hx with h | h
   .exact c3 hl x h
   rw [Option.toList_some,bB] at h;subst h;have hm:(ru.1,x)∈bq (d7++l):=mem.mp (by
    cases hq:(a0 kvs (Sum.inr x)).isSome with
    | true=>rfl
    | false=>exact absurd (by rw [hq];rfl) c)
   rw [hl,dN] at hm;exact hm
  rintro σ H8 ⟨l,y5,rfl,S3,e8,e9,Ug,c3⟩;rw [ar,b0] at c3;refine⟨d7++l,_,_,rfl,S3,e8,Ug,by rw [a8];omega,λSY=>?_⟩;rw [a8] at SY;have Vq:l=[]:=List.length_eq_zero_iff.mp ∅;obtain⟨Tp,og⟩:=c2 ∅;rw [Vq,dN];refine⟨Tp,λj z' hj Zq wd hwd=>?_⟩;by_cases cj:j < i
  .exact og j z' cj Zq wd hwd
  have:j=i:=by omega
  subst this;rw [ez] at Zq;cases Zq;have:=c3 Vq wd (by rw [<-Lh,Tp];exact hwd);rw [Tp] at this;exact this
 rintro σ H6 ⟨d7,y4,y5,rfl,S2,e6,bg2,l2,c2⟩;rw [qV] at c2;exact q d7 H6 S2 bg2 l2 c2
end
end hJ
namespace L2
open PySem M11
def zN {K:bp}{H:Hp}{p D:Addr}{zs:z0t}{σ:St}{x:Str}{Qp:Hp->Prop}(hp:aI K H p 203)(hz:zs.length<=10000)(hD:H D=none)
  (q:∀ts (ps:z0f) H2,aD H H2->H2 D=some 222->ps.map 87=zs->Paired (λt (p:Str×Addr)=>aZ K H2 t [.str p.1,.ref p.2]) ts ps->(∀p∈ps,H2 p.2=some (.dK [])/\H p.2=none/\p.2≠D)->(ps.map (·.2)).Nodup->Qp H2) :
  ∃W:241,(∃m,W 0 m [] (dP [x] [] σ) 227) /\
 ∀i m ys σ' H,W i m ys σ' H->((jK K p).stop i H/\Qp H)\/((jK K p).go i H/\∃m',m' < m/\∀x H',(jK K p).lV i H x H'->dF 0 x σ' H' λσ2 H2=>hX σ2 H2 λb H3 =>
  if b=true then uA (gT (gN 0) (gT (FU) qp)) σ2 H3 239 else 257):=by
 refine bL (xs:=154) (λi ys σ2 H2=>∃(ts:z0q)(ps:z0f),ys=ts.map V.ref/\ts.length=i/\ps.map 87=zs.take i/\Paired (λt (p:Str×Addr)=>aZ K H2 t [.str p.1,.ref p.2]) ts ps /\
   (∀p∈ps,H2 p.2=some (.dK [])/\H p.2=none/\p.2≠D)/\(ps.map (·.2)).Nodup/\(∃y0,σ2=[y0])/\370)
  ⟨[],[],rfl,rfl,rfl,.nil,92,92,⟨none,rfl⟩,af hD _,ae⟩ (λi ys σ2 H2 _ h=>?_) (λi x ys σ2 H2 ex h=>?_) (λys σ2 H2 h=>?_)
 .obtain⟨_,_,_,_,_,_,_,_,_,sm,_⟩:=h;exact sm.seq hp
 .obtain⟨ts,ps,rfl,ht,hm,jW,hl,hn,⟨y0,rfl⟩,sm,hd⟩:=h;rw [aX] at ex;obtain⟨z,ez,rfl⟩:=bT.mp ex;have li:=(bu.mp ez).1;refine goN (uJ ?_);refine⟨_,rfl,λl uG=>⟨qo,λt j9=>?_⟩⟩;have Oo:l≠D:=(aC hd uG).symm;have nt:t≠l:=λe=>by rw [e,ae] at j9;cases j9
  have Sz:H2 t=none:=by rw [aj nt] at j9;exact j9
  have ntD:t≠D:=(aC hd Sz).symm;have jt:aD H2 (upd (upd H2 l (.dK [])) t (.tup [.str z,.ref l])):=(af uG _).trans (af j9 _);have i5:=jt _ _ hd;have el:upd (upd H2 l (.dK [])) t (.tup [.str z,.ref l]) l=some (.dK []):=by rw [aj nt.symm,ae]
  have et:aZ K (upd (upd H2 l (.dK [])) t (.tup [.str z,.ref l])) t [.str z,.ref l]:=aZ.of ae;generalize upd (upd H2 l (.dK [])) t (.tup [.str z,.ref l])=H4 at jt i5 el et;refine⟨i5,219,ts++[t],ps++[(z,l)],by rw [ba];rfl,by rw [a8,ht];rfl,by rw [ba,hm,cK,ez];rfl,?_,?_,?_,157,?_,ae⟩
  .exact fc (Paired.b9 jW λt' h' z=>bz i5 (jt.tup z)) (bz i5 et)
  .intro p' pE;rcases bP.mp pE with h | h
   .obtain⟨a1,a2,a3⟩:=hl p' h;exact⟨by rw [aj a3];exact jt _ _ a1,a2,a3⟩
   rw [bB.mp h];exact⟨by rw [aj Oo];exact el,sm.free uG,Oo⟩
  .rw [ba];refine iN.mpr ⟨hn,92,λa ha b hb e=>?_⟩;rw [oU,bB] at hb;obtain⟨p',pE,rfl⟩:=bU.mp ha;have:=(hl p' pE).1;rw [e,hb] at this;rw [show H2 l=none from uG] at this;cases this
  intro b o hb;rw [330];exact jt _ _ (sm b o hb)
 obtain⟨ts,ps,rfl,ht,hm,jW,hl,hn,_,sm,hd⟩:=h;rw [ar,b0] at hm;exact q ts ps H2 sm hd hm jW hl hn
def gU {K:bp}{H:Hp}{D a C dx:Addr}{xs:List V}{fs:List (Str×V)}{o:HO}(hD:H D=some (.ins C dx fs))(h:aZ K H a xs):aZ K (upd H D o) a xs:=by
 rcases h with (h | ⟨u,h⟩) | h
 .exact .inl (.inl (by rw [aj (λz=>by rw [z,hD] at h;cases h)];exact h))
 .exact .inl (.inr ⟨u,by rw [aj (λz=>by rw [z,hD] at h;cases h)];exact h⟩)
 exact .inr h
def zL {K:bp}{H:Hp}{R D:Addr}{rs:z0q}{es:z0h}{σ:St}{x1 x2:Str}{Qp:Hp->Prop}(hR:aI K H R 153)(cM:Paired (λt (e:Str×Nat)=>aZ K H t [.str e.1,.int (e.2:Int)]) rs es)(bO:es.length<=1000)(hD:H D=none)
  (q:∀ts H2,aD H H2->H2 D=some 222->Paired (λt h=>aZ K H2 t [.str h,.bl true]) ts (es.map 87)->Qp H2) :
  ∃W:241,(∃m,W 0 m [] (dP [x1,x2] [] σ) 227) /\
 ∀i m ys σ' H,W i m ys σ' H->((jK K R).stop i H/\Qp H)\/((jK K R).go i H/\∃m',m' < m/\∀x H',(jK K R).lV i H x H'->zz K 2 (iZ (dF 0) (iZ (dF 1) BV)) x σ' H' λσ2 H2=>hX σ2 H2 λb H3 =>
  if b=true then uA (gT (gN 0) (gT (tC (.bl true)) qp)) σ2 H3 239 else 257):=by
 have ll:=a7 cM;refine bL (xs:=145) (λi ys σ2 H2=>∃ts:z0q,ys=ts.map V.ref/\ts.length=i/\Paired (λt h=>aZ K H2 t [.str h,.bl true]) ts ((es.take i).map 87)/\(∃y0 y1,σ2=[y0,y1])/\370)
  ⟨[],rfl,rfl,.nil,⟨none,none,rfl⟩,af hD _,ae⟩ (λi ys σ2 H2 _ h=>?_) (λi x ys σ2 H2 ex h=>?_) (λys σ2 H2 h=>?_)
 .obtain⟨_,_,_,_,_,sm,_⟩:=h;exact sm.seq hR
 .obtain⟨ts,rfl,ht,hp,⟨y0,y1,rfl⟩,sm,hd⟩:=h;rw [aX] at ex;obtain⟨r,er,rfl⟩:=bT.mp ex;have lr:=(bu.mp er).1;obtain⟨ru,e1⟩:∃ru,es[i]?=some ru:=⟨es[i]'∅,cZ ∅⟩;obtain⟨r',TN,v1⟩:=Paired.at_ cM i ru e1;rw [er] at TN;cases TN;have li:=(bu.mp e1).1;refine⟨r,_,rfl,sm.tup v1,rfl,_,_,rfl,_,_,rfl,rfl,?_⟩;refine uJ ?_;refine⟨_,rfl,qo,λt j9=>⟨?_,219,ts++[t],?_,?_,?_,⟨_,_,rfl⟩,?_,ae⟩⟩
  .rw [aj (aC hd j9)];exact hd
  .rw [ba];rfl
  .rw [a8,ht];rfl
  .rw [cK,e1,ba];have i5:upd H2 t (.tup [.str ru.1,.bl true]) D=some 222:=by rw [aj (aC hd j9)];exact hd
   exact fc (Paired.b9 hp λt' h' z=>bz i5 ((af j9 _).tup z)) (bz i5 (aZ.of ae))
  intro b o hb;rw [330];exact af j9 _ _ _ (sm b o hb)
 obtain⟨ts,rfl,ht,hp,_,sm,hd⟩:=h;rw [ar,ll,b0] at hp;exact q ts H2 sm hd hp
end L2
namespace M11
open PySem L2
def ux.sub {aa:88}{names:z0t}{b:Str->Bool}{aW:List Be}(h:ux aa names b aW):∀q∈bq aW,q.1∈aa.map 87/\q.2∈aa.flatMap (·.2):=by
 induction h with
 | nil=>intro q hq;cases hq
 | @snoc aW k j ru z wd hb er ez _ hw _ ih =>
  intro q hq;unfold bq at hq;rw [ba] at hq;rcases bP.mp hq with hq | hq
  .exact ih q hq
  rw [oU,bB] at hq;rw [hq];have hm:=cE er;refine⟨iB hm,?_⟩;unfold jd at hw
  split at hw
  .exact(ih (z,wd) (pH.mp hw)).2
  rw [bB.mp hw];exact jm.mpr ⟨ru,hm,cE ez⟩
def ux.nd {aa:88}{names:z0t}{b:Str->Bool}{aW:List Be}(h:ux aa names b aW):(bq aW).Nodup:=by
 induction h with
 | nil=>exact gI
 | @snoc aW k j ru z wd hb er ez _ hw hn ih =>
  unfold bq;rw [ba];refine iN.mpr ⟨ih,92,λx hx y hy e=>?_⟩;rw [oU,bB] at hy;rw [e,hy] at hx;exact hn hx
theorem yO (m:z0t):∀l:z0t,(l.flatMap λn=>m.map λwd=>(n,wd)).length=l.length * m.length
 | []=>92
 | n::l=>by
  rw [pT,a8,yO m l,ar,dI,Nat.add_mul];omega
def ux.len {aa:88}{names:z0t}{b:Str->Bool}{aW:List Be}(h:ux aa names b aW)(hl:aa.length<=100)(h8:∀ru∈aa,ru.2.length<=8):aW.length<=80000:=by
 have h1:=iL (bq aW) ((aa.map 87).flatMap λn=>(aa.flatMap (·.2)).map λwd=>(n,wd)) h.nd λq hq=>by
  obtain⟨a,c⟩:=h.sub q hq;exact jm.mpr ⟨q.1,a,bU.mpr ⟨q.2,c,rfl⟩⟩
 rw [yO] at h1;have h2:=hJ.jH aa 100 hl h8;unfold bq at h1;rw [ar,ar] at h1;have h3:aa.length * (aa.flatMap (·.2)).length<=100 * 800:=Nat.mul_le_mul hl h2;omega
def Ab (aa:88) (names:z0t)(b:Str->Bool) (n:Nat)(aW:List Be):Prop:=∀k ru,k < n->aa[k]?=some ru->∀j z,j < uL b ru.2->ru.2[j]?=some z->∀wd∈jd names aW z,(ru.1,wd)∈bq aW
end M11
namespace hJ
open PySem L2 M11
section
def CM (K:bp)(C:Addr):Sp:=λvs H Q _=>∃(H0:Hp)(a dx R:Addr)(rs:z0q)(aa:88),vs=[.ref a,.ref R]/\aD H0 H/\H0 a=none/\H a=some (.ins C dx [])/\aI K H0 R 153/\bM K H0 rs aa/\aa.length<=100/\329 /\
 ∀(e d bg:Addr)(kE:93)(aL:z0h)(ps:z0f)(aW:List Be)(H':Hp),oC K C H0 H' a e d bg kE aL ps aW->ps.map 87=hd aa->uj aa aL->qE aa aa.length aL->(∀z,(a0 kE 150).isSome=decide (z∈aL.map 87)) ->
  ux aa (hd aa) 328 aW->Ab aa (hd aa) 328 aa.length aW->Q .fu H'
def nO:aK ["self","rules","number","many","rule"] ["self","rules"] (ay A3):=163
def HP {C fF:Addr}{TF:FuncData}(F:iz K "__init__" "BeginTable.__init__" A3 f fd)(T:Txt mg)(B:BC K C)(GE:aF P w K mg base 1 "found_empties" ["rules"] (oY K))(GH:aF P w K mg base 1 "heads_of" ["rules"] (lB K))
  (FF:bR P w K mg base fI 2 fF TF ["self","number","rule"] (Ga K C))(MF:Meth K C "find_begins" fF)(BF:Binds K TF ["self","number","rule"] []):bR P w K mg base fI 3 f fd ["self","rules"] (CM K C):=by
 refine F.ok nO 184 186
 .obtain⟨H0,a,dx,R,rs,aa,rfl,_⟩:=h;rfl
 obtain⟨H0,a,dx,R,rs,aa,rfl,s0,f0,ea,hR,cM,bO,h8,q⟩:=h;refine⟨_,ag (gX 91 (bC (GE.mono (by decide:1<=2)) hr rfl (ab (pv 1) ak)) rfl)
  (ag (gX 91 (bN (eZ rfl) rfl T.Dp gC (ab (aT ["name","number"] [] rfl (aR (dA 91 rfl)) 162 nofun rfl nofun
   (λ_ _ _ _ _=>di (n:=2) K rfl (az (aq (i:=0) (show (["name","number"]:z0t).Nodup by decide +kernel) rfl 90) (az (aq (i:=1) (show (["name","number"]:z0t).Nodup by decide +kernel) rfl 90) bE))) 220
   (λ_ _ _ _ _=>bX (ab 91 (ab fY ak)))) ak)) rfl)
  (ag (gX 91 (bK ak) rfl)
  (ag (gX 91 (bN (eZ rfl) rfl T.Dp gC (ab (aT ["name"] [] rfl (aR (bC (GH.mono (by decide:1<=2)) hr rfl (ab (pv 1) ak))) 162 nofun rfl nofun
   (λ_ _ _ _ _=>aq (i:=0) (show (["name"]:z0t).Nodup by decide +kernel) rfl 90) 220
   (λ_ _ _ _ _=>bX (ab 91 (ab fX ak)))) ak)) rfl)
  (ag (aA (i:=3) nO.nd rfl 90 (yR rW av))
  (ao (iw bW (bc lX (pv 3) (aP aU rfl T.len d_ (ab (dA 91 rfl) ak)) (cA _))
   (ag (aA (i:=3) nO.nd rfl 90 (aP aU rfl T.len d_ (ab (dA 91 rfl) ak)))
   (ao (bJ bW rfl (nX rfl T.LA (ab (pv 1) ak)) (gu rfl (az (aq (i:=2) nO.nd rfl 90) (az (aq (i:=4) nO.nd rfl 90) bE)))
    (ao (cU (nY 91 B.cls MF FF hr BF .nil lW (ab (pv 2) (ab (pv 4) ak)))))))))))))),?_⟩
 nofun
 have ll:=a7 cM;refine⟨_,rfl,R,rs,aa,rfl,s0.seq hR,cM.same s0,∅,h8,λD1 DL aL H1 f1 s1 e1 w1 emp mW=>?_⟩;have ZH:=s1 _ _ ea;refine⟨_,rfl,a,C,dx,[],rfl,ZH,B.cls,B.a1,(by show 0 < 1000;decide),?_⟩;have e2:upd H1 a (.ins C dx (dW "empties" (.ref D1) [])) D1=some (.lst (DL.map V.ref)):=by rw [aj (λz=>by rw [z,ZH] at e1;cases e1)];exact e1
 have w2:oy K (upd H1 a (.ins C dx (dW "empties" (.ref D1) []))) DL aL:=w1.keep λ_ _ z=>gU ZH z;have Gz:aD H0 (upd H1 a (.ins C dx (dW "empties" (.ref D1) []))):=λc o hc=>by rw [aj (λz=>by rw [z,f0] at hc;cases hc)];exact s1 _ _ (s0 c o hc)
 have Pk:upd H1 a (.ins C dx (dW "empties" (.ref D1) [])) a=some (.ins C dx (dW "empties" (.ref D1) [])):=ae;generalize upd H1 a (.ins C dx (dW "empties" (.ref D1) []))=H2 at e2 w2 Gz Pk;have lets:=emp.len;refine⟨_,rfl,a,C,dx,_,_,rfl,Pk,B.cls,B.a1,rfl,D1,rfl,⟨_,aI.of e2⟩,λD2 jL=>zL (aI.of e2) w2 ∅ jL λkK H3 s3 e3 p3=>?_⟩;have kp:Paired (λt (kv:aQ×V)=>aZ K H3 t [kV kv.1,kv.2]) kK ((aL.map 87).map λh=>((Sum.inr h:aQ),V.bl true)):=c_ p3 λ_ _ z=>z;refine⟨D2,kK,_,rfl,e3,kp,λe he=>?_⟩;have Er:∀z,(a0 (dw ((aL.map 87).map λh=>((Sum.inr h:aQ),V.bl true)) []) 150).isSome=decide (z∈aL.map 87):=λz=>by
  rw [rT];by_cases c:z∈aL.map 87
  .rw [aw c,cv c];rfl
  rw [au c,dU c];rfl
 generalize dw ((aL.map 87).map λh=>((Sum.inr h:aQ),V.bl true)) []=kE at Er;have yN:=(Gz.trans s3).trans (af he (.dK kE));have Pj:=af he (.dK kE) _ _ (s3 _ _ Pk);have VP:upd H3 e (.dK kE) e=some (.dK kE):=ae;have NS:aD H2 (upd H3 e (.dK kE)):=s3.trans (af he (.dK kE));generalize upd H3 e (.dK kE)=H4 at yN Pj VP NS;have Z5:=NS _ _ e2;have wE4:oy K H4 DL aL:=w2.keep λ_ _ z=>NS.tup z;refine⟨_,rfl,a,C,dx,_,rfl,Pj,B.cls,B.a2,(by show 1 < 1000;decide),?_⟩;generalize YR:dW "empty" (.ref e) (dW "empties" (.ref D1) [])=lH;have TZ:upd H4 a (.ins C dx lH) e=some (.dK kE):=by rw [aj (λz=>by rw [z,Pj] at VP;cases VP)];exact VP
 have CS:aD H0 (upd H4 a (.ins C dx lH)):=λc o hc=>by rw [aj (λz=>by rw [z,f0] at hc;cases hc)];exact yN c o hc
 have ea5:upd H4 a (.ins C dx lH) a=some (.ins C dx lH):=ae;have Z4:upd H4 a (.ins C dx lH) D1=some (.lst (DL.map V.ref)):=by rw [aj (λz=>by rw [z,Pj] at Z5;cases Z5)];exact Z5
 have wE5:oy K (upd H4 a (.ins C dx lH)) DL aL:=wE4.keep λ_ _ z=>gU Pj z;generalize upd H4 a (.ins C dx lH)=H5 at TZ CS ea5 Z4 wE5;refine⟨uq,λbg OV=>?_⟩;have fbg:H0 bg=none:=CS.free OV;have VQ:upd H5 bg 138 bg=some 138:=ae;have Mp:=CS.trans (af OV 138);have Pf:=af OV 138 _ _ TZ;have QC:=af OV 138 _ _ ea5;have XG:D1≠bg:=aC Z4 OV;have VZ:=af OV 138 _ _ Z4;have wE6:oy K (upd H5 bg 138) DL aL:=wE5.keep λ_ _ z=>(af OV 138).tup z;generalize upd H5 bg 138=H6 at VQ Mp Pf QC VZ wE6;refine⟨_,rfl,a,C,dx,_,rfl,QC,B.cls,B.a3,(by rw [<-YR];show 2 < 1000;decide),?_⟩;generalize hf7:dW "begins" (.ref bg) lH=Lw;have Pe:upd H6 a (.ins C dx Lw) e=some (.dK kE):=by rw [aj (λz=>by rw [z,QC] at Pf;cases Pf)];exact Pf
 have eb7:upd H6 a (.ins C dx Lw) bg=some 138:=by rw [aj (λz=>by rw [z,QC] at VQ;cases VQ)];exact VQ
 have NV:aD H0 (upd H6 a (.ins C dx Lw)):=λc o hc=>by rw [aj (λz=>by rw [z,f0] at hc;cases hc)];exact Mp c o hc
 have ea7:upd H6 a (.ins C dx Lw) a=some (.ins C dx Lw):=ae;have dE7:upd H6 a (.ins C dx Lw) D1=some (.lst (DL.map V.ref)):=by rw [aj (λz=>by rw [z,QC] at VZ;cases VZ)];exact VZ
 have wE7:oy K (upd H6 a (.ins C dx Lw)) DL aL:=wE6.keep λ_ _ z=>gU QC z;generalize upd H6 a (.ins C dx Lw)=H7 at Pe eb7 NV ea7 dE7 wE7;refine⟨_,rfl,R,rs,aa,rfl,NV.seq hR,cM.same NV,∅,λD4 H8 f8 s8 e8=>?_⟩;have Ox:=ja 204 [];simp only [kc,ar] at Ox;refine⟨D4,rfl,⟨_,aI.of e8⟩,λD5 Qu=>zN (aI.of e8) ∅ Qu λts ps H9 s9 e9 m9 p9 l9 n9=>?_⟩;have n1:(ps.map 87).Nodup:=by rw [m9];exact pK _ gI
 have Ij:Paired (λt (kv:aQ×V)=>aZ K H9 t [kV kv.1,kv.2]) ts (ps.map jA):=c_ p9 λ_ _ z=>z;refine⟨D5,ts,_,rfl,e9,Ij,λd vA=>?_⟩;have TV:dw (ps.map jA) []=ps.map jA:=oo _ [] (by
  rw [mx,lG];exact xF n1)
 rw [TV];have P7:=s8.trans s9;have sd:=af vA (.dK (ps.map jA));have A5:=P7.trans sd;have qA:upd H9 d (.dK (ps.map jA)) d=some (.dK (ps.map jA)):=ae;have Ow:∀p∈ps,upd H9 d (.dK (ps.map jA)) p.2=some (.dK [])/\p.2≠d:=λp hp=>⟨sd _ _ (l9 p hp).1,λz=>by have:=(l9 p hp).1;rw [z,vA] at this;cases this⟩;generalize upd H9 d (.dK (ps.map jA))=z8 at A5 qA Ow;have B7:=A5 _ _ ea7;have xW:=A5 _ _ Pe;have Pg:=A5 _ _ eb7;have W6:=NV.trans A5;have Py:=A5 _ _ dE7;have Wu:oy K z8 DL aL:=wE7.keep λ_ _ z=>A5.tup z;refine⟨_,rfl,a,C,dx,_,rfl,B7,B.cls,B.a4,(by rw [<-hf7,<-YR];show 3 < 1000;decide),?_⟩;have fp:∀p∈ps,H0 p.2=none/\p.2≠e:=λp hp=>by
  have h8':H8 p.2=none:=(l9 p hp).2.1;refine⟨(NV.trans s8).free h8',λz=>?_⟩;have:=s8 _ _ Pe;rw [<-z,h8'] at this;cases this
 have hfs:Exists λfs=>dW "firsts" (.ref d) Lw=fs/\fs.lookup ("empty":Str)=some (.ref e)/\fs.lookup ("begins":Str)=some (.ref bg)/\fs.lookup ("firsts":Str)=some (.ref d)/\fs.lookup ("find_begins":Str)=none/\(fs.lookup ("words_of_part":Str)=none/\fs.lookup ("first_words":Str)=none/\fs.lookup ("all_empty":Str)=none/\fs.lookup ("words_of_parts":Str)=none)/\fs.lookup ("empties":Str)=some (.ref D1):=by
  refine⟨_,rfl,?_⟩;rw [<-hf7,<-YR];refine⟨?_,?_,?_,?_,⟨?_,?_,?_,?_⟩,?_⟩ <;> rfl
 obtain⟨fs,efs,k1,k2,k3,k4,k5,k6⟩:=hfs;rw [efs];have FE:oC K C H0 (upd z8 a (.ins C dx fs)) a e d bg kE aL ps []:=by
  refine⟨λc o hc=>by rw [aj (λz=>by rw [z,f0] at hc;cases hc)];exact W6 c o hc,⟨dx,fs,ae,k1,k2,k3,k4,k5⟩,?_,?_,n1,n9,λp hp=>⟨⟨[],?_,rfl⟩,(fp p hp).1,(fp p hp).2,(Ow p hp).2⟩,⟨[],?_,.nil⟩,fbg,⟨D1,DL,⟨dx,fs,ae,k6⟩,by rw [aj (λz=>by rw [z,B7] at Py;cases Py)];exact Py,Wu.keep λ_ _ z=>gU B7 z,XG⟩⟩
  .rw [aj (λz=>by rw [z,B7] at xW;cases xW)];exact xW
  .rw [aj (λz=>by rw [z,B7] at qA;cases qA)];exact qA
  .have:=(Ow p hp).1;rw [aj (λz=>by rw [z,B7] at this;cases this)];exact this
  rw [aj (λz=>by rw [z,B7] at Pg;cases Pg)];exact Pg
 generalize upd z8 a (.ins C dx fs)=Fg at FE;have eb:(λz=>(a0 kE 150).isSome)=λz=>decide (z∈aL.map 87):=funext Er;refine⟨1,rfl,?_⟩;refine⟨λmm σ z7=>∃(aW:List Be) (many:Int)(y2 y4:Option V),σ=[aE a,aE R,y2,some (.int many),y4]/\oC K C H0 z7 a e d bg kE aL ps aW/\ux aa (hd aa) 328 aW/\-1<=many/\many<=aW.length /\
  (many=aW.length->Ab aa (hd aa) 328 aa.length aW)/\(mm:Int)=80001 - many,⟨80002,[],-1,none,none,rfl,FE,.nil,∅,92,92,∅⟩,?_⟩
 rintro mm σ z7 ⟨aW,many,y2,y4,rfl,JY,PJ,b1,b2,cl,em⟩;obtain⟨Pt,qR,q1,q2,q3,q4,q5,q6⟩:=JY.ia;obtain⟨tb,hb1,IG⟩:=JY.lb;have lb:=a7 IG;have Oz:=PJ.len bO h8;refine⟨_,rfl,_,rfl,a,C,Pt,qR,_,rfl,q1,B.cls,B.a3,q3,bg,_,rfl,.inl (aI.of hb1),_,_,rfl,rfl,_,rfl,?_⟩;refine 246
 .have c':=cR c;rw [ar,lb] at c';refine⟨λσ DE=>∃(d7:List Be)(y2 y4:Option V),σ=[aE a,aE R,y2,some (.int (aW.length:Int)),y4]/\oC K C H0 DE a e d bg kE aL ps d7/\ux aa (hd aa) 328 d7/\aW.length<=d7.length /\
   (d7.length=aW.length->d7=aW/\Ab aa (hd aa) 328 aa.length aW),?_,?_⟩
  .rintro σ DE ⟨d7,y2,y4,rfl,Jr,E6,X1,JV⟩;have:=E6.len bO h8;refine⟨(80001 - aW.length:Int).toNat,∅,d7,_,_,_,rfl,Jr,E6,∅,∅,λz=>?_,∅⟩;obtain⟨LG,zG⟩:=JV ∅;rw [LG];exact zG
  refine⟨_,rfl,a,C,Pt,qR,_,rfl,q1,B.cls,B.a3,q3,bg,_,rfl,.inl (aI.of hb1),?_⟩;rw [ar,lb];refine⟨_,rfl,R,_,rfl,JY.sm.seq hR,?_⟩;refine k0 (xs:=145) (λi σ DE=>∃(d7:List Be)(y2 y4:Option V),σ=[aE a,aE R,y2,some (.int (aW.length:Int)),y4]/\oC K C H0 DE a e d bg kE aL ps d7/\ux aa (hd aa) 328 d7/\aW.length<=d7.length /\
   (d7.length=aW.length->d7=aW/\Ab aa (hd aa) 328 i aW)) ⟨aW,_,_,rfl,JY,PJ,aG _,λ_=>⟨rfl,λk ru hk=>by omega⟩⟩ ?_ ?_ ?_
  .rintro i σ DE _ ⟨d7,y2,y4,rfl,Jr,_⟩;exact Jr.sm.seq hR
  .rintro i x σ DE t ex ⟨d7,y2,y4,rfl,Jr,E6,X1,JV⟩ ht
   ac_nf0
   rw [aX] at ex;obtain⟨r,er,rfl⟩:=bT.mp ex;obtain⟨ru,tN,rv⟩:=cM.get er;have kZ:=cE tN;have Uv:=Jr.same (af ht (.tup [155,.ref r]));have Sv:aZ K (upd DE t (.tup [155,.ref r])) t [155,.ref r]:=aZ.of ae;generalize upd DE t (.tup [155,.ref r])=H14 at Uv Sv;obtain⟨dx4,Qw,r1,r2,r3,r4,r5,r6⟩:=Uv.ia;refine⟨t,_,rfl,Sv,rfl,_,_,rfl,_,_,rfl,rfl,?_⟩;refine⟨_,rfl,a,dx4,Qw,rfl,r1,r5,_,rfl,_,rfl,H0,a,e,d,bg,r,kE,aL,ps,d7,i,ru,aa,rfl,Uv,rv,tN,h8 ru kZ,by rw [m9];exact(il _ _ _).mpr (.inr (iB kZ)),?_,?_,?_⟩
   .intro x_ JK;have:=JK.len bO h8;omega
   .rw [m9,eb];exact E6
   rw [m9,eb];intro aac H15 S15 aab l15 c15;refine⟨aac,_,_,rfl,S15,aab,∅,λhl3=>?_⟩;obtain⟨x1,x2⟩:=JV ∅;obtain⟨x3,x4⟩:=c15 ∅;refine⟨x3.trans x1,λk A9 hk Zr j z hj ez wd hw=>?_⟩;by_cases ck:k < i
   .exact x2 k A9 ck Zr j z hj ez wd hw
   have:k=i:=by omega
   subst this;rw [tN] at Zr;cases Zr;rw [<-x1] at hw ⊢;exact x4 j z hj ez wd hw
  rintro σ DE ⟨d7,y2,y4,rfl,Jr,E6,X1,JV⟩;rw [ar,ll] at JV;exact⟨d7,_,_,rfl,Jr,E6,X1,JV⟩
 have c':=of_decide_eq_false (rC.mpr c);rw [ar,lb] at c';exact q e d bg kE aL ps aW z7 JY m9 emp mW Er PJ (cl ∅)
end
end hJ
namespace L2
open PySem PySem.W
section
variable {X:Cx}{ai:z0e}{σ:St}{H:Hp}{s:Shared}{a:Addr}{kvs:93}{k:aQ}{u:Value}{A:Around}{E:z0b}
def Pw {z:V}{r:Value}{Q:z0b}(I:141)(e:H a=188)(hl:kvs.length < sizeLine)(ry:RelV (kV k) u)(rz:RelV z r)
  (h1:∀v w' s',a0 kvs k=some v->Inv X ai σ H s'->RelV v w'->Q w' s')(h2:a0 kvs k=none->∀s',Inv X ai σ (upd H a (.dK (bS kvs k z))) s'->Q r s') :
  wpAny 151 A (call (.builtin "dict.setdefault") [.ref a,u,r]) Q E s:=by
 obtain⟨zl,hd,vs,rel,dd⟩:=vK I.cw e;refine call_meetsIn PySem.F.slot_dict_setdefault dd.typeIs PySem.F.entry_dict_setdefault (PySem.F.args_dict_setdefault_3 _ _ _) (kt_meets_setdefault (aY X.prog X.w) a (md ry) hd r)
  ⟨vs,dd,by rw [<-rel.length];exact zl,λv hv=>?_,λhn h' JU hs=>?_⟩
 .have rv:=rel.val k;rw [hv] at rv;cases e2:a0 kvs k with
  | none=>rw [e2] at rv;cases rv
  | some x=>rw [e2] at rv;exact h1 x v _ e2 (I.tok _) rv
 have Fw:a0 kvs k=none:=by
  have rv:=rel.val k;rw [hn] at rv;cases e2:a0 kvs k with
  | none=>rfl
  | some x=>rw [e2] at rv;cases rv
 have he:∃q,h'.get? a=some q:=let ⟨q,_,_,hq,_⟩:=JU;⟨q,hq⟩;exact h2 Fw _ (qU I (by rw [e];exact True.intro) hs he (tR (by have:=gb kvs k z;omega) hd (rel.put k rz) JU))
end
section
variable {X:Cx}{o e f:Expr}{apos g9:Pos}{td ty tx:TE}
def Ny (td ty tx:TE):TE:=λσ H Q=>td σ H λx H1=>∃a,x=.ref a/\V_ H1 a/\ty σ H1 λy H2=>tx σ H2 λz H3=>∃kvs k,H3 a=188/\y=kV k/\kvs.length < sizeLine /\
 (∀v,a0 kvs k=some v->Q v H3)/\(a0 kvs k=none->Q z (upd H3 a (.dK (bS kvs k z))))
def Ha (ho:PE X o td)(he:PE X e ty)(hf:PE X f tx)(m:M2 X o "setdefault" apos e f g9):PE X (.Call (.Attribute o "setdefault" apos) [e,f] [] g9) (Ny td ty tx):=by
 intro ai s σ H Q I h;refine wpAny_Call_method m.base m.qe m.line Av PySem.F.slot_dict_setdefault PySem.F.type_dict_setdefault (dC (ho ai s σ H _ I h) λu s1 bI=>?_);obtain⟨x,H1,I1,rx,a,ex,d,q1⟩:=bI;subst ex;obtain rfl:u=Value.ref a:=rx;obtain⟨t1,t2,_⟩:=BK I1 d;refine⟨t1,t2,?_⟩;rw [m.trees];refine rM rfl (wo (oS (dC (he ai s1 σ H1 _ I1 q1) λiv s2 ⟨y,H2,I2,ry,q2⟩ =>
  oS (dC (hf ai s2 σ H2 _ I2 q2) λfv s3 ⟨z,H3,I3,rz,kvs,k,ea,ey,hl,q3,q4⟩=>Calls.spliced_nil ?_))))
 subst ey;exact Pw I3 ea hl ry rz (λv w' s4 l I4 A7=>⟨v,_,I4,A7,q3 v l⟩) λl s4 I4=>⟨z,_,I4,rz,q4 l⟩
end
end L2
namespace hJ
open PySem L2 M11
section
def RG {ps:z0f}(n1:(ps.map 87).Nodup)(n2:(ps.map (·.2)).Nodup){p p':Str×Addr}(hp:p∈ps)(pE:p'∈ps)(z:p'≠p):p'.1≠p.1/\p'.2≠p.2:=by
 refine⟨λq=>z ?_,λq=>z ?_⟩
 .have w1:=gS ps n1 p' pE;have w2:=gS ps n1 p hp;rw [q,w2] at w1;injection w1 with w3;injection w3 with w4;exact gQ q w4.symm
 obtain⟨i,hi,ei⟩:=rf.mp pE;obtain⟨j,hj,ej⟩:=rf.mp hp;have zx:i=j:=by
  refine(v9 (xs:=ps.map (·.2)) (h₀:=by simpa using hi) (h₁:=by simpa using hj) n2).mp ?_;rw [oR,oR,ei,ej];exact q
 subst zx;exact ei.symm.trans ej
structure JZ (ps:z0f)(st:Str->z0u)(H:Hp)(d:Addr):Prop where
 hd:H d=some (.dK (ps.map jA))
 n1:(ps.map 87).Nodup
 n2:(ps.map (·.2)).Nodup
 lst:∀p∈ps,H p.2=some (.lst ((st p.1).map V.int))
def JZ.same {ps:z0f}{st:Str->z0u}{H H':Hp}{d:Addr}(h:JZ ps st H d)(s:aD H H'):JZ ps st H' d:=⟨s _ _ h.hd,h.n1,h.n2,λp hp=>s _ _ (h.lst p hp)⟩
def Du (st:Str->z0u)(n:Str) (k:Int):Str->z0u:=λz=>if z=n then st z++[k] else st z
def JZ.more {ps:z0f}{st:Str->z0u}{H:Hp}{d:Addr}(h:JZ ps st H d){p:Str×Addr}(hp:p∈ps) (k:Int):JZ ps (Du st p.1 k) (upd H p.2 (.lst ((st p.1).map V.int++[.int k]))) d:=by
 have a:=h.lst p hp;have nd:d≠p.2:=λz=>by have:=h.hd;rw [z,a] at this;cases this
 refine⟨by rw [aj nd];exact h.hd,h.n1,h.n2,λp' pE=>?_⟩;by_cases z:p'=p
 .rw [z,ae];have e1:Du st p.1 k p.1=st p.1++[k]:=aw rfl;rw [e1,ba];rfl
 obtain⟨a1,a2⟩:=RG h.n1 h.n2 hp pE z;have e1:Du st p.1 k p'.1=st p'.1:=au a1;rw [aj a2,e1];exact h.lst p' pE
def AK (K:bp):Sp:=λvs H Q _=>∃(R:Addr)(rs:z0q)(aa:88),vs=[.ref R]/\aI K H R 153/\bM K H rs aa/\aa.length<=1000 /\
 ∀(d:Addr)(ps:z0f)(H':Hp),H d=none->aD H H'->JZ ps (λn=>nums aa n aa.length) H' d->ps.map 87=hd aa->(∀p∈ps,H p.2=none)->Q (.ref d) H'
def xg:aK ["rules","numbers","number","rule"] ["rules"] (ay Gq):=163
def KL (F:iz K "numbers_by_name" "numbers_by_name" Gq f fd)(T:Txt mg)(GH:aF P w K mg base 1 "heads_of" ["rules"] (lB K)):bR P w K mg base fI 2 f fd ["rules"] (AK K):=by
 refine F.ok xg 184 186
 .obtain⟨R,rs,aa,rfl,_⟩:=h;rfl
 obtain⟨R,rs,aa,rfl,hR,cM,bO,q⟩:=h;have hu:=gh hr;refine⟨_,ag (aA (i:=1) xg.nd rfl 90 (bN (eZ rfl) rfl T.Dp gC (ab
   (aT ["name"] [] rfl (aR (bC GH hr rfl (ab 91 ak))) 162 nofun rfl nofun
    (λ_ _ _ _ _=>aq (i:=0) (show (["name"]:z0t).Nodup by decide +kernel) rfl 90) 220
    (λ_ _ _ _ _=>bX (ab 91 (ab (bK ak) ak)))) ak)))
  (ag (bJ bW rfl (nX rfl T.LA (ab 91 ak)) (gu rfl (az (aq (i:=2) xg.nd rfl 90) (az (aq (i:=3) xg.nd rfl 90) bE)))
   (ao (cU (gZ gA iD iE cx (fO hu (pv 1) (a_ bF (pv 3) av 142) 142) (ab (pv 2) ak)))))
  (ao (bw (pv 1)))),?_⟩
 nofun
 have ll:=a7 cM;refine⟨_,rfl,R,rs,aa,rfl,hR,cM,bO,λD2 H3 f3 s3 e3=>?_⟩;have Ox:=ja 204 [];simp only [kc,ar] at Ox;refine⟨D2,rfl,⟨_,aI.of e3⟩,λD3 JM=>tW (aI.of e3) ∅ JM λts ps H4 s4 e4 m4 p4 l4 n4=>?_⟩;have n1:(ps.map 87).Nodup:=by rw [m4];exact pK _ gI
 have Ij:Paired (λt (kv:aQ×V)=>aZ K H4 t [kV kv.1,kv.2]) ts (ps.map jA):=c_ p4 λ_ _ z=>z;refine⟨D3,ts,_,rfl,e4,Ij,λd vA=>?_⟩;have TV:dw (ps.map jA) []=ps.map jA:=oo _ [] (by
  rw [mx,lG];exact xF n1)
 rw [TV];have s5:=(s3.trans s4).trans (af vA (.dK (ps.map jA)));have yM:=af vA (.dK (ps.map jA));have Ak:H d=none:=(s3.trans s4).free vA;have S5:JZ ps (λn=>nums aa n 0) (upd H4 d (.dK (ps.map jA))) d:=⟨ae,n1,n4,λp hp=>yM _ _ (l4 p hp).1⟩;have Qx:∀p∈ps,H p.2=none:=λp hp=>s3.free (l4 p hp).2.1;generalize upd H4 d (.dK (ps.map jA))=H5 at s5 S5;clear yM;refine⟨_,rfl,R,_,rfl,s5.seq hR,?_⟩
 let yj:uh:=λi σ H6=>∃(y2 y3:Option V),σ=[aE R,aE d,y2,y3]/\aD H H6/\JZ ps (λn=>nums aa n i) H6 d
 refine k0 (xs:=145) yj ⟨none,none,rfl,s5,S5⟩ ?_ ?_ ?_
 .rintro i σ H6 _ ⟨y2,y3,rfl,s6,_⟩;exact s6.seq hR
 .rintro i x σ H6 t ex ⟨y2,y3,rfl,s6,S6⟩ ht
  ac_nf0
  rw [aX] at ex;obtain⟨r,er,rfl⟩:=bT.mp ex;obtain⟨ru,tN,p,v1,v2⟩:=cM.get er;have kZ:=cE tN;have li:=(bu.mp tN).1;have vf:=af ht (.tup [155,.ref r]);have MR:aZ K (upd H6 t (.tup [155,.ref r])) t [155,.ref r]:=aZ.of ae;have s7:=s6.trans vf;have S7:=S6.same vf;generalize upd H6 t (.tup [155,.ref r])=H7 at MR s7 S7;obtain⟨pn,zw,Am⟩:∃pn∈ps,pn.1=ru.1:=by
   have:ru.1∈ps.map 87:=by rw [m4];exact(il _ _ _).mpr (.inr (iB kZ))
   obtain⟨pn,a,b⟩:=bU.mp this;exact⟨pn,a,b⟩
  have an:=S7.lst pn zw;have vn:=gS ps n1 pn zw;rw [Am] at vn;have hg:cu H7 d (.str ru.1) (some (.ref pn.2)):=by
   have:=cu.k (k:=Sum.inr ru.1) S7.hd;rw [vn] at this;exact this
  have ln:=yV aa pn.1 i;refine⟨t,_,rfl,MR,rfl,_,_,rfl,_,_,rfl,rfl,?_⟩;refine⟨_,rfl,_,rfl,r,_,_,_,rfl,rfl,s7.tup v1,rfl,d,_,rfl,hg,.inl ⟨rfl,_,aI.of an⟩,_,rfl,pn.2,_,_,rfl,rfl,an,219,?_⟩;have S8:=S7.more zw (i:Int);refine⟨_,_,rfl,λb o hb=>by rw [aj (λz=>by rw [z,Qx pn zw] at hb;cases hb)];exact s7 b o hb,S8.hd,S8.n1,S8.n2,λp' pE=>?_⟩;have:=S8.lst p' pE;rw [this]
  congr 3
  unfold Du;rw [Ej];by_cases c:p'.1=pn.1
  .rw [aw c,aw];unfold zq;rw [tN,c,Am];simp
  rw [au c,au,dN];unfold zq;rw [tN];intro z;have z2:=cR z;injection z2 with z3;exact c (by rw [Am];exact z3.symm)
 rintro σ H6 ⟨y2,y3,rfl,s6,S6⟩;rw [ar,ll] at S6;exact⟨_,rfl,q d ps H6 Ak s6 S6 m4 Qx⟩
def Ml (K:bp):Sp:=λvs H Q _=>∃(R:Addr)(rs:z0q)(aa:88),vs=[.ref R]/\aI K H R 153/\bM K H rs aa/\aa.length<=1000/\329 /\
 ∀(d:Addr)(H':Hp),H d=none->aD H H'->Q (.ref d) H'
structure FC (H0 H:Hp)(d:Addr)(kvs:93) (n:Nat):Prop where
 hd:H d=188
 ln:kvs.length<=n
 lst:∀kv∈kvs,∃a xs,kv.2=.ref a/\H a=some (.lst xs)/\H0 a=none/\xs.length<=n
def FC.same {H0 H H':Hp}{d:Addr}{kvs:93}{n:Nat}(h:FC H0 H d kvs n)(s:aD H H'):FC H0 H' d kvs n:=⟨s _ _ h.hd,h.ln,λkv hk=>let ⟨a,xs,e1,e2,e3,e4⟩:=h.lst kv hk;⟨a,xs,e1,s _ _ e2,e3,e4⟩⟩
def FC.more {H0 H:Hp}{d a:Addr}{kvs:93}{n:Nat}{xs:List V}{y:V}(h:FC H0 H d kvs (n+1))(ha:H a=some (.lst xs))(lx:xs.length<=n)(l2:∀kv∈kvs,∃a xs,kv.2=.ref a/\H a=some (.lst xs)/\H0 a=none/\xs.length<=n):FC H0 (upd H a (.lst (xs++[y]))) d kvs (n+1):=by
 have nd:d≠a:=λz=>by have:=h.hd;rw [z,ha] at this;cases this
 refine⟨by rw [aj nd];exact h.hd,h.ln,λkv hk=>?_⟩;obtain⟨b,ys,e1,e2,e3,e4⟩:=l2 kv hk;by_cases c:b=a
 .exact⟨b,xs++[y],e1,by rw [c,ae],e3,by rw [a8];simp;omega⟩
 exact⟨b,ys,e1,by rw [aj c];exact e2,e3,∅⟩
def Nq {kvs:93}{k:aQ}{v:V}(h:a0 kvs k=some v):∃kv∈kvs,kv.2=v:=by
 unfold a0 at h;obtain⟨kv,e1,e2⟩:=bT.mp h;exact⟨kv,List.mem_of_find?_eq_some e1,e2⟩
def vd:aK ["rules","standings","number","rule","place","part"] ["rules"] (ay NL):=163
def Og (F:iz K "standings_by_part" "standings_by_part" NL f fd)(T:Txt mg):bR P w K mg base fI 1 f fd ["rules"] (Ml K):=by
 refine F.ok vd 184 186
 .obtain⟨R,rs,aa,rfl,_⟩:=h;rfl
 obtain⟨R,rs,aa,rfl,hR,cM,bO,h8,q⟩:=h;have hu:=gh hr;refine⟨_,ag (aA (i:=1) vd.nd rfl 90 fX)
  (ag (bJ bW rfl (nX rfl T.LA (ab 91 ak)) (gu rfl (az (aq (i:=2) vd.nd rfl 90) (az (aq (i:=3) vd.nd rfl 90) bE)))
   (ao (bJ bW rfl (nW rfl T.LA (ab (a_ bF (pv 3) av 142) ak)) (gu rfl (az (aq (i:=4) vd.nd rfl 90) (az (aq (i:=5) vd.nd rfl 90) bE)))
    (ao (cU (gZ gA iD iE cx (Ha (pv 1) (pv 5) (bK ak) ⟨rfl,rfl,rfl,rfl⟩) (ab (bX (ab (pv 2) (ab (pv 4) ak))) ak)))))))
  (ao (bw (pv 1)))),?_⟩
 nofun
 have ll:=a7 cM;intro d vA;have s1:=af vA (.dK []);have S1:FC H (upd H d (.dK [])) d [] (8 * 0):=⟨ae,aG _,λkv hk=>by cases hk⟩;generalize upd H d (.dK [])=H1 at s1 S1;refine⟨_,rfl,R,_,rfl,s1.seq hR,?_⟩
 let Fe:uh:=λi σ H6=>∃(kvs:93)(y2 y3 y4 y5:Option V),σ=[aE R,aE d,y2,y3,y4,y5]/\aD H H6/\FC H H6 d kvs (8 * i)
 refine k0 (xs:=145) Fe ⟨[],none,none,none,none,rfl,s1,S1⟩ ?_ ?_ ?_
 .rintro i σ H6 _ ⟨kvs,y2,y3,y4,y5,rfl,s6,_⟩;exact s6.seq hR
 .rintro i x σ H6 t ex ⟨kvs,y2,y3,y4,y5,rfl,s6,S6⟩ ht
  ac_nf0
  rw [aX] at ex;obtain⟨r,er,rfl⟩:=bT.mp ex;obtain⟨ru,tN,p,v1,v2⟩:=cM.get er;have kZ:=cE tN;have O2:=h8 ru kZ;have li:=(bu.mp tN).1;have vf:=af ht (.tup [155,.ref r]);have MR:aZ K (upd H6 t (.tup [155,.ref r])) t [155,.ref r]:=aZ.of ae;have s7:=s6.trans vf;have S7:=S6.same vf;generalize upd H6 t (.tup [155,.ref r])=H7 at MR s7 S7;refine⟨t,_,rfl,MR,rfl,_,_,rfl,_,_,rfl,rfl,?_⟩;refine⟨_,rfl,r,_,_,_,rfl,rfl,s7.tup v1,rfl,p,_,rfl,s7.tup v2,?_⟩
  let Uz:uh:=λj σ H9=>∃(kvs:93)(y4 y5:Option V),σ=[aE R,aE d,some (155),aE r,y4,y5]/\aD H H9/\FC H H9 d kvs (8 * i+j)
  refine pI (xs:=ru.2.map V.str) Uz ⟨kvs,_,_,rfl,s7,S7⟩ ?_ ?_ ?_
  .rintro j σ H9 _ ⟨kvs,y4,y5,rfl,s9,_⟩;exact s9.tup v2
  .rintro j x σ H9 t2 iM ⟨kvs,y4,y5,rfl,s9,S9⟩ j9
   ac_nf0
   rw [aX] at iM;obtain⟨z,ez,rfl⟩:=bT.mp iM;have lj:=(bu.mp ez).1;have yL:=af j9 (.tup [.int (j:Int),.str z]);have Ip:aZ K (upd H9 t2 (.tup [.int (j:Int),.str z])) t2 [.int (j:Int),.str z]:=aZ.of ae;have qt:=s9.trans yL;have Ni:=S9.same yL;generalize upd H9 t2 (.tup [.int (j:Int),.str z])=z8 at Ip qt Ni;refine⟨t2,_,rfl,Ip,rfl,_,_,rfl,_,_,rfl,rfl,?_⟩;have lk:=Ni.ln;refine⟨_,rfl,d,rfl,.inl ⟨kvs,.inl Ni.hd⟩,_,rfl,uq,λl hl=>?_⟩;have Km:=af hl 138;have JT:upd z8 l 138 l=some 138:=ae;have fl:H l=none:=qt.free hl;have FE:=Ni.same Km;have sA:=qt.trans Km;generalize upd z8 l 138=Fg at Km JT FE sA;have fin:∀(a:Addr)(xs:List V)(mQ:93)(z7:Hp),z7 a=some (.lst xs)->H a=none->xs.length<=8 * i+j->FC H z7 d mQ (8 * i+j+1)->(∀kv∈mQ,∃a xs,kv.2=.ref a/\z7 a=some (.lst xs)/\H a=none/\xs.length<=8 * i+j)->aD H z7 ->
     ∀t4,z7 t4=none->xs.length < sizeLine/\∃(kvs:93)(y4 y5:Option V),[some (V.ref R),aE d,some (155),aE r,some (.int (j:Int)),some (.str z)]=[aE R,aE d,some (155),aE r,y4,y5]/\aD H (upd (upd z7 t4 (.tup [155,.int (j:Int)])) a (.lst (xs++[.ref t4])))/\FC H (upd (upd z7 t4 (.tup [155,.int (j:Int)])) a (.lst (xs++[.ref t4]))) d kvs (8 * i+(j+1)) :=
    λa xs mQ z7 ea fa lx JY JE A6 t4 zu=>by
     have qJ:=af zu (.tup [155,.int (j:Int)]);refine⟨br ∅,mQ,_,_,rfl,λb o hb=>by rw [aj (λz=>by rw [z,fa] at hb;cases hb)];exact qJ _ _ (A6 b o hb),?_⟩;exact(JY.same qJ).more (qJ _ _ ea) lx λkv hk=>let ⟨b,ys,e1,e2,e3,e4⟩:=JE kv hk;⟨b,ys,e1,qJ _ _ e2,e3,e4⟩
   refine⟨kvs,140,FE.hd,rfl,br ∅,λv hv=>?_,λhn=>?_⟩
   .obtain⟨kv,hk,ek⟩:=Nq hv;obtain⟨a,xs,e1,e2,e3,e4⟩:=FE.lst kv hk;rw [e1] at ek;subst ek;refine⟨.inl ⟨rfl,_,aI.of e2⟩,_,rfl,_,rfl,qo,λt4 zu=>?_⟩;obtain⟨g1,g2⟩:=fin a xs kvs Fg e2 e3 e4 ⟨FE.hd,∅,λkv hk=>let ⟨b,ys,e1,e2,e3,e4⟩:=FE.lst kv hk;⟨b,ys,e1,e2,e3,∅⟩⟩ FE.lst sA t4 zu;exact⟨a,_,_,rfl,rfl,af zu _ _ _ e2,g1,g2⟩
   have nd:d≠l:=λz=>by have:=FE.hd;rw [z,JT] at this;cases this
   have M_:upd Fg d (.dK (bS kvs 150 (.ref l))) l=some 138:=by rw [aj nd.symm];exact JT
   have Ak:H d=none:=vA;have A6:aD H (upd Fg d (.dK (bS kvs 150 (.ref l)))):=λb o hb=>by rw [aj (λz=>by rw [z,Ak] at hb;cases hb)];exact sA b o hb
   have JE:∀kv∈bS kvs 150 (.ref l),∃a xs,kv.2=.ref a/\upd Fg d (.dK (bS kvs 150 (.ref l))) a=some (.lst xs)/\H a=none/\xs.length<=8 * i+j:=λkv hk=>by
    rw [kP _ hn] at hk;rcases bP.mp hk with h | h
    .obtain⟨b,ys,e1,e2,e3,e4⟩:=FE.lst kv h;exact⟨b,ys,e1,by rw [aj (λz=>by rw [z,FE.hd] at e2;cases e2)];exact e2,e3,e4⟩
    rw [bB.mp h];exact⟨l,[],rfl,M_,fl,92⟩
   have lp:=gb kvs (140:aQ) (.ref l);have JY:FC H (upd Fg d (.dK (bS kvs 150 (.ref l)))) d (bS kvs 150 (.ref l)) (8 * i+j+1):=⟨ae,∅,λkv hk=>let ⟨b,ys,e1,e2,e3,e4⟩:=JE kv hk;⟨b,ys,e1,e2,e3,∅⟩⟩;generalize upd Fg d (.dK (bS kvs 150 (.ref l)))=z7 at M_ A6 JE JY;refine⟨.inl ⟨rfl,_,aI.of M_⟩,_,rfl,_,rfl,qo,λt4 zu=>?_⟩;obtain⟨g1,g2⟩:=fin l [] _ z7 M_ fl 144 JY JE A6 t4 zu;exact⟨l,_,_,rfl,rfl,af zu _ _ _ M_,g1,g2⟩
  rintro σ H9 ⟨kvs,y4,y5,rfl,s9,S9⟩;rw [ar] at S9;refine⟨kvs,_,_,_,_,rfl,s9,S9.hd,by have:=S9.ln;omega,λkv hk=>let ⟨b,ys,e1,e2,e3,e4⟩:=S9.lst kv hk;⟨b,ys,e1,e2,e3,∅⟩⟩
 rintro σ H6 ⟨kvs,y2,y3,y4,y5,rfl,s6,S6⟩;exact⟨_,rfl,q d H6 vA s6⟩
end
end hJ
namespace L2
open PySem PySem.Spec PyProof.Rows
open PySem
def dQ {X:Cx}(K:bp)(hK:X.K=K:=by rfl):ng X (compareOp .In) (U5 K false):=by
 subst hK;exact jw
def vk {X:Cx}(hu:X.A.units < cLine):ng X (compareOp .NotEq) (λx y H Q=>∃a b xs,x=.ref a/\y=.ref b/\aI X.K H a xs/\aI X.K H b []/\Q (.bl (!xs.isEmpty)) H):=by
 intro ai s σ H x y v u Q I rx ry h;obtain⟨a,b,xs,rfl,rfl,ha,hb,q⟩:=h;cases rx;cases ry;obtain⟨aV,r,pl,hz⟩:=I.list ha;obtain⟨fq,r2,DW,hz2⟩:=I.list hb;have e2:fq=[]:=bH.zero r2;subst e2;have bO:=r.length;cases xs with
 | nil =>
  have e:aV=[]:=bH.zero r;subst e;exact SeqAt.RcNeAt.lists (e:=λ_=>true) pl.isList DW.isList rfl hu (λj h1 _=>absurd h1 144) X.prog X.w X.xe _ ⟨.bl false,H,I,rfl,q⟩
 | cons y ys =>
  refine SeqAt.RcNeAt.lists_lengths pl.isList DW.isList ?_ hu X.prog X.w X.xe _ ⟨.bl true,H,I,rfl,q⟩;rw [cJ,cJ,<-bO];simp
def Md (K:bp)(H:Hp):Nat->V->V->Prop
 | 0,x,y=>x=y/\yh x
 | n+1,x,y=>(x=y/\yh x)\/∃a b xs ys,x=.ref a/\y=.ref b/\((aI K H a xs/\aI K H b ys)\/(aZ K H a xs/\aZ K H b ys))/\Paired (Md K H n) xs ys
def Md.self {K:bp}{H:Hp}{x:V}(h:yh x):∀n,Md K H n x x
 | 0=>⟨rfl,h⟩
 | _+1=>.inl ⟨rfl,h⟩
def pJ {A:Around}{s:Shared}{F:V->V->Prop}{xs ys:List V}{aV fq:z0n}(r:bH xs aV)(r2:bH ys fq)(p:Paired F xs ys)(hF:∀x y u v,F x y->RelV x u->RelV y v->SeqAt.EqAt A s u v true) (j:Nat)(h1:j < aV.toArray.size)(h2:j < fq.toArray.size) :
  SeqAt.EqAt A s aV.toArray[j] fq.toArray[j] true:=by
 have l1:=r.length;have l2:=r2.length;have k1:j < aV.length:=by simpa using h1
 have k2:j < fq.length:=by simpa using h2
 have g2:ys[j]?=some (ys[j]'∅):=cZ ∅;obtain⟨x,g1,fx⟩:=Paired.at_ p j _ g2;obtain⟨u1,e1,q1⟩:=r.get g1;obtain⟨u2,e2,q2⟩:=r2.get g2;have f1:aV.toArray[j]=u1:=by
  have:=(bu.mp e1).2;simpa using this
 have f2:fq.toArray[j]=u2:=by
  have:=(bu.mp e2).2;simpa using this
 rw [f1,f2];exact hF _ _ _ _ fx q1 q2
theorem B_ {X:Cx}{ai:z0e}{σ:St}{H:Hp}{s:Shared}(I:141):∀(n:Nat)(A:Around)(x y:V)(u v:Value),Md X.K H n x y->RelV x u->RelV y v->A.units+n < cLine->SeqAt.EqAt A s u v true
 | 0,A,x,y,u,v,⟨e,h⟩,ru,rv,_=>by subst e;exact tO h ru rv
 | n+1,A,x,y,u,v,.inl ⟨e,h⟩,ru,rv,_=>by subst e;exact tO h ru rv
 | n+1,A,x,y,u,v,.inr ⟨a,b,xs,ys,ex,ey,hs,p⟩,ru,rv,hu=>by
  subst ex;subst ey;cases (show u=Value.ref a from ru);cases (show v=Value.ref b from rv);by_cases e:a=b
  .subst e;exact .same _
  refine .of_refs e ?_;have lp:=a7 p;rcases hs with ⟨ha,hb⟩ | ⟨ha,hb⟩
  .obtain⟨aV,r,pl,_⟩:=I.list ha;obtain⟨fq,r2,DW,_⟩:=I.list hb;have l1:=r.length;have l2:=r2.length;have q:=SeqAt.RcAt.lists (A:=A) (s:=s) (e:=λ_=>true) pl.isList DW.isList (by simp only [cJ];omega) ∅ (λj h1 h2=>pJ r r2 p (λx y u v d r1 r2=>B_ I n A.in1 x y u v d r1 r2 (by rw [rp];omega)) j h1 h2);have e:((List.range aV.toArray.size).all λ_=>true)=true:=92
   rw [e] at q;exact q
  obtain⟨aV,r,pl,_⟩:=I.tuple ha;obtain⟨fq,r2,DW,_⟩:=I.tuple hb;have l1:=r.length;have l2:=r2.length;have q:=SeqAt.RcAt.tuples (A:=A) (s:=s) (e:=λ_=>true) pl DW ∅ (λj h1 h2=>pJ r r2 p (λx y u v d r1 r2=>B_ I n A.in1 x y u v d r1 r2 (by rw [rp];omega)) j h1 h2);have e1:((List.range (min aV.toArray.size fq.toArray.size)).all (λ_=>true) && aV.toArray.size == fq.toArray.size)=true:=by
   have:aV.toArray.size=fq.toArray.size:=by simp only [cJ];omega
   rw [this];simp
  rw [e1] at q;exact q
def RD (K:bp)(b:Bool) (n:Nat):V->V->Hp->VK->Prop:=λx y H Q=>∃p q xs ys,x=.ref p/\y=.ref q/\aI K H p xs/\aI K H q ys/\Paired (Md K H n) xs ys/\Q (.bl b) H
def sS {X:Cx}(n:Nat)(hu:X.A.units+(n+1) < cLine):ng X (compareOp .NotEq) (RD X.K false n):=by
 intro ai s σ H x y v u Q I rx ry h;obtain⟨a,b,xs,ys,rfl,rfl,ha,hb,p,q⟩:=h;cases rx;cases ry;obtain⟨aV,r,pl,hz⟩:=I.list ha;obtain⟨fq,r2,DW,hz2⟩:=I.list hb;have l1:=r.length;have l2:=r2.length;have lp:=a7 p;refine SeqAt.RcNeAt.lists (e:=λ_=>true) pl.isList DW.isList (by simp only [cJ];omega) ∅ (λj h1 h2=>pJ r r2 p (λx y u v d r1 r2=>B_ I n X.A.in1 x y u v d r1 r2 (by rw [rp];omega)) j h1 h2) X.prog X.w X.xe _ ?_;have e:(!(List.range aV.toArray.size).all λ_=>true)=false:=92
 rw [e];exact⟨.bl false,H,I,rfl,q⟩
section
variable {prog:Program}{w:World}{A:Around}{E:z0b}{s:Shared}
end
end L2
namespace HT
open PySem PyProof.Rows
section
variable {prog:Program}{w:World}{A:Around}{E:z0b}{s:Shared}
end
end HT
namespace L2
open PySem PySem.Spec PyProof.Rows
theorem Paired.NY {α β:Type}{F:α->β->Prop}:∀{a:List α}{c:List β},Paired F a c->Paired F a.reverse c.reverse
 | _,_,.nil=>.nil
 | _,_,.cons h t=>by rw [wk,wk];exact fc (Paired.NY t) h
open PySem
section
variable {prog:Program}{w:World}{A:Around}{E:z0b}{s:Shared}
end
end L2
namespace HT
open PySem PySem.Spec PyProof.Rows
section
variable {prog:Program}{w:World}{A:Around}{E:z0b}{s:Shared}
def oj {t sl:Addr}{items:z0l}{vl vu:Value}{lo hi:z0p}{Q:z0b}(ht:IsTup s.heap t items)(hs:s.heap.IsSliceOf sl vl vu .none)(pl:IsPart vl lo)(pu:IsPart vu hi)
  (hw:fR items.size 0 lo=0/\fR items.size items.size hi=items.size)(h:Q (.ref t) s):wpAny 158 A (getItem (.ref t) (.ref sl)) Q E s:=by
 obtain⟨os,OM,Vy,Lq⟩:=id hs;have Y3:s.TypeIs (.ref sl) "slice" := ⟨os,OM,Vy⟩;unfold getItem
 try with_reducible refine j5 ?_
 first | refine aB (aH ?_) | skip
 refine aB (wpAny_sequenceKey ht.typeIs nofun ?_);refine aB (pV (name:=Str.ofString "__getitem__") ht.typeIs uV
  (ke uV ht.typeIs entry_tuple_getitem ?_ (args_tuple_getitem _ _)))
 show wpAny _ _ (Builtin.Tuple.tupleItemsOf (.ref t) >>= _) _ _ s;refine aB (tupleItemsOf_ ht ?_);refine aB (jb Y3 ?_);rw [aw nofun];refine aB (ju hs pl pu ?_);have Ye:(((fR items.size 0 lo:Nat):Int) == 0 && (1:Int) == 1 && (fR items.size items.size hi - fR items.size 0 lo) == items.size)=true:=by
  rw [hw.1,hw.2];simp
 show wpAny _ _ (if (((fR items.size 0 lo:Nat):Int) == 0 && (1:Int) == 1 && (fR items.size items.size hi - fR items.size 0 lo) == items.size)=true then _ else _) _ _ s;rw [aw Ye];refine aB ?_;unfold Builtin.Tuple.tupleIsExact;refine aB (jb ht.typeIs (aH ?_));rw [aw nofun];refine aB (kq ?_);exact aH ⟨_,rfl,aH h⟩
end
end HT
namespace L2
open PySem PySem.Spec PyProof.Rows
def Mt (K:bp):V->z0p->z0p->Hp->VK->Prop:=λx lo hi H Q=>XSq x (aZ K H) λxs=>∀p H',aD H H'->aZ K H' p (g_ xs lo hi)->Q (.ref p) H'
def i7 {X:Cx}:Uu X (Mt X.K):=by
 intro ai s σ H x v vl vu lo hi sl Q I rx hs pl pu h;obtain⟨a,xs,rfl,hx,q⟩:=h;by_cases hw:HT.fR xs.length 0 lo=0/\HT.fR xs.length xs.length hi=xs.length
 .have ec:g_ xs lo hi=xs:=by
   unfold g_;rw [hw.1,hw.2,ro,Nat.sub_zero,b0]
  cases rx;obtain⟨aV,r,ht,hz⟩:=I.tuple hx;have bO:aV.toArray.size=xs.length:=by rw [cJ];exact r.length.symm
  refine⟨"tuple",_,uV.lookup,ht.typeIs,?_⟩;exact HT.oj ht hs pl pu (by rw [bO];exact hw) ⟨.ref a,H,I,rfl,q a H (λ_ _ h=>h) (by rw [ec];exact hx)⟩
 exact AM ai s σ H _ v vl vu lo hi sl Q I rx hs pl pu ⟨a,xs,rfl,hx,hw,λp hp=>q p _ (af hp _) (aZ.of ae)⟩
def RF (K:bp):R2:=λx y H Q=>XC2 (aZ K H) x y λxs ys=>∀p H',aD H H'->aZ K H' p (xs++ys)->Q (.ref p) H'
def qK {X:Cx}:ng X (binaryOp .Add) (RF X.K):=by
 intro ai s σ H x y v u Q I rx ry h;obtain⟨a,b,xs,ys,rfl,rfl,ha,hb,hz,q⟩:=h;by_cases hx:xs=[]
 .cases rx;cases ry;obtain⟨aV,r1,p1,_⟩:=I.tuple ha;obtain⟨fq,r2,p2,_⟩:=I.tuple hb;have e1:aV=[]:=r1.qL.mpr hx;obtain⟨⟨cls,dd,data,sl⟩,ho,hc,n,hd⟩:=id p1;obtain⟨⟨Z7,QH,data2,UW⟩,ED,Tn,n2,hd2⟩:=id p2;simp only at hc hd Tn hd2;subst hc hd Tn hd2;exact concat_meets ⟨_,ho,rfl⟩ ⟨_,ED,rfl⟩ noFill_tuple_add seq_tuple_add Ar Au (Ax _ _)
   (tuple_addW0 a b aV.toArray fq.toArray n n2 dd QH sl UW (by simp [e1])) ⟨ho,ED,.ref b,H,I,rfl,q b H (λ_ _ h=>h) (by rw [hx];exact hb)⟩
 refine KG ai s σ H _ _ v u Q I rx ry ⟨a,b,xs,ys,rfl,rfl,ha,hb,hx,hz,λe=>q a H (λ_ _ h=>h) (by rw [e,dN];exact ha),λ_ p hp=>q p _ (af hp _) (aZ.of ae)⟩
def xy (x:Str):Nat->Str
 | 0=>Str.empty
 | 1=>x
 | _=>x++x
def KD {X:Cx}:ng X (binaryOp .Mult) (λa b H Q=>∃x n,a=.str x/\b=.int ((n:Nat):Int)/\n<=2/\x.length=1/\Q (.str (xy x n)) H):=by
 intro ai s σ H a b v u Q I ra rb h;obtain⟨x,n,rfl,rfl,hn,hx,q⟩:=h;obtain⟨t,rfl⟩:=ra;obtain⟨t2,rfl⟩:=rb
 match n,hn,q with
 | 0,_,q=>exact PySem.P.mul_str_none nofun nofun ⟨.str Str.empty,H,I.tok _,157,q⟩
 | 1,_,q =>
  refine PySem.P.mul_str nofun (λ_ h=>by simp at h) (λ_ h=>by simp at h) ?_;rw [au nofun,aw (by rfl)];exact⟨.str x,H,I,157,q⟩
 | 2,_,q =>
  refine PySem.P.mul_str nofun (λ_ _=>by rw [hx];decide) (λ_ _=>by rw [hx];decide) ?_;rw [au nofun,au (by rw [hx];decide)];have le:(Str.mk (#[]++x.cps++x.cps)).length<=sizeLine:=by
   show (#[]++x.cps++x.cps).size<=sizeLine;rw [Array.empty_append,Array.size_append];have:x.cps.size=1:=hx;rw [this];decide
  refine⟨le,⟨.str (x++x),H,I.tok _,⟨s.toks,?_⟩,q⟩⟩;show Value.str ⟨#[]++x.cps++x.cps⟩ _=Value.str ⟨x.cps++x.cps⟩ _;rw [Array.empty_append]
section
variable {prog:Program}{w:World}{A:Around}{E:z0b}{s:Shared}
end
open PySem PySem.W PyProof.Rows
section
variable {n:Nat}{lt:Nat->Nat->Bool}{cmp:Nat->Nat->(Bool->182)->182}{s:Shared}
structure pR (n:Nat)(lt:Nat->Nat->Bool):Prop where
 trans:∀a b c,a < n->b < n->c < n->lt b a=false->lt c b=false->lt c a=false
 yb:∀a b,a < n->b < n->lt a b=true->lt b a=false
def oz (n:Nat)(lt:Nat->Nat->Bool)(cmp:Nat->Nat->(Bool->182)->182)(s:Shared):Prop:=∀i j C,i < n->j < n->C (lt i j) s->cmp i j C s
structure qm (n:Nat)(p:z0s):Prop where
 pm:p.Perm (List.range n).toArray
theorem qm.size {p:z0s}(h:qm n p):p.size=n:=by
 have:=h.pm.size_eq;simpa using this
def qm.gi {p:z0s}(h:qm n p){i:Nat}(hi:i < n):p.getD i 0 < n:=by
 have hs:=h.size;have e:p.getD i 0=p[i]'∅:=by simp [Array.getD,hs,hi]
 rw [e];have:p[i]'∅∈(List.range n).toArray:=h.pm.mem_iff.mp (Array.getElem_mem _);simpa using this
abbrev at_ (p:z0s) (i:Nat):Nat:=p.getD i 0
def qD (lt:Nat->Nat->Bool)(p:z0s) (k:Nat):Prop:=∀i j,i<=j->j < k->lt (at_ p j) (at_ p i)=false
def yi (lt:Nat->Nat->Bool)(p:z0s) (k:Nat):Prop:=∀i j,i<=j->j < k->lt (at_ p i) (at_ p j)=false
def pR.zr (o:pR n lt){a:Nat}(h:a < n):lt a a=false:=by
 cases e:lt a a with
 | false=>rfl
 | true=>rw [<-o.yb a a h h e,e]
def g8 {α:Type}{a:α}{Q:α->182}(h:Q a s):KasT.kasWp cmp (.ret a) Q s:=h
def kY {α:Type}{i j:Nat}{k:Bool->KasT α}{Q:α->182}(A:oz n lt cmp s)(hi:i < n)(hj:j < n)(h:KasT.kasWp cmp (k (lt i j)) Q s):KasT.kasWp cmp (.ask i j k) Q s:=A i j _ hi hj h
def jB {α β:Type}{t:KasT α}{f:α->KasT β}{Q:β->182}:∀{s:Shared},KasT.kasWp cmp t (λa s'=>KasT.kasWp cmp (f a) Q s') s->KasT.kasWp cmp (t.bind f) Q s:=by
 have key:∀t:KasT α,KasT.kasWp cmp (t.bind f) Q=KasT.kasWp cmp t (λa s'=>KasT.kasWp cmp (f a) Q s'):=by
  intro t
  induction t with
  | ret a=>rfl
  | ask i j k ih =>
   funext s
   show cmp i j (λc s'=>KasT.kasWp cmp ((k c).bind f) Q s') s=cmp i j (λc s'=>KasT.kasWp cmp (k c) _ s') s
   congr 1
   funext c s'
   rw [ih c]
 intro s h;rw [key];exact h
def uc (p:z0s) (i:Nat):at_ p i=(p[i]?).getD 0:=Array.getD_eq_getD_getElem?
def gM {p:z0s}{i j k:Nat}(hj:j<=p.size):at_ (kas_rev p i j) k=if i<=k/\k < j then at_ p (i+j - 1 - k) else at_ p k:=by
 have h:=getElem?_mirror_all (xs:=p) (i:=i) hj k;have e:at_ (kas_rev p i j) k=((mirror p i j ((j - i) / 2))[k]?).getD 0:=uc _ _;rw [e,h,uc,uc]
 split <;> rfl
def vZ {p:z0s}{src d k:Nat}(hs:src < p.size)(hd:d<=src):at_ (bubble p src d) k=if k=src - d then at_ p src else if src - d < k/\k<=src then at_ p (k - 1) else at_ p k:=by
 have h:=getElem?_bubble (xs:=p) hs d hd k;rw [uc,h,uc,uc,uc];by_cases c:k=src - d
 .rw [aw c,aw c]
 rw [au c,au c];by_cases c2:src - d < k/\k<=src
 .rw [aw c2,aw c2]
 rw [au c2,au c2]
def qm.rev {p:z0s}(h:qm n p) (i j:Nat):qm n (kas_rev p i j):=⟨(mirror_perm p i j _).trans h.pm⟩
def qm.bub {p:z0s}(h:qm n p) (i j:Nat):qm n (bubble p i j):=⟨(bubble_perm p i j).trans h.pm⟩
def qD.more {p:z0s}{m:Nat}(o:pR n lt)(P:qm n p)(h:qD lt p m)(hm:1<=m)(hn:m < n)(c:lt (at_ p m) (at_ p (m - 1))=false):qD lt p (m+1):=by
 intro i j zx hj;by_cases e:j=m
 .subst e;by_cases e2:i=j
  .subst e2;exact o.zr (P.gi hn)
  exact o.trans _ (at_ p (j - 1)) _ (P.gi ∅) (P.gi ∅) (P.gi hn) (h i (j - 1) ∅ ∅) c
 exact h i j zx ∅
def yi.more {p:z0s}{m:Nat}(o:pR n lt)(P:qm n p)(h:yi lt p m)(hm:1<=m)(hn:m < n)(c:lt (at_ p (m - 1)) (at_ p m)=false):yi lt p (m+1):=by
 intro i j zx hj;by_cases e:j=m
 .subst e;by_cases e2:i=j
  .subst e2;exact o.zr (P.gi hn)
  exact o.trans _ (at_ p (j - 1)) _ (P.gi hn) (P.gi ∅) (P.gi ∅) c (h i (j - 1) ∅ ∅)
 exact h i j zx ∅
theorem Ce (o:pR n lt)(A:oz n lt cmp s){p:z0s}(P:qm n p){Q:Nat->182}:∀(f m:Nat),1<=m->m+f<=n->qD lt p m->(∀m',m<=m'->m'<=m+f->qD lt p m'->(m'=m+f\/lt (at_ p m') (at_ p (m' - 1))=true)->Q m' s)->KasT.kasWp cmp (kas_asc p f m) Q s
 | 0,m,h1,h2,hs,q=>g8 (q m (aG _) (aG _) hs (.inl rfl))
 | f+1,m,h1,h2,hs,q=>by
  rw [kas_asc.eq_2];refine kY A (P.gi ∅) (P.gi ∅) ?_;cases c:lt (at_ p m) (at_ p (m - 1)) with
  | true =>
   show KasT.kasWp cmp (if true=true then _ else _) Q s;rw [aw rfl];exact g8 (q m (aG _) ∅ hs (.inr c))
  | false =>
   show KasT.kasWp cmp (if false=true then _ else _) Q s;rw [au cX];exact Ce o A P f (m+1) ∅ ∅ (hs.more o P h1 ∅ c) λm' a b d e=>q m' ∅ ∅ d (by rcases e with e | e;exact .inl ∅;exact .inr e)
def Wb (lt:Nat->Nat->Bool)(p:z0s) (m q:Nat):Prop:=∀k,m - (q+1)<=k->k < m->lt (at_ p k) (at_ p (m - 1))=false/\lt (at_ p (m - 1)) (at_ p k)=false
def CU {p:z0s}{m q:Nat}(o:pR n lt)(P:qm n p)(hm:m<=n)(h:yi lt p m)(e:Wb lt p m q):yi lt (kas_rev p (m - (q+1)) m) m:=by
 intro i j zx hj;have hs:=P.size;rw [gM ∅,gM ∅];by_cases cj:m - (q+1)<=j/\j < m
 .rw [aw cj];by_cases ci:m - (q+1)<=i/\i < m
  .rw [aw ci];have e1:=e (m - (q+1)+m - 1 - i) ∅ ∅;have e2:=e (m - (q+1)+m - 1 - j) ∅ ∅;exact o.trans _ (at_ p (m - 1)) _ (P.gi ∅) (P.gi ∅) (P.gi ∅) e2.2 e1.1
  rw [au ci];exact h i _ ∅ ∅
 rw [au cj,au ∅];exact h i j zx hj
theorem qT (o:pR n lt)(A:oz n lt cmp s){Q:Array Nat×Nat×Nat->182}:∀(f:Nat)(p:z0s) (m q:Nat),qm n p->1<=m->m+f<=n->yi lt p m->Wb lt p m q->q+1<=m->(∀p' m' q',qm n p'->m<=m'->m'<=m+f->yi lt p' m'->Wb lt p' m' q'->q'+1<=m'->Q (p',m',q') s)->KasT.kasWp cmp (kas_desc f p m q) Q s
 | 0,p,m,q,P,h1,h2,hn,he,hq,k=>by
  rw [kas_desc.eq_1];exact g8 (k p m q P (aG _) (aG _) hn he hq)
 | f+1,p,m,q,P,h1,h2,hn,he,hq,k=>by
  rw [kas_desc.eq_2];have hs:=P.size;refine kY A (P.gi ∅) (P.gi ∅) ?_;cases c:lt (at_ p m) (at_ p (m - 1)) with
  | true =>
   show KasT.kasWp cmp (if true=true then _ else _) Q s;rw [aw rfl];have c2:=o.yb _ _ (P.gi ∅) (P.gi ∅) c;have one:∀p',Wb lt p' (m+1) 0->True:=λ_ _=>trivial;by_cases hq0:q > 0
   .rw [aw hq0];have P':=P.rev (m - (q+1)) m;have e1:at_ (kas_rev p (m - (q+1)) m) m=at_ p m:=by rw [gM ∅,au ∅]
    have e2:at_ (kas_rev p (m - (q+1)) m) (m - 1)=at_ p (m - (q+1)):=by
     rw [gM ∅,aw ∅]
     congr 1
     omega
    refine qT o A f _ (m+1) 0 P' ∅ ∅ ((CU o P ∅ hn he).more o P' h1 ∅ ?_) ?_ ∅ λp' m' q' a b d g i j=>k p' m' q' a ∅ ∅ g i j
    .rw [e1,e2];exact o.trans _ (at_ p (m - 1)) _ (P.gi ∅) (P.gi ∅) (P.gi ∅) c2 (he (m - (q+1)) (aG _) ∅).1
    intro x h3 h4;have:x=m:=by omega
    subst this;exact⟨o.zr (P'.gi ∅),o.zr (P'.gi ∅)⟩
   rw [au hq0];refine qT o A f p (m+1) 0 P ∅ ∅ (hn.more o P h1 ∅ c2) ?_ ∅ λp' m' q' a b d g i j=>k p' m' q' a ∅ ∅ g i j;intro x h3 h4;have:x=m:=by omega
   subst this;exact⟨o.zr (P.gi ∅),o.zr (P.gi ∅)⟩
  | false =>
   show KasT.kasWp cmp (if false=true then _ else _) Q s;rw [au cX];refine kY A (P.gi ∅) (P.gi ∅) ?_;cases c2:lt (at_ p (m - 1)) (at_ p m) with
   | true =>
    show KasT.kasWp cmp (if true=true then _ else _) Q s;rw [aw rfl];exact g8 (k p m q P (aG _) ∅ hn he hq)
   | false =>
    show KasT.kasWp cmp (if false=true then _ else _) Q s;rw [au cX];refine qT o A f p (m+1) (q+1) P ∅ ∅ (hn.more o P h1 ∅ c2) ?_ ∅ λp' m' q' a b d g i j=>k p' m' q' a ∅ ∅ g i j;intro x h3 h4;have em:m+1 - 1=m:=by omega
    rw [em];by_cases ex:x=m
    .subst ex;exact⟨o.zr (P.gi ∅),o.zr (P.gi ∅)⟩
    have e1:=he x ∅ ∅;exact⟨o.trans _ (at_ p (m - 1)) _ (P.gi ∅) (P.gi ∅) (P.gi ∅) c2 e1.1,o.trans _ (at_ p (m - 1)) _ (P.gi ∅) (P.gi ∅) (P.gi ∅) e1.2 c⟩
def yA (o:pR n lt)(A:oz n lt cmp s){p:z0s}{m o_:Nat}{Q:Nat×z0s->182}(P:qm n p)(h1:1<=m)(h2:m<=o_)(h3:o_<=n)(hn:yi lt p m)(q:∀m' p',qm n p'->1<=m'->m'<=o_->qD lt p' m'->Q (m',p') s):KasT.kasWp cmp (kas_tail3 m o_ p) Q s:=by
 have hs:=P.size;have P':=P.rev 0 m;unfold kas_tail3;refine jB (Ce o A P' (o_ - m) m h1 ∅ ?_ λm' a b c d=>g8 (q m' _ P' ∅ ∅ c));intro i j zx hj;rw [gM ∅,gM ∅,aw ∅,aw ∅];exact hn _ _ ∅ ∅
def qf (o:pR n lt)(A:oz n lt cmp s){p:z0s}{m o_:Nat}{Q:Nat×z0s->182}(P:qm n p)(h2:m+1<=o_)(h3:o_<=n)(hn:yi lt p (m+1))(q:∀m' p',qm n p'->1<=m'->m'<=o_->qD lt p' m'->Q (m',p') s):KasT.kasWp cmp (kas_descPart m o_ p) Q s:=by
 unfold kas_descPart;refine jB (qT o A (o_ - (m+1)) p (m+1) 0 P ∅ ∅ hn ?_ ∅ λp' m' q' P' a b Dc Df Qm=>?_)
 .intro x h4 h5;have:x=m:=by omega
  subst this;exact⟨o.zr (P.gi ∅),o.zr (P.gi ∅)⟩
 show KasT.kasWp cmp (if q' > 0 then kas_tail3 m' o_ (kas_rev p' (m' - (q'+1)) m') else kas_tail3 m' o_ p') Q s
 split
 .exact yA o A (P'.rev _ _) ∅ ∅ h3 (CU o P' ∅ Dc Df) q
 exact yA o A P' ∅ ∅ h3 Dc q
def Jd (o:pR n lt)(A:oz n lt cmp s){p:z0s}{Q:Nat×z0s->182}(P:qm n p)(h1:1<=n)(q:∀m' p',qm n p'->1<=m'->m'<=n->qD lt p' m'->Q (m',p') s):KasT.kasWp cmp (kas_count n p) Q s:=by
 have hs:=P.size;unfold kas_count;refine jB (Ce o A P (n - 1) 1 (aG _) ∅ (λi j a b=>?_) λm a b hm hd=>?_)
 .have e1:i=0:=by omega
  have e2:j=0:=by omega
  subst e1;subst e2;exact o.zr (P.gi ∅)
 show KasT.kasWp cmp (if (m == n)=true then _ else _) Q s;by_cases e:m=n
 .rw [aw (by simp [e])];exact g8 (q m p P a ∅ hm)
 rw [au (by simp [e])];have jj:lt (at_ p m) (at_ p (m - 1))=true:=by
  rcases hd with hd | hd
  .omega
  exact hd
 have Fx:=o.yb _ _ (P.gi ∅) (P.gi ∅) jj
 split
 .rename_i h2
  refine kY A (P.gi ∅) (P.gi ∅) ?_;cases c:lt (at_ p 0) (at_ p (m - 1)) with
  | true =>
   show KasT.kasWp cmp (if true=true then _ else _) Q s;rw [aw rfl];exact g8 (q m p P a ∅ hm)
  | false =>
   show KasT.kasWp cmp (if false=true then _ else _) Q s;rw [au cX];refine qf o A (P.rev 0 m) ∅ (aG _) ?_ q;have al:∀i j,i < m->j < m->lt (at_ p i) (at_ p j)=false:=λi j hi hj=>by
    have e1:lt (at_ p i) (at_ p (m - 1))=false:=by
     have:lt (at_ p i) (at_ p (m - 1))=false:=by
      by_cases e0:i=0
      .rw [e0];exact c
      cases e2:lt (at_ p i) (at_ p (m - 1)) with
      | false=>rfl
      | true =>
       have h5:lt (at_ p i) (at_ p 0)=false:=hm 0 i ∅ hi;exact absurd (o.trans _ (at_ p 0) _ (P.gi ∅) (P.gi ∅) (P.gi ∅) c h5) (by rw [e2];decide)
     exact this
    exact o.trans _ (at_ p (m - 1)) _ (P.gi ∅) (P.gi ∅) (P.gi ∅) (hm j (m - 1) ∅ ∅) e1
   intro i j zx hj;rw [gM ∅,gM ∅];by_cases cj:j=m
   .subst cj;by_cases ci:i=j
    .subst ci;rw [au ∅];exact o.zr (P.gi ∅)
    rw [aw (show 0<=i/\i < j by omega),au (show ¬(0<=j/\j < j) by omega)];exact o.trans _ (at_ p (j - 1)) _ (P.gi ∅) (P.gi ∅) (P.gi ∅) Fx (al _ _ ∅ ∅)
   rw [aw ∅,aw ∅];exact al _ _ ∅ ∅
 rename_i h2
 have e1:m=1:=by omega
 subst e1;refine qf o A P ∅ (aG _) ?_ q;intro i j zx hj;by_cases ej:j=0
 .have:i=0:=by omega
  subst this;subst ej;exact o.zr (P.gi ∅)
 have:j=1:=by omega
 subst this;by_cases ei:i=1
 .subst ei;exact o.zr (P.gi ∅)
 have:i=0:=by omega
 subst this;exact Fx
theorem sO (o:pR n lt)(A:oz n lt cmp s){p:z0s}{k:Nat}{Q:Nat->182}(P:qm n p)(hk:k < n)(hs:qD lt p k):∀(f l r:Nat),l<=r->r<=k->r - l<=f->(∀i,i < l->lt (at_ p k) (at_ p i)=false)->(∀i,r<=i->i < k->lt (at_ p k) (at_ p i)=true) ->
  (∀l',l'<=k->(∀i,i < l'->lt (at_ p k) (at_ p i)=false)->(∀i,l'<=i->i < k->lt (at_ p k) (at_ p i)=true)->Q l' s)->KasT.kasWp cmp (kas_place p k f l r) Q s
 | 0,l,r,h1,h2,h3,ha,hb,q=>by
  rw [kas_place.eq_def];have:l=r:=by omega
  subst this;exact g8 (q l h2 ha hb)
 | f+1,l,r,h1,h2,h3,ha,hb,q=>by
  rw [kas_place.eq_def];show KasT.kasWp cmp (if l≥r then _ else _) Q s
  split
  .have:l=r:=by omega
   subst this;exact g8 (q l h2 ha hb)
  refine kY A (P.gi hk) (P.gi ∅) ?_;cases c:lt (at_ p k) (at_ p ((l+r) / 2)) with
  | true =>
   show KasT.kasWp cmp (if true=true then _ else _) Q s;rw [aw rfl];refine sO o A P hk hs f l ((l+r) / 2) ∅ ∅ ∅ ha (λi hi hik=>?_) q;cases e:lt (at_ p k) (at_ p i) with
   | true=>rfl
   | false=>exact absurd (o.trans _ (at_ p i) _ (P.gi ∅) (P.gi ∅) (P.gi hk) (hs _ i hi hik) e) (by rw [c];decide)
  | false =>
   show KasT.kasWp cmp (if false=true then _ else _) Q s;rw [au cX];refine sO o A P hk hs f ((l+r) / 2+1) r ∅ ∅ ∅ (λi hi=>?_) hb q;exact o.trans _ (at_ p ((l+r) / 2)) _ (P.gi ∅) (P.gi ∅) (P.gi hk) (hs i _ ∅ ∅) c
theorem Jf (o:pR n lt)(A:oz n lt cmp s){Q:z0s->182}:∀(f:Nat)(p:z0s) (k:Nat),qm n p->k+f=n->qD lt p k->(∀p',qm n p'->qD lt p' n->Q p' s)->KasT.kasWp cmp (kas_bin f p k) Q s
 | 0,p,k,P,h,hs,q=>by
  rw [kas_bin.eq_1];have:k=n:=by omega
  subst this;exact g8 (q p P hs)
 | f+1,p,k,P,h,hs,q=>by
  rw [kas_bin.eq_2];have hz:=P.size;refine jB (sO o A P ∅ hs k 0 k ∅ (aG _) ∅ (λi hi=>by omega) (λi a b=>by omega) λl hl ha hb=>?_);refine Jf o A f _ (k+1) (P.bub _ _) ∅ ?_ q;intro i j zx hj;have el:k - (k - l)=l:=by omega
  rw [vZ ∅ ∅,vZ ∅ ∅,el];have hk:k < n:=by omega
  by_cases j1:j=l
  .rw [aw j1];by_cases i1:i=l
   .rw [aw i1];exact o.zr (P.gi hk)
   rw [au i1,au ∅];exact ha i ∅
  rw [au j1];by_cases j2:l < j/\j<=k
  .rw [aw j2];by_cases i1:i=l
   .rw [aw i1];exact o.yb _ _ (P.gi hk) (P.gi ∅) (hb (j - 1) ∅ ∅)
   rw [au i1];by_cases i2:l < i/\i<=k
   .rw [aw i2];exact hs _ _ ∅ ∅
   rw [au i2];exact hs _ _ ∅ ∅
  rw [au j2,au ∅,au ∅];exact hs _ _ zx ∅
def Kb (o:pR n lt)(A:oz n lt cmp s){Q:z0s->182}(h1:1<=n)(q:∀p',qm n p'->qD lt p' n->Q p' s):KasT.kasWp cmp (kas_sort n) Q s:=by
 unfold kas_sort;refine jB (Jd o A ⟨Array.Perm.refl _⟩ h1 λm p P a b hs=>?_);show KasT.kasWp cmp (if m < n then _ else _) Q s
 split
 .have e:max m 1=m:=by omega
  rw [e];exact Jf o A (n - m) p m P ∅ hs q
 have:m=n:=by omega
 subst this;exact g8 (q p P hs)
end
def Inv.MI {X:Cx}{ai:z0e}{σ:St}{H:Hp}{s:Shared}{h':Heap}{a:Addr}{o:HO}{t':Nat}(I:141)(k:∀b u,b≠X.env.locals->s.heap.get? b=some u->h'.get? b=some u)
  (ns:∀m,s.heap.Ns X.env.locals m->h'.Ns X.env.locals m)(hp:s.heap.get? a=none)(hn:H a=none)(new:cQ X.prog X.w (upd H a o) h' a o):Inv X ai σ (upd H a o) { s with heap:=h',toks:=t' }:=by
 have ne:∀b u,s.heap.get? b=some u->b≠a:=λb u q z=>by rw [z,hp] at q;cases q
 refine I.step (g':=s.gens) (d':=s.drawn) (ch:=[]) (λ_ z=>nomatch z) (λb u hb _ _ e _=>k b u hb e) (λb u hb _ _ e _=>⟨u.slots,k b u hb e⟩) (λb u _ e n=>by rw [aj (ne b u e)];exact n)
  (λb u _ e=>?_) (λb xs q=>by rw [aj (aC q hn)];exact q) (λb u xs q=>by rw [aj (aC q hn)];exact q) (λb ps q=>⟨#[],by rw [aj (aC q hn),q];simp⟩) ns (λb u e=>?_) I.bare
 .by_cases hb:b=X.env.locals
  .obtain⟨m,hm,_⟩:=I.loc;obtain⟨o',_,_,BN,_⟩:=ns m hm;exact⟨o',by rw [hb];exact BN⟩
  exact⟨u,k b u hb e⟩
 by_cases hb:b=a
 .subst hb;rw [ae] at e;cases e;exact new
 rw [aj hb] at e;refine(I.cw b u e).kO (λc v hc q=>k c v ?_ q) (λc q=>by rw [aj (aC q hn)];exact q) λc xs q=>by rw [aj (aC q hn)];exact q
 rintro rfl;rcases hc with rfl | hc
 .rw [I.free] at e;cases e
 rw [I.free] at hc;cases hc
def Ft (x y:Str):Bool:=decide (x.cps.toList < y.cps.toList)
def K3 {a b c:Str}(h:Ft a c=true):Ft a b=true\/Ft b c=true:=strKind.negTrans a.cps.toList b.cps.toList c.cps.toList h
def Ie {a b:Str}(h:Ft a b=true):Ft b a=false:=by
 cases e:Ft b a with
 | false=>rfl
 | true =>
  have h1:=strKind.trans a.cps.toList b.cps.toList a.cps.toList h e;have h2:=strKind.irrefl a.cps.toList;rw [h2] at h1;cases h1
def Es {a b:Str}(h:Ft a b=false)(k:Ft b a=false):a=b:=by
 have:=strKind.total a.cps.toList b.cps.toList h k;cases a with
 | mk x=>cases b with
  | mk y=>rw [show x=y from Array.toList_inj.mp this]
def yT {P:Program}{w:World}{H:Hp}{h:Heap}{a:Addr}{o:HO}(x:cQ P w H h a o):∃u,h.get? a=some u:=by
 cases o with
 | lst xs=>obtain⟨_,_,_,_,e⟩:=x;exact⟨_,e⟩
 | tup xs=>obtain⟨_,_,_,ob,e,_⟩:=x;exact⟨_,e⟩
 | dK kvs=>obtain⟨_,_,_,_,o,_,_,e,_⟩:=x;exact⟨_,e⟩
 | dT kvs=>obtain⟨_,_,_,_,o,_,_,e,_⟩:=x;exact⟨_,e⟩
 | set S n=>obtain⟨o,_,_,_,e,_⟩:=x;exact⟨_,e⟩
 | ins C dx fs=>obtain⟨_,_,_,e,_⟩:=x;exact⟨_,e⟩
 | own y=>obtain⟨_,e⟩:=x;exact⟨_,e⟩
 | xd fs=>obtain⟨_,⟨_,_,_,e,_⟩,_⟩:=x;exact⟨_,e⟩
 | Fs lo hi=>obtain⟨_,_,_,e⟩:=x;exact⟨_,e⟩
 | mf ob u=>obtain⟨e,_⟩:=x;exact⟨_,e⟩
 | uu ps=>exact⟨_,(show h.get? a=some _ from x)⟩
 | met f y=>exact⟨_,(show h.get? a=some _ from x)⟩
 | ext φ=>obtain⟨_,⟨_,e⟩,_⟩:=x;exact⟨_,e⟩
def IK (ts:z0q) (i:Nat)(h:i < ts.length):(ts.map Value.ref).getD i Value.none=Value.ref (ts.getD i 0):=by
 simp [List.getD,h]
theorem uX:∀(ts:z0q),bH (ts.map V.ref) (ts.map Value.ref)
 | []=>.nil
 | t::r=>.cons rfl (uX r)
open PySem PySem.Spec PyProof.Rows PySem.W
section
variable {P:Program}{w:World}{A:Around}{E:z0b}{s:Shared}
def Il {f c' c d:Addr}{q:Str}{params:Arguments}{scope:Scope}{cl:z0f}{pm gO:Value}{p1 p2 p3:Pos}{xs xh:Str}{vs:List (aQ×Value)}{z:Str}{t:Tok}{u:Value}{oc:Obj}{Q:z0b}
  (SG:A.depth < recursionLimit)(nl:s.heap.NoLimit)(hf:s.heap.get? f=some (kla_obj "<lambda>" q params (.Subscript (.Name xs p1) (.Name xh p2) p3) scope cl pm c' gO))(hc:s.heap.CodeRec (.ref c') q)
  (hb:∀us:z0n,us.length=1->bindArgs (kla_fn "<lambda>" q params (.Subscript (.Name xs p1) (.Name xh p2) p3) scope cl pm (.ref c') gO) ⟨us,[]⟩=pure ([xh].zip us))
  (hk:scope.kind=.function)(YV:scope.isCoroutine=false)(OR:scope.isGenerator=false)(YD:∀x∈scope.names,x.2≠.cell)(hh:scope.names.lookup xh=some .local)(hs:scope.names.lookup xs=some .free)
  (og:cl.lookup xs=some c)(ho:s.heap.get? c=some oc)(Ai:oc.data=.cell (some (.ref d)))(dd:s.heap.DictOf (aY P w) d vs)(hv:valueAt vs 150=some u)
  (d1:(xs == ("__debug__":Str))=false)(d2:(xh == ("__debug__":Str))=false)(d3:(xs == ("__classdict__":Str))=false)
  (h:∀h' tk,(∀b o,185->h'.get? b=some o)->Q u { s with heap:=h',toks:=tk }):wpAny (model P w) A (call (.ref f) [.str z t]) Q E s:=by
 refine kn (kla_callFunE SG hf rfl YV OR rfl hc ?_);rw [hb [.str z t] rfl];refine aH (wpAny_newFunctionEnv YD (λx hx=>?_) (λh₁ uv hsb=>⟨nl.fresh _ hsb,?_⟩) hk)
 .have:x=(xh,Value.str z t):=by simpa using hx
  rw [this];exact hh
 show codeAny _ _ (.expr (.Subscript (.Name xs p1) (.Name xh p2) p3) (envX q scope s.heap.objs.size f (.ref c') cl)) _ _;have k1:∀b o,185->h₁.get? b=some o:=λb o e=>hsb.extBut b o (bV (bD e)) (cg _ e);refine kla_codeExpr (Cw PySem.F.slot_dict_getitem.lookup 142 ?_);refine wpAny_Name (wpAny_loadName_free hk hs og ⟨oc,k1 _ _ ho,Ai⟩ ?_ d3) d1;refine wpAny_Name (wz hk hh uv (show ([(xh,Value.str z t)]:z0d).reverse.lookup xh=some (.str z t) by simp [List.lookup]) ?_) d2;have dd1:h₁.DictOf (aY P w) d vs:=by
  obtain⟨o,es,ep,g,r⟩:=dd;exact⟨o,es,ep,k1 _ _ g,r⟩
 refine⟨dd1.typeIs,wpAny_getItem_of (md (k:=140) ⟨t,rfl⟩) dd1.mapOf hv ?_⟩;exact h h₁ _ k1
end
section
variable {X:Cx}{params:Arguments}{body:Expr}{scope:Scope}{pos:Pos}{c T:Addr}
abbrev i_ (X:Cx)(params:Arguments)(body:Expr)(scope:Scope)(cl:z0f)(c':Addr)(gO:Value):Obj:=kla_obj "<lambda>" (X.env.qual ++ "<lambda>") params body scope cl ((X.mg "__name__").getD .none) c' gO
def Q8 (X:Cx)(params:Arguments)(body:Expr)(scope:Scope)(pos:Pos)(T:Addr):TE:=λσ H Q=>Tab T pos (X.env.qual ++ "<lambda>") H /\
 ∀f c' gO cl H',Me X.env scope cl->gE T H H'->Tab T pos (X.env.qual ++ "<lambda>") H'->H f=none->H' f=some (pj f (i_ X params body scope cl c' gO))->H' c'=some (j_ c' (X.env.qual ++ "<lambda>"))->Q (.ref f) H'
def Ku (tD:X.env.code=.ref c)(hC:codeHdIn X.K c T=true)(hB:um X.mg X.base)(n_:∀y,(y,NameKind.free)∈scope.names->X.env.scope.names.lookup y=some .cell)(ID:defaultsOf params X.env=([],[]):=by rfl):PE X (.Lambda params body scope pos) (Q8 X params body scope pos T):=by
 intro ai s σ H Q I h;obtain⟨⟨ps,hT,ht,IE⟩,q⟩:=h;refine kla_eval ID ?_;obtain⟨cl,og⟩:=xZ (env:=X.env) (scope:=scope) λy hy=>I.ok.has y (.inl (n_ y hy));have OX:s.heap.get? T=some (tabObj ps):=(show cQ X.prog X.w H s.heap T (.uu ps) from I.cw T _ hT);have hg:=I.mod.glob.keeps I.bk;have C:=codeHd_of_K I.zo hC;obtain⟨bm,ob,b1,b2,b3,b4,b5,b6,b7⟩:=hB;have b4':=I.bk _ _ b4;have XC:bm≠T:=λz=>by
  have:=(I.bs _ _ b4).2;rw [z,hT] at this;cases this
 have Xx:mainGlobals≠T:=λz=>by
  obtain⟨o,es,ep,e,d,_⟩:=hg;rw [z,OX] at e;cases e;cases d
 have Tu:s.heap.BuiltinsAt X.mg T:=⟨bm,ob,b1,b2,b3,XC,b4',b5,b6,b7⟩;have Jz:∀b v,H b=some v->b < s.heap.objs.size:=λb v e=>I.cw.lt e;rcases IE with SV | ⟨c',hf,mS⟩
 .refine kla_makeFunction og.eq I.ok.glob hg tD C OX ht SV Xx Tu λc' gO h' tk hx Fx jj Ir Sx=>?_;have hcr:∃oc,h'.get? c'=some oc:=by
   obtain⟨c2,oc,vs,t,e,Ai,_⟩:=Ir;cases e;exact⟨oc,Ai⟩
  have tu:h'.objs.size > s.heap.objs.size:=rE Fx jj;have keep:∀b o,b≠T->185->(h'.push (i_ X params body scope cl c' gO)).get? b=some o:=λb o n e=>cg _ (hx b o n e)
  let H':Hp:=upd (upd (upd H T (.uu (ps++#[rawInt pos.line,rawInt pos.col,.ref c']))) c' (j_ c' (X.env.qual ++ "<lambda>"))) h'.objs.size (pj h'.objs.size (i_ X params body scope cl c' gO))
  have Bv:∀b v,H b=some v->b≠c'/\b≠h'.objs.size:=λb v e=>⟨bV (gy (Jz b v e) Fx),bV (ku (Jz b v e) tu)⟩;have XA:c'≠h'.objs.size:=bV jj;have RW:=Bv T _ hT;have eT:H' T=some (.uu (ps++#[rawInt pos.line,rawInt pos.col,.ref c'])):=by
   show upd (upd (upd H T _) c' _) h'.objs.size _ T=_;rw [aj RW.2,aj RW.1,ae]
  have ec:H' c'=some (j_ c' (X.env.qual ++ "<lambda>")):=by
   show upd (upd (upd H T _) c' _) h'.objs.size _ c'=_;rw [aj XA,ae]
  have ef:H' h'.objs.size=some (pj h'.objs.size (i_ X params body scope cl c' gO)):=ae;have eo:∀b,b≠T->b≠c'->b≠h'.objs.size->H' b=H b:=λb n1 n2 n3=>by
   show upd (upd (upd H T _) c' _) h'.objs.size _ b=_;rw [aj n3,aj n2,aj n1]
  have sT:gE T H H':=λb o n e=>by rw [eo b n (Bv b o e).1 (Bv b o e).2];exact e
  have I2:Inv X ai σ H' { s with heap:=h'.push (i_ X params body scope cl c' gO),toks:=tk }:=by
   refine I.call (g':=s.gens) (t':=tk) (d':=s.drawn) (ch:=[]) ⟨λb o e n _ _=>keep b o (λz=>by rw [z,hT] at n;cases n) e,λb o e n _ _=>⟨o.slots,keep b o (λz=>by rw [z,hT] at n;cases n) e⟩,λb o e n _=>?_,λb o e _=>?_,λb xs e=>?_,λb o u e=>?_,λb Xf e=>?_⟩ (λb v e=>?_) I.bare (λb hb=>nomatch hb)
   .have lb:=bD e;rw [eo b (λz=>by rw [z,hT] at n;cases n) (bV (gy lb Fx)) (bV (ku lb tu))];exact n
   .by_cases z:b=T
    .exact⟨_,by rw [z];exact cg _ Sx⟩
    exact⟨o,keep b o z e⟩
   .exact sT b _ (λz=>by rw [z,hT] at e;cases e) e
   .exact sT b _ (λz=>by rw [z,hT] at e;cases e) e
   .by_cases z:b=T
    .subst z;rw [hT] at e;cases e;exact⟨_,eT⟩
    exact⟨#[],by rw [Array.append_empty];exact sT b _ z e⟩
   by_cases z1:b=h'.objs.size
   .subst z1;rw [ef] at e;cases e;exact qN (dB _ rfl)
   by_cases z2:b=c'
   .subst z2;rw [ec] at e;cases e;refine zQ ?_;obtain⟨c2,oc,vs,t,e',Ai,hd,hv⟩:=Ir;cases e';exact⟨_,oc,vs,t,rfl,cg _ Ai,hd,hv⟩
   by_cases z3:b=T
   .subst z3;rw [eT] at e;cases e;exact cg _ Sx
   rw [eo b z3 z2 z1] at e;refine(I.cw b v e).kO (λd o EH e'=>?_) (λd e'=>sT d _ (λz=>by rw [z,hT] at e';cases e') e') λd ys e'=>sT d _ (λz=>by rw [z,hT] at e';cases e') e';rcases EH with rfl | EH
   .exact keep d o z3 e'
   exact keep d o (λz=>by rw [z,hT] at EH;cases EH) e'
  have fresh:H h'.objs.size=none:=I.cw.fresh (lN tu);exact⟨.ref h'.objs.size,H',I2,rfl,q _ c' gO cl H' og sT ⟨_,eT,by rw [wA];exact jN _ ht,.inr ⟨c',by rw [wA];exact codeAmong_snoc _ ht SV,ec⟩⟩ fresh ef ec⟩
 refine kla_makeFunctionHit og.eq I.ok.glob hg tD C OX ht hf Tu λgO h' tk hk hsz=>?_;have keep:∀b o,185->(h'.push (i_ X params body scope cl c' gO)).get? b=some o:=λb o e=>cg _ (hk b o e);have fresh:H h'.objs.size=none:=I.cw.fresh hsz;refine⟨.ref h'.objs.size,_,I.laid (a:=h'.objs.size) (o:=pj h'.objs.size (i_ X params body scope cl c' gO)) (t':=tk) keep hsz (qN (dB _ rfl)),rfl,?_⟩;refine q _ c' gO cl _ og (λb o _ e=>by rw [aj (aC e fresh)];exact e) ⟨ps,by rw [aj (aC hT fresh)];exact hT,ht,.inr ⟨c',hf,by rw [aj (aC mS fresh)];exact mS⟩⟩ fresh ae (by rw [aj (aC mS fresh)];exact mS)
end
theorem Cy:∀{zs:z0t}{aV:z0n},bH 203 aV->∀(i:Nat)(v:Value),aV[i]?=some v->∃z t,zs[i]?=some z/\v=.str z t
 | [],[],_,i,v,h=>by simp at h
 | z::r,u::aV,h,i,v,hi=>by
  cases h with
  | cons a b =>
   cases i with
   | zero =>
    cases hi;obtain⟨t,e⟩:=(show ∃t,u=Value.str z t from a);exact⟨z,t,rfl,e⟩
   | succ i=>exact Cy b i v hi
theorem u5:∀(ps:List (Str×Tok)),bH ((ps.map 87).map V.str) (ps.map λp=>Value.str p.1 p.2)
 | []=>.nil
 | p::r=>.cons ⟨p.2,rfl⟩ (u5 r)
theorem u6:∀{zs:z0t}{aV:z0n},bH 203 aV->∃ps:List (Str×Tok),ps.map 87=zs/\aV=ps.map λp=>Value.str p.1 p.2
 | [],[],_=>⟨[],rfl,rfl⟩
 | z::r,u::aV,h=>by
  cases h with
  | cons a b =>
   obtain⟨t,e⟩:=(show ∃t,u=Value.str z t from a);obtain⟨ps,e1,e2⟩:=u6 b;exact⟨(z,t)::ps,by rw [cI,e1],by rw [cI,e2,e]⟩
def Bf {α β:Type}{f:α->β}{l m:List β}(h:l.Perm m):∀ps:List α,m=ps.map f->∃qs:List α,l=qs.map f/\qs.Perm ps:=by
 induction h with
 | nil =>
  intro ps e;cases ps with
  | nil=>exact⟨[],rfl,.nil⟩
  | cons p r=>cases e
 | cons x h ih =>
  intro ps e;cases ps with
  | nil=>cases e
  | cons p r =>
   rw [cI] at e;injection e with e1 e2;obtain⟨qs,a,b⟩:=ih r e2;exact⟨p::qs,by rw [cI,a,e1],b.cons p⟩
 | swap x y l =>
  intro ps e
  match ps,e with
  | [],e=>cases e
  | [_],e=>cases e
  | p::p2::r,e =>
   rw [cI,cI] at e;injection e with e1 e2;injection e2 with e3 e4;exact⟨p2::p::r,by rw [cI,cI,e1,e3,e4],.swap p p2 r⟩
 | trans h1 h2 i1 i2 =>
  intro ps e;obtain⟨qs,a,b⟩:=i2 ps e;obtain⟨rs,c,d⟩:=i1 qs a;exact⟨rs,c,d.trans b⟩
def He {g:Str->Int}{ps:List (Str×Tok)}{out:z0n}(h:KskOut false ((ps.map 87).map g) (ps.map λp=>Value.str p.1 p.2) out) :
  ∃qs:List (Str×Tok),out=qs.map (λp=>Value.str p.1 p.2)/\(qs.map 87).Perm (ps.map 87)/\(qs.map 87).Pairwise λx y=>g x<=g y:=by
 obtain⟨rs,h1,h2,h3⟩:=h;have ez:((ps.map 87).map g).zip (ps.map λp=>Value.str p.1 p.2)=ps.map λp=>(g p.1,Value.str p.1 p.2):=by
  rw [ff,List.zip_map,List.zip_eq_zipWith]
  induction ps with
  | nil=>rfl
  | cons p r ih=>simp_all
 rw [ez] at h1;obtain⟨qs,q1,q2⟩:∃qs:List (Str×Tok),rs=qs.map (λp=>(g p.1,Value.str p.1 p.2))/\qs.Perm ps:=by
  exact Bf h1 ps rfl
 subst q1;refine⟨qs,by rw [h2,ff];rfl,q2.map _,?_⟩;rw [List.pairwise_map] at h3 ⊢;exact h3.imp λh=>by simpa using h
section
variable {X:Cx}{i:Nat}{xs xh:Str}{params:Arguments}{scope:Scope}{p pos Bx kp p1 p2 p3:Pos}{e:Expr}{ta:TA}{c T:Addr}{k:Nat}
abbrev Ds (xs xh:Str)(p1 p2 p3:Pos):Expr:=.Subscript (.Name xs p1) (.Name xh p2) p3
def Nv (X:Cx) (i:Nat)(Bx:Pos)(T:Addr)(ta:TA):TE:=λσ H Q=>ta σ H λvs H1=>Tab T Bx (X.env.qual ++ "<lambda>") H1/\∃(a:Addr) (zs:z0t)(d:Addr)(kvs:93)(g:Str->Int),vs=[.ref a]/\aI X.K H1 a 203/\zs.length < 64/\σ[i]?=some (some (.ref d))/\Rd H1 d (.dK kvs) /\
 (∀z∈zs,a0 kvs 150=some (.int (g z)))/\∀(l:Addr) (uo:z0t)(H':Hp),gE T H1 H'->Tab T Bx (X.env.qual ++ "<lambda>") H'->H1 l=none->uo.Perm zs->uo.Pairwise (λx y=>g x<=g y)->H' l=some (.lst (uo.map V.str))->Q (.ref l) H'
def G7 (hr:gF (k+1) X.A)(tD:X.env.code=.ref c)(hC:codeHdIn X.K c T=true)(hB:um X.mg X.base)(hg:Gl X "sorted")(hm:X.mg "sorted"=none)(ha:PA X [e] ta)
  (hN:X.N[i]?=some xs)(hx:X.env.scope.names.lookup xs=some .cell)(n_:∀y,(y,NameKind.free)∈scope.names->X.env.scope.names.lookup y=some .cell)
  (hb:∀(q:Str)(cl:z0f)(pm gO:Value)(c':Addr)(us:z0n),us.length=1->bindArgs (kla_fn "<lambda>" q params (Ds xs xh p1 p2 p3) scope cl pm (.ref c') gO) ⟨us,[]⟩=pure ([xh].zip us))
  (hk:scope.kind=.function)(YV:scope.isCoroutine=false)(OR:scope.isGenerator=false)(YD:∀x∈scope.names,x.2≠.cell)(hh:scope.names.lookup xh=some .local)(hs:scope.names.lookup xs=some .free)
  (d1:(xs == ("__debug__":Str))=false:=by decide)(d2:(xh == ("__debug__":Str))=false:=by decide)(d3:(xs == ("__classdict__":Str))=false:=by decide)
  (ID:defaultsOf params X.env=([],[]):=by rfl)
  (he:backTo pos (starEach [e] X.env)=(false,eval e X.env)::backTo pos (starEach [] X.env):=by rfl)(hp:(backTo pos (starEach [e] X.env)).any 87=false:=by rfl) :
  PE X (.Call (.Name "sorted" p) [e] [⟨some "key",.Lambda params (Ds xs xh p1 p2 p3) scope Bx,kp⟩] pos) (Nv X i Bx T ta):=by
 intro ai s σ H Q I h;refine q0 (jU I hg hm boot_sorted ?_);refine callWith_kw (dC (ha pos ai s σ H _ I h) λus s1 bI=>?_) he hp rfl rfl;obtain⟨vs,H1,I1,r1,Lu,a,zs,d,kvs,g,ev,hq,VD,hσ,hd,hv,q1⟩:=bI;subst ev;have low:=Ku (X:=X) (params:=params) (body:=Ds xs xh p1 p2 p3) (scope:=scope) (pos:=Bx) (c:=c) (T:=T) tD hC hB n_ ID ai s1 σ H1
  (λfv H2=>∃f c' gO cl,fv=.ref f/\Me X.env scope cl/\gE T H1 H2/\Tab T Bx (X.env.qual ++ "<lambda>") H2/\H2 f=some (pj f (i_ X params (Ds xs xh p1 p2 p3) scope cl c' gO))/\H2 c'=some (j_ c' (X.env.qual ++ "<lambda>"))) I1
  ⟨Lu,λf c' gO cl H' a1 a2 a3 a4 a5 a6=>⟨f,c',gO,cl,rfl,a1,a2,a3,a5,a6⟩⟩
 refine kws_cons (dC low λu2 s2 bI=>?_);obtain⟨fv,H2,I2,r2,f,c',gO,cl,ef,og,st,VA,hf,mS⟩:=bI;refine kws_nil ?_;subst ef;cases (show u2=Value.ref f from r2);obtain⟨u,rfl,rx⟩:=vals1 r1;cases (show u=Value.ref a from rx);obtain⟨pt,eT,_⟩:=id Lu;have SK:aI X.K H2 a 203:=by
  rcases hq with (h | ⟨o,h⟩) | h
  .exact .inl (.inl (st _ _ (λz=>by rw [z,eT] at h;cases h) h))
  .exact .inl (.inr ⟨o,st _ _ (λz=>by rw [z,eT] at h;cases h) h⟩)
  exact .inr h
 have hd2:Rd H2 d (.dK kvs):=by
  rcases hd with h | ⟨o,h⟩
  .exact .inl (st _ _ (λz=>by rw [z,eT] at h;cases h) h)
  exact .inr ⟨o,st _ _ (λz=>by rw [z,eT] at h;cases h) h⟩
 obtain⟨aV,rv,pl,hz⟩:=I2.list SK;obtain⟨pzs,ez,ei⟩:=u6 rv;have DW:=pl.isList;obtain⟨oa,ga,ca,na,da⟩:=id DW;obtain⟨m,uv,lk⟩:=id I2.loc;have KY:∀b o,H2 b=some o->b≠X.env.locals:=λb o hb z=>by rw [z,I2.free] at hb;cases hb
 have RR:d≠X.env.locals:=by
  rcases hd2 with h | ⟨o,h⟩
  .exact KY d _ h
  exact KY d _ h
 have neA:a≠X.env.locals:=λz=>by
  obtain⟨o,es,ep,ho,uI,_⟩:=uv;rw [<-z,ga] at ho;cases ho;rw [da] at uI;cases uI
 obtain⟨ud,rd,lkd⟩:=lk i xs (.ref d) hN hσ (.inr (.inl hx));cases (show ud=Value.ref d from rd);obtain⟨cc,ecc,oc,SS,SR⟩:∃cc,X.env.cells.lookup xs=some cc/\s2.heap.IsCell cc (some (.ref d)):=by
  rcases lkd with ⟨l,_⟩ | ⟨_,c2,e2,h2⟩
  .have l':X.env.scope.names.lookup xs=some .local:=l;rw [hx] at l';cases l'
  exact⟨c2,e2,h2⟩
 obtain⟨cc',ZE⟩:=og.all xs (xG hs);have e3:=og.sub _ _ ZE;rw [ecc] at e3;cases e3;have Qd:cc≠X.env.locals:=λz=>by
  obtain⟨o,es,ep,ho,uI,_⟩:=uv;rw [<-z,SS] at ho;cases ho;rw [SR] at uI;cases uI
 obtain⟨gf,_⟩:=I2.cw f _ hf;obtain⟨gc,_⟩:=I2.cw c' _ mS;obtain⟨zl,qw,dvs,rel,dd⟩:=mi I2.cw hd2;obtain⟨m0,F0⟩:=I2.fr;refine ksk_sorted (kz:=zs.map g) (f:=.ref f) (b:=false) (vs:=aV) (h₀:=v8.pb s2.heap) (L:=X.env.locals) (m:=m) (news:=(a,oa)::v8.ledger s2.heap X.env.locals a) (v8.IP uv) (v8.qa neA ga) DW (by rw [ar,<-rv.length,ar]) (by rw [<-rv.length,ar];exact VD)
  (ksk_s1 _ _) (λx=>ksk_l1 _ _) (λx=>ksk_t1 f x) (λj v kk hj hkk uF tk own F N=>?_) λD h' tk out cnt F' N' lt' ko=>?_
 .obtain⟨z,t,VM,rfl⟩:=Cy rv j v hj;rw [aX,VM] at hkk;cases hkk;have keep:∀b u,b≠X.env.locals->s2.heap.get? b=some u->uF.get? b=some u:=λb u nb hb=>by
   by_cases e:b=a
   .subst e;rw [ga] at hb;cases hb;exact(N (b,oa) 144).1
   exact(N (b,u) (fg _ (cT _ (v8.f_.mpr ⟨nb,e,hb⟩)))).1
  have hvz:=hv z (cE VM);obtain⟨w',hw,A7⟩:=jY.some_of (v:=.int (g z)) (o:=valueAt dvs 150) (by rw [<-hvz];exact rel.val 150);obtain⟨tw,rfl⟩:=(show ∃t,w'=Value.int (g z) t from A7);have QH:uF.DictOf (aY X.prog X.w) d dvs:=by
   obtain⟨o,es,ep,g1,r⟩:=dd;exact⟨o,es,ep,keep _ _ RR g1,r⟩
  have gc2:uF.CodeRec (.ref c') (X.env.qual ++ "<lambda>"):=by
   obtain⟨c2,oc2,vs2,t2,e2,Ai,i5,Qj⟩:=gc;cases e2;exact⟨_,oc2,vs2,t2,rfl,keep _ _ (KY c' _ mS) Ai,i5,Qj⟩
  have nl:uF.NoLimit:=I2.mod.nolimit.keeps λb o e=>keep b o (bV (gy (bD e) F0.above)) (I2.bk b o e);exact Il (s:={ s2 with heap:=uF,toks:=tk }) (A:=X.A.in1.in1) hr.depth nl (keep _ _ (KY f _ hf) gf) gc2 (λus hl=>hb _ _ _ _ _ us hl) hk YV OR YD hh hs ZE (keep _ _ Qd SS) SR QH hw d1 d2 d3
   λh3 tk3 kk3=>KskEnd.intro (F.kept kk3) (N.grown kk3) λp hp=>hp
 have keep:∀b u,b≠X.env.locals->s2.heap.get? b=some u->h'.get? b=some u:=λb u nb hb=>by
  by_cases e:b=a
  .subst e;rw [ga] at hb;cases hb;exact(N' (b,oa) 144).1
  exact(N' (b,u) (cT _ (cT _ (v8.f_.mpr ⟨nb,e,hb⟩)))).1
 have hD:s2.heap.get? D=none:=by
  cases e:s2.heap.get? D with
  | none=>rfl
  | some o =>
   exfalso;have nD:D≠X.env.locals:=(N' (D,_) cS).2.1;by_cases ea:D=a
   .have:=lt' (a,oa) cS;rw [ea] at this;exact absurd this (lR _)
   exact absurd (lt' (D,o) (cT _ (v8.f_.mpr ⟨nD,ea,e⟩))) (lR _)
 have fD:H2 D=none:=by
  cases e:H2 D with
  | none=>rfl
  | some u =>
   obtain⟨ob,g⟩:=yT (I2.cw D u e);rw [hD] at g;cases g
 have fD1:H1 D=none:=by
  cases e:H1 D with
  | none=>rfl
  | some u =>
   by_cases z:D=T
   .obtain⟨pt2,eT2,_⟩:=VA;rw [z,eT2] at fD;cases fD
   rw [st _ _ z e] at fD;cases fD
 rw [ei,<-ez] at ko;obtain⟨qs,eo,pe,ps⟩:=He ko;rw [ez] at pe;have gD:=(N' (D,_) cS).1;have lq:qs.length=zs.length:=by have:=pe.length_eq;rw [ar] at this;exact this
 have sl:=af fD (.lst ((qs.map 87).map V.str));refine⟨.ref D,_,I2.MI (t':=tk) keep (λm' hm=>?_) hD fD (show cQ X.prog X.w _ _ _ (.lst ((qs.map 87).map V.str)) from ⟨by rw [ar,ar];exact fits ∅,qs.map (λp=>Value.str p.1 p.2),cnt,u5 qs,by rw [<-eo];simpa using gD⟩),rfl,q1 D (qs.map 87) _ (λb o n hb=>sl _ _ (st b o n hb)) ?_ fD1 pe ps ae⟩
 .have:=F'.ns;have e:m'=m:=by
   obtain⟨o,es,ep,ho,uI,_,hf⟩:=hm;obtain⟨o2,es2,TR,ED,IC,_,OS⟩:=uv;rw [ho] at ED;cases ED;rw [uI] at IC;cases IC
   funext x
   rw [<-hf x,<-OS x]
  rw [e];exact this
 obtain⟨U6,b1,b2,b3⟩:=VA;refine⟨U6,sl _ _ b1,b2,b3.imp id λbI=>?_⟩;obtain⟨c3,e3,g3⟩:=bI;exact⟨c3,e3,sl _ _ g3⟩
end
open PySem M11
def Cb {K:bp}{H:Hp}{p D d:Addr}{zs:z0t}{kvs:93}{g:G}{σ:St}{js:z0j}{Qp:Hp->Prop}(hσ:dP ["part"] js σ=[none,aE d])(hp:aZ K H p 203)(hz:zs.length<=1000)
  (hd:Rd H d (.dK kvs))(hv:∀z,a0 kvs 150=(g z).map V.int)(ha:∀z∈zs,(g z).isSome=true)(hD:H D=none)(q:∀H2,aD H H2->H2 D=some (.lst ((zs.map λz=>(g z).getD 0).map V.int))->Qp H2) :
  ∃W:241,(∃m,W 0 m [] (dP ["part"] js σ) 227) /\
 ∀i m ys σ' H,W i m ys σ' H->((ox K p).stop i H/\Qp H)\/((ox K p).go i H/\∃m',m' < m/\∀x H',(ox K p).lV i H x H'->dF 0 x σ' H' λσ2 H2=>hX σ2 H2 λb H3 =>
  if b=true then Ct (gN 1) (gN 0) σ2 H3 239 else 257):=by
 refine gL (xs:=154) (λi ys σ2 H2=>ys=(((zs.take i).map λz=>(g z).getD 0).map V.int)/\(∃y0,σ2=[y0,aE d])/\370)
  ⟨rfl,⟨none,hσ⟩,af hD _,ae⟩ (λi ys σ2 H2 _ h=>h.2.2.1.tup hp) (λi x ys σ2 H2 ex h=>?_) (λys σ2 H2 h=>?_)
 .obtain⟨rfl,⟨y0,rfl⟩,sm,hd2⟩:=h;rw [aX] at ex;obtain⟨z,ez,rfl⟩:=bT.mp ex;have li:=(bu.mp ez).1;obtain⟨n,en⟩:=ni.mp (ha z (cE ez));have hg:cu H2 d (.str z) (some (.int n)):=by
   have:=cu.r (k:=140) (hJ.Rd.same hd sm);rw [hv,en] at this;exact this
  refine goN (uJ ?_);refine⟨_,rfl,_,rfl,d,_,rfl,hg,hd2,br (by rw [ar,ar,du];omega),?_,157,?_,ae⟩
  .rw [cK,ez,ba,ba];show _=_++[V.int ((g z).getD 0)];rw [en];rfl
  intro b o hb;rw [330];exact sm b o hb
 obtain⟨rfl,_,sm,hd2⟩:=h;rw [ar,b0] at hd2;exact q H2 sm hd2
end L2
namespace hJ
open PySem L2 M11
section
def r_ (K:bp):Sp:=λvs H Q _=>∃(d r:Addr)(kvs:93)(g:G)(ru:ax),vs=[.ref d,.ref r]/\Rd H d (.dK kvs)/\(∀z,a0 kvs 150=(g z).map V.int)/\Dz K H r ru/\ru.2.length<=8/\(∀z∈ru.2,(g z).isSome=true)/\∀H',aD H H'->Q (.int (aM g ru)) H'
def AO:aK ["sizes","rule"] ["sizes","rule"] (ay oZ):=163
def yU (F:iz K "rule_size" "rule_size" oZ f fd)(T:Txt mg):bR P w K mg base fI 1 f fd ["sizes","rule"] (r_ K):=by
 refine F.ok AO 184 186
 .obtain⟨d,r,kvs,g,ru,rfl,_⟩:=h;rfl
 obtain⟨d,r,kvs,g,ru,rfl,hd,hv,⟨p,v1,v2⟩,h8,al,q⟩:=h;have hu:=gh hr;refine⟨_,ao (bw (aN df av (aP (lJ rfl) rfl T.sum wF (ab (aT ["part"] [(0,"sizes")] rfl (eV (a_ bF (pv 1) av 142)) 162 nofun rfl nofun
   (λ_ _ _ _ _=>aq (i:=0) (show (["part","sizes"]:z0t).Nodup by decide +kernel) rfl 90) 220 (λ_ _ _ _ _=>fO hu (pv 1) 91 142)) ak)))),?_⟩
 dsimp only [uM];refine⟨_,rfl,r,_,_,_,rfl,rfl,v1,rfl,p,rfl,⟨_,v2⟩,λD hD=>Cb (g:=g) rfl v2 ∅ hd hv al hD λH2 s2 e2=>?_⟩;refine⟨D,_,rfl,aI.of e2,_,_,rfl,rfl,?_⟩;exact q H2 s2
end
end hJ
namespace M11
open PySem
def uj.at_ {aa:88}{aL:z0h}(h:uj aa aL):∀(i:Nat)(x:Str) (k:Nat),aL[i]?=some (x,k)->∃dq,aa[k]?=some (x,dq)/\∀p∈dq,p∈(aL.take i).map 87:=by
 induction h with
 | nil=>intro i x k e;simp at e
 | @snoc aL k2 ru h e n p ih =>
  intro i x k ei;by_cases hi:i < aL.length
  .rw [nj hi] at ei;obtain⟨dq,a,b⟩:=ih i x k ei;exact⟨dq,a,λq hq=>by rw [rg (lN hi)];exact b q hq⟩
  have li:=(bu.mp ei).1;rw [a8,fU] at li;have e2:i=aL.length:=by omega
  subst e2;rw [lU (aG _),oG] at ei;cases ei;exact⟨ru.2,e,λq hq=>by rw [List.take_left'];exact p q hq;rfl⟩
end M11
namespace hJ
open PySem L2 M11
section
def tT {H:Hp}{p D d:Addr}{zs:z0t}{kvs:93}{σ:St}{js:z0j}{Qp:Hp->Prop}(hσ:dP ["part"] js σ=[none,aE d])(hp:aZ K H p 203)(hz:zs.length<=1000)
  (hd:H d=188)(ha:∀z∈zs,(140:aQ)∈kvs.map 87)(hD:H D=none)(q:∀ys H2,ys.length=zs.length->aD H H2->H2 D=some (.lst ys)->Qp H2) :
  ∃W:241,(∃m,W 0 m [] (dP ["part"] js σ) 227) /\
 ∀i m ys σ' H,W i m ys σ' H->((ox K p).stop i H/\Qp H)\/((ox K p).go i H/\∃m',m' < m/\∀x H',(ox K p).lV i H x H'->dF 0 x σ' H' λσ2 H2=>hX σ2 H2 λb H3 =>
  if b=true then Ct (gN 1) (gN 0) σ2 H3 239 else 257):=by
 refine gL (xs:=154) (λi ys σ2 H2=>ys.length=i/\(∃y0,σ2=[y0,aE d])/\370)
  ⟨rfl,⟨none,hσ⟩,af hD _,ae⟩ (λi ys σ2 H2 _ h=>h.2.2.1.tup hp) (λi x ys σ2 H2 ex h=>?_) (λys σ2 H2 h=>?_)
 .obtain⟨rfl,⟨y0,rfl⟩,sm,hd2⟩:=h;rw [aX] at ex;obtain⟨z,ez,rfl⟩:=bT.mp ex;have li:=(bu.mp ez).1;obtain⟨v,ev⟩:=ni.mp ((eQ kvs 150).mpr (ha z (cE ez)));have hg:cu H2 d (.str z) (some v):=by
   have:=cu.k (k:=140) (sm _ _ hd);rw [ev] at this;exact this
  refine goN (uJ ?_);refine⟨_,rfl,_,rfl,d,_,rfl,hg,hd2,br ∅,by rw [a8];rfl,157,?_,ae⟩;intro b o hb;rw [330];exact sm b o hb
 obtain⟨e,_,sm,hd2⟩:=h;rw [ar] at e;exact q ys H2 e sm hd2
def vc (K:bp):Sp:=λvs H Q _=>∃(R D:Addr)(rs ts:z0q)(aa:88)(aL:z0h),vs=[.ref R,.ref D]/\aI K H R 153/\bM K H rs aa/\aa.length<=1000/\329/\aI K H D (ts.map V.ref)/\oy K H ts aL/\uj aa aL/\aL.length<=1000 /\
 ∀(d:Addr)(kvs:93)(H':Hp),H d=none->aD H H'->H' d=188->kvs.map 87=(aL.map 87).map Sum.inr->Q (.ref d) H'
def lD:aK ["rules","empties","trees","name","number"] ["rules","empties"] (ay sG):=163
def Bo (F:iz K "empty_by_name" "empty_by_name" sG f fd)(T:Txt mg):bR P w K mg base fI 1 f fd ["rules","empties"] (vc K):=by
 refine F.ok lD 184 186
 .obtain⟨R,D,rs,ts,aa,aL,rfl,_⟩:=h;rfl
 obtain⟨R,D,rs,ts,aa,aL,rfl,hR,cM,bO,h8,hD,Vw,Ta,Td,q⟩:=h;have hu:=gh hr;refine⟨_,ag (aA (i:=2) lD.nd rfl (Or.inr rfl) fX)
  (ag (bJ bW rfl (aR (pv 1)) (di (n:=2) K rfl (az (aq (i:=3) lD.nd rfl 90) (az (aq (i:=4) lD.nd rfl 90) bE)))
   (ao (fK hu (pv 2) (pv 3) (bX (ab (pv 4) (ab (bN ji rfl T.tup As (ab (aT ["part"] [(2,"trees")] rfl (eV (a_ bF (a_ cO 91 (pv 4) 142) av 142)) 162 nofun rfl nofun
    (λ_ _ _ _ _=>aq (i:=0) (show (["part","trees"]:z0t).Nodup by decide +kernel) rfl 90) 220 (λ_ _ _ _ _=>fO hu (pv 1) 91 142)) ak)) ak))) rfl)))
  (ao (bw (pv 2)))),?_⟩
 nofun
 refine λd Ak=>?_;have s1:=af Ak (.dK []);have e1:upd H d (.dK []) d=some (.dK []):=ae;generalize upd H d (.dK [])=H1 at s1 e1;refine goN ?_
 ac_rfl
 have lt:=a7 Vw;have ll:=a7 cM;have nd:=Ta.nd
 let yj:uh:=λi σ H3=>∃(kvs:93)(y3 y4:Option V),σ=[aE R,aE D,aE d,y3,y4]/\aD H H3/\H3 d=188/\kvs.map 87=((aL.take i).map 87).map Sum.inr
 refine⟨_,rfl,D,rfl,⟨_,s1.seq hD⟩,bQ (xs:=ts.map V.ref) yj ⟨[],_,_,rfl,s1,e1,rfl⟩ ?_ ?_ ?_⟩
 .rintro i σ H3 _ ⟨kvs,y3,y4,rfl,s3,_⟩;exact s3.seq hD
 .rintro i x σ H3 ex ⟨kvs,y3,y4,rfl,s3,ed,ek⟩
  ac_nf0
  rw [aX] at ex;obtain⟨t,et,rfl⟩:=bT.mp ex;have li:=(bu.mp et).1;obtain⟨e,ee⟩:∃e,aL[i]?=some e:=⟨aL[i]'∅,cZ ∅⟩;obtain⟨t',IU,vt⟩:=Paired.at_ Vw i e ee;rw [et] at IU;cases IU;obtain⟨x,k⟩:=e;obtain⟨dq,hk,EC⟩:=Ta.at_ i x k ee;obtain⟨r,er,p,v1,v2⟩:=Paired.at_ cM k _ hk;have Uj:pQ 153 (k:Int)=some (.ref r):=cH (by rw [aX,er];rfl);have hp8:dq.length<=8:=h8 _ (cE hk);refine⟨t,_,rfl,s3.tup vt,rfl,_,_,rfl,_,_,rfl,rfl,?_⟩;refine⟨_,rfl,_,rfl,_,rfl,R,_,_,_,rfl,rfl,s3.seq hR,Uj,r,_,_,_,rfl,rfl,s3.tup v1,rfl,p,rfl,⟨_,s3.tup v2⟩,λD2 jL=>tT (zs:=dq) rfl (s3.tup v2) ∅ ed (λz hz=>by rw [ek];exact dr.mpr (EC z hz)) jL λys H4 ly s4 e4=>?_⟩;refine⟨D2,ys,rfl,.inl ⟨aI.of e4,λt2 Zi=>⟨qo,λH_ O7=>?_⟩⟩⟩;have k5:=(af Zi (.tup ys)).trans (af O7 (.tup [.int (k:Int),.ref t2]));generalize upd (upd H4 t2 (.tup ys)) H_ (.tup [.int (k:Int),.ref t2])=H5 at k5;have ed5:=k5 _ _ (s4 _ _ ed);have lkv:kvs.length=i:=by
   have:=congrArg List.length ek;rw [ar,ar,ar,du] at this;omega
  have nx:x∉(aL.take i).map 87:=λz=>by
   obtain⟨e2,m2,q2⟩:=bU.mp z;obtain⟨j,hj⟩:=gR m2;rw [List.getElem?_take] at hj
   split at hj
   .rename_i hji
    have a1:(aL.map 87)[j]?=some x:=by rw [aX,hj];exact congrArg some q2
    have a2:(aL.map 87)[i]?=some x:=by rw [aX,ee];rfl
    have:=(List.getElem?_inj (by rw [ar];omega) nd).mp (a1.trans a2.symm);omega
   cases hj
  refine⟨_,rfl,_,rfl,d,_,rfl,.inl ⟨kvs,Sum.inr x,ed5,rfl,br ∅,rfl⟩,?_⟩;refine⟨_,_,_,rfl,λb o hb=>?_,ae,?_⟩
  .rw [aj (λz=>by rw [z,Ak] at hb;cases hb)];exact k5 _ _ (s4 _ _ (s3 b o hb))
  rw [i9 (by rw [ek];exact λz=>nx (dr.mp z)),ek,cK,ee,ba,ba];rfl
 rintro σ H3 ⟨kvs,y3,y4,rfl,s3,ed,ek⟩;rw [ar,lt,b0] at ek;exact⟨_,rfl,q d kvs H3 Ak s3 ed ek⟩
end
end hJ
namespace M11
open PySem
def Le (g' g:G):Prop:=∀z n,g z=some n->∃m,g' z=some m/\m<=n
def zE {g:G}{ru:ax}(f:cW bl g ru=true):k_ g ru=true/\∀n,g ru.1=some n->aM g ru < n:=by
 unfold cW at f;rw [nh] at f;refine⟨f.1,λn e=>?_⟩;have:=f.2;rw [e] at this;have:(!(some n:z0p).isSome || bl (aM g ru) n)=true:=this
 simpa [bl] using this
def le_step {g:G}{ru:ax}(f:cW bl g ru=true):Le (dO g ru.1 (aM g ru)) g:=λz n e=>by
 unfold dO;by_cases c:z=ru.1
 .rw [aw c];subst c;exact⟨_,rfl,Int.le_of_lt ((zE f).2 n e)⟩
 rw [au c];exact⟨n,e,j4 _⟩
theorem FZ {g g':G}(h:Le g' g):∀ps:z0t,(∀p∈ps,(g p).isSome=true)->(∀p∈ps,(g' p).isSome=true)/\(ps.map λp=>(g' p).getD 0).sum<=(ps.map λp=>(g p).getD 0).sum
 | [],_=>⟨λp hp=>(by cases hp),j4 _⟩
 | p::r,a=>by
  obtain⟨h1,h2⟩:=FZ h r λq hq=>a q (cT _ hq);obtain⟨n,en⟩:=ni.mp (a p cS);obtain⟨m,em,lm⟩:=h p n en;refine⟨λq hq=>?_,?_⟩
  .rcases b8.mp hq with rfl | hq
   .rw [em];rfl
   exact h1 q hq
  rw [cI,cI,lQ,lQ,en,em];show m+_<=n+_;omega
def v3 {g:G}{ru:ax}:k_ g ru=true↔∀p∈ru.2,(g p).isSome=true:=by
 unfold k_;rw [eG]
def size_le {g g':G}{ru:ax}(h:Le g' g)(a:k_ g ru=true):k_ g' ru=true/\aM g' ru<=aM g ru:=by
 obtain⟨h1,h2⟩:=FZ h ru.2 (v3.mp a);exact⟨v3.mpr h1,by unfold aM;omega⟩
def QK (aa:88) (hs:z0t)(g:G):Prop:=∀h n,g h=some n->h∉hs\/∃ru∈aa,ru.1=h/\k_ g ru=true/\aM g ru<=n
def FJ {aa:88}{hs:z0t}(g:G)(ru:ax)(j:QK aa hs g)(m:ru∈aa)(f:cW bl g ru=true):QK aa hs (dO g ru.1 (aM g ru)):=λh n e=>by
 have le:=le_step f;by_cases c:h=ru.1
 .have e2:n=aM g ru:=by
   unfold dO at e;rw [aw c] at e;exact(gJ e).symm
  obtain⟨a1,a2⟩:=size_le le (zE f).1;exact .inr ⟨ru,m,c.symm,a1,∅⟩
 have e2:g h=some n:=by
  unfold dO at e;rw [au c] at e;exact e
 rcases j h n e2 with h1 | ⟨P_,m2,q2,a2,l2⟩
 .exact .inl h1
 obtain⟨b1,b2⟩:=size_le le a2;exact .inr ⟨P_,m2,q2,b1,∅⟩
def Eu {aa:88}{hs:z0t}{g0 g:G}(j0:QK aa hs g0)(st:dZ bl aa g0 g)(se:iI bl aa g){h:Str}{n:Int}(hh:h∈hs)(e:g h=some n):∃ru∈aa,ru.1=h/\k_ g ru=true/\aM g ru=n:=by
 have j:QK aa hs g:=dZ.keep (J:=QK aa hs) (λg ru j m f=>FJ g ru j m f) st j0;rcases j h n e with z | ⟨ru,m,q,a,l⟩
 .exact absurd hh z
 refine⟨ru,m,q,a,?_⟩;have f:=se ru m;unfold cW at f;rw [a,q,e] at f;have f:(true && (!(some n:z0p).isSome || bl (aM g ru) n))=false:=f
 have f2:¬aM g ru < n:=by simpa [bl] using f
 omega
theorem CZ {g:G}(nn:NN g):∀(ps:z0t)(p:Str) (m:Int),p∈ps->g p=some m->m<=(ps.map λp=>(g p).getD 0).sum
 | q::r,p,m,hp,e=>by
  rw [cI,lQ];have h1:=jO g nn r;rcases b8.mp hp with rfl | hp
  .rw [e];show m<=m+_;omega
  have h2:=CZ nn r p m hp e;have h3:0<=(g q).getD 0:=by
   cases eq:g q with
   | none=>exact j4 _
   | some n=>exact nn q n eq
  omega
def DX {g:G}(nn:NN g){ru:ax}{p:Str}{m:Int}(hp:p∈ru.2)(e:g p=some m):m < aM g ru:=by
 have:=CZ nn ru.2 p m hp e;unfold aM;omega
theorem Co:∀(bo ps bY:z0t),(∀z∈bY,z∉bo)->∀z∈ur bo bY ps,z∉bo
 | _,[],bY,h=>h
 | bo,p::r,bY,h=>by
  show ∀z∈ur bo (addW bo bY p) r,z∉bo;refine Co bo r _ ?_;unfold addW
  split
  .exact h
  rename_i hp
  unfold gP
  split
  .exact h
  intro z hz;rcases bP.mp hz with hz | hz
  .exact h z hz
  rw [bB.mp hz];exact hp
def w_ {g:Str->Int}{zs:z0t}(h:zs.Pairwise λx y=>g x<=g y){i:Nat}{x p:Str}(e:zs[i]?=some x)(hp:p∈zs)(l:g p < g x):p∈zs.take i:=by
 obtain⟨j,ej⟩:=gR hp;obtain⟨li,ei⟩:=bu.mp e;obtain⟨lj,ej2⟩:=bu.mp ej;have hji:j < i:=by
  rcases Nat.lt_trichotomy j i with h1 | h1 | h1
  .exact h1
  .subst h1;rw [e] at ej;cases ej;omega
  have:=List.pairwise_iff_getElem.mp h i j li lj h1;rw [ei,ej2] at this;omega
 rw [List.mem_iff_getElem?];exact⟨j,by rw [List.getElem?_take,aw hji];exact ej⟩
end M11
namespace hJ
open PySem L2 M11
def Wt (aa:88):QK aa (hd aa) (zB aa):=λh n e=>by
 unfold zB at e;by_cases c:h∈ur (hd aa) [] (aa.flatMap (·.2))
 .exact .inl (Co _ _ [] (λz hz=>by cases hz) h c)
 rw [au c] at e;cases e
def nn0 (aa:88):NN (zB aa):=λh n e=>by
 unfold zB at e;by_cases c:h∈ur (hd aa) [] (aa.flatMap (·.2))
 .rw [aw c] at e;cases e;exact j4 _
 rw [au c] at e;cases e
def Ol {aa:88}{g:G}(st:dZ M11.bl aa (zB aa) g):NN g:=dZ.keep (J:=NN) (λg ru j m f=>xE j ru) st (nn0 aa)
theorem wO (bo:z0t):∀(ps bY:z0t)(x:Str),(x∈bY\/(x∈ps/\x∉bo))->x∈ur bo bY ps
 | [],bY,x,h=>by
  rcases h with h | ⟨h,_⟩
  .exact h
  cases h
 | p::r,bY,x,h=>by
  show x∈ur bo (addW bo bY p) r;apply wO bo r;unfold addW;by_cases c:p∈bo
  .rw [aw c];rcases h with h | ⟨h,n⟩
   .exact .inl h
   rcases b8.mp h with z | z
   .exact absurd (z ▸ c) n
   exact .inr ⟨z,n⟩
  rw [au c];rcases h with h | ⟨h,n⟩
  .exact .inl ((jJ _ _ _).mpr (.inl h))
  rcases b8.mp h with z | z
  .exact .inl ((jJ _ _ _).mpr (.inr z))
  exact .inr ⟨z,n⟩
def RH:List Stmt->Pos
 | [_,_,_,.For _ (.Call _ _ [⟨_,.Lambda _ _ _ pos,_⟩] _) _ _ _,_]=>pos
 | _=>⟨0,0,0,0⟩
abbrev posB:Pos:=RH (cP nR)
abbrev JD:Str := "least_by_part" ++ ".<locals>." ++ "<lambda>"
section
def oX (K:bp)(T1 T3:Addr):Sp:=λvs H Q _=>∃(R:Addr)(rs:z0q)(aa:88),vs=[.ref R]/\aI K H R 153/\bM K H rs aa/\aa.length < 64/\329/\(∀g,dZ M11.bl aa (zB aa) g->iI M11.bl aa g->∀h∈hd aa,∃n,g h=some n/\n<=60)/\Tab T1 sX.2.2.2 Ag H/\Tab T3 posB JD H/\T1≠T3 /\
 ∀(d:Addr)(kvs:93)(H':Hp),H d=none->mj T1 T3 H H'->Tab T1 sX.2.2.2 Ag H'->Tab T3 posB JD H'->H' d=188->(∀z,z∈hd aa->(140:aQ)∈kvs.map 87)->Q (.ref d) H'
structure LB (K:bp)(rs:z0q)(aa:88)(qO:93)(ps:z0f)(R dz dn T1 T3:Addr)(H5:Hp):Prop where
 hR:aI K H5 R 153
 cM:bM K H5 rs aa
 nm:JZ ps (λn=>nums aa n aa.length) H5 dn
 rz:Rd H5 dz (.dK qO)
 t1:Tab T1 sX.2.2.2 Ag H5
 t3:Tab T3 posB JD H5
theorem LB.same {rs:z0q}{aa:88}{qO:93}{ps:z0f}{R dz dn T1 T3:Addr}{H5 H6:Hp}(h:LB K rs aa qO ps R dz dn T1 T3 H5)(s:aD H5 H6):LB K rs aa qO ps R dz dn T1 T3 H6 :=
 ⟨s.seq h.hR,h.cM.same s,h.nm.same s,hJ.Rd.same h.rz s,h.t1.same s,h.t3.same s⟩
def LB.MN {rs:z0q}{aa:88}{qO:93}{ps:z0f}{R dz dn T1 T3 d:Addr}{H5 H6:Hp}{kv:93}(h:LB K rs aa qO ps R dz dn T1 T3 H5)(e:H5 d=some (.dK kv))(n1:dn≠d)(n2:dz≠d)(s:gE d H5 H6):LB K rs aa qO ps R dz dn T1 T3 H6:=by
 have tk:∀a xs,aZ K H5 a xs->aZ K H6 a xs:=λa xs z=>by
  rcases z with (z | ⟨u,z⟩) | z
  .exact .inl (.inl (s _ _ (λy=>by rw [y,e] at z;cases z) z))
  .exact .inl (.inr ⟨u,s _ _ (λy=>by rw [y,e] at z;cases z) z⟩)
  exact .inr z
 have tb:∀{T':Addr}{pos':Pos}{JB:Str},Tab T' pos' JB H5->Tab T' pos' JB H6:=λ{T' pos' JB} ⟨p,a,b,cc⟩=>⟨p,s _ _ (λy=>by rw [y,e] at a;cases a) a,b,cc.imp id λ⟨c',e1,e2⟩=>⟨c',e1,s _ _ (λy=>by rw [y,e] at e2;cases e2) e2⟩⟩;refine⟨?_,h.cM.keep tk,⟨s _ _ n1 h.nm.hd,h.nm.n1,h.nm.n2,λp hp=>s _ _ (λy=>by have a:=h.nm.lst p hp;rw [y,e] at a;cases a) (h.nm.lst p hp)⟩,?_,tb h.t1,tb h.t3⟩
 .rcases h.hR with (z | ⟨u,z⟩) | z
  .exact .inl (.inl (s _ _ (λy=>by rw [y,e] at z;cases z) z))
  .exact .inl (.inr ⟨u,s _ _ (λy=>by rw [y,e] at z;cases z) z⟩)
  exact .inr z
 rcases h.rz with z | ⟨u,z⟩
 .exact .inl (s _ _ n2 z)
 exact .inr ⟨u,s _ _ n2 z⟩
def LB.Ro {rs:z0q}{aa:88}{qO:93}{ps:z0f}{R dz dn T1 T3:Addr}{H5 H6:Hp}(h:LB K rs aa qO ps R dz dn T1 T3 H5)(nT:T1≠T3)(s:gE T3 H5 H6)(t:Tab T3 posB JD H6):LB K rs aa qO ps R dz dn T1 T3 H6:=by
 obtain⟨pt,eT,_⟩:=id h.t3;refine⟨CP s h.t3 h.hR,h.cM.keep λ_ _ z=>Cq s h.t3 z,⟨s _ _ (λy=>by have a:=h.nm.hd;rw [y,eT] at a;cases a) h.nm.hd,h.nm.n1,h.nm.n2,λp hp=>s _ _ (λy=>by have a:=h.nm.lst p hp;rw [y,eT] at a;cases a) (h.nm.lst p hp)⟩,?_,Cr s h.t3 h.t1 nT,t⟩;rcases h.rz with z | ⟨u,z⟩
 .exact .inl (s _ _ (λy=>by rw [y,eT] at z;cases z) z)
 exact .inr ⟨u,s _ _ (λy=>by rw [y,eT] at z;cases z) z⟩
theorem pD:∀(hs:z0t)(bY:93) (as:z0t),bY.map 87=as.map Sum.inr->(dw (hs.map λh=>((Sum.inr h:aQ),V.str h)) bY).map 87=(M11.xY as hs).map Sum.inr
 | [],bY,as,e=>e
 | h::r,bY,as,e=>pD r (bS bY (Sum.inr h) (.str h)) (M11.gP as h) (hJ.iX e h)
def iK:aK ["rules","numbers","trees","name","least","sizes"] ["rules"] (ay nR):=163
def Bm {T1 T3:Addr}(F:z9 K "least_by_part" "least_by_part" nR f fd T3)(T:Txt mg)(hB:um mg base)(hS:mg "sorted"=none)(GH:aF P w K mg base 3 "heads_of" ["rules"] (lB K))(GL:aF P w K mg base 3 "least_sizes" ["rules"] (qF K T1))(GN:aF P w K mg base 3 "numbers_by_name" ["rules"] (AK K))(GZ:aF P w K mg base 3 "rule_size" ["sizes","rule"] (r_ K)):bR P w K mg base fI 4 f fd ["rules"] (oX K T1 T3):=by
 refine F.ok iK 184 (λc A outer s H vs Q E hC hr h=>?_)
 .obtain⟨R,rs,aa,rfl,_⟩:=h;rfl
 obtain⟨R,rs,aa,rfl,hR,cM,bO,h8,IA,Lu,Y4,nT,q⟩:=h;have hu:=gh hr;refine⟨_,ag (aA (i:=5) iK.nd rfl (Or.inr rfl) (bC GL hr rfl (ab 91 ak)))
  (ag (aA (i:=1) iK.nd rfl (Or.inr rfl) (bC GN hr rfl (ab 91 ak)))
  (ag (aA (i:=2) iK.nd rfl (Or.inr rfl) (bN (eZ rfl) rfl T.Dp gC (ab (aT ["part"] [(1,"numbers")] rfl (CY (pv 5)) 162 nofun rfl nofun
    (λ_ _ _ _ _=>aq (i:=0) (show (["part","numbers"]:z0t).Nodup by decide +kernel) rfl 90) (λ_ _ _ _ _=>fM (fC (dD hu 91 (pv 1)))) (λ_ _ _ _ _=>bX (ab 91 (ab 91 ak)))) ak)))
  (ag (bJ bW rfl (aR (G7 (i:=5) (T:=T3) hr rfl hC hB rfl hS (ab (bC GH hr rfl (ab 91 ak)) ak) rfl rfl (λy hy=>by
    rcases b8.mp hy with h | h
    .cases h
    rcases b8.mp h with h | h
    .cases h;rfl
    cases h) (λq cl pm gO c' us hl=>match us,hl with | [_],_=>rfl) rfl rfl rfl nofun rfl rfl)) (aq (i:=3) iK.nd rfl (Or.inr rfl))
   (ag (gG (iy:=4) ["number"] [(5,"sizes"),(0,"rules"),(3,"name")] iK.nd rfl rfl rfl (aR (fO hu (pv 1) (pv 3) 142)) 162 nofun rfl nofun
    (λ_ _ _ _ _=>aq (i:=0) (show (["number","sizes","rules","name"]:z0t).Nodup by decide +kernel) rfl 90) (λ_ _ _ _ _=>fM (bc jx (bC GZ hr rfl (ab (pv 1) (ab (a_ (zp K) (pv 2) 91 142) ak))) (fO hu (pv 1) (pv 3) 142) (cA _))) (λ_ _ _ _ _=>pv 0))
   (ao (fK hu (pv 2) (pv 3) (bX (ab (a_ cO (pv 4) av 142) (ab (bN ji rfl T.tup As (ab (aT ["part"] [(2,"trees")] rfl (eV (a_ bF (a_ cO 91 (a_ cO (pv 4) av 142) 142) av 142)) 162 nofun rfl nofun
    (λ_ _ _ _ _=>aq (i:=0) (show (["part","trees"]:z0t).Nodup by decide +kernel) rfl 90) 220 (λ_ _ _ _ _=>fO hu (pv 1) 91 142)) ak)) ak))) rfl))))
  (ao (bw (pv 2)))))),?_⟩
 nofun
 refine⟨_,rfl,R,rs,aa,rfl,hR,cM,∅,h8,Lu,λdz qO MJ g H1 fz s1 t1 ez kz vz US sez lz=>?_⟩;refine goN ?_
 ac_rfl
 have hR1:=CP s1 Lu hR;have SJ:=cM.keep λ_ _ z=>Cq s1 Lu z;have t31:=Cr s1 Lu Y4 (d8 nT);refine⟨_,rfl,R,rs,aa,rfl,hR1,SJ,∅,λdn ps H2 fn s2 nm pk pf=>?_⟩;refine goN ?_
 ac_rfl
 have M5:=s2 _ _ ez;refine⟨_,rfl,dz,qO,rfl,M5,λo D hD=>?_⟩;have Qc:∀p∈ps,p.2≠dz:=λp hp z=>by
  have a:=nm.lst p hp;rw [z,M5] at a;cases a
 have ndz:dn≠dz:=λz=>by rw [z,ez] at fn;cases fn
 have nz1:T1≠dz:=λz=>by
  obtain⟨p,a,_⟩:=t1;rw [z,ez] at a;cases a
 have nz3:T3≠dz:=λz=>by
  obtain⟨p,a,_⟩:=t31;rw [z,ez] at a;cases a
 have Q0:∀{T':Addr}{pos':Pos}{JB:Str},T'≠dz->Tab T' pos' JB H2->Tab T' pos' JB (upd H2 dz (.mf o (.dK qO))):=λ{T' pos' JB} n ⟨p,a,b,cc⟩=>⟨p,by rw [aj n];exact a,b,cc.imp id λ⟨c',e1,e2⟩=>⟨c',e1,by rw [aj (λz=>by rw [z,M5] at e2;cases e2)];exact e2⟩⟩;have L3:LB K rs aa qO ps R dz dn T1 T3 (upd H2 dz (.mf o (.dK qO))):=by
  refine⟨?_,(SJ.same s2).keep λ_ _ z=>iq M5 z,⟨by rw [aj ndz];exact nm.hd,nm.n1,nm.n2,λp hp=>by rw [aj (Qc p hp)];exact nm.lst p hp⟩,.inr ⟨o,ae⟩,Q0 nz1 (t1.same s2),Q0 nz3 (t31.same s2)⟩;rcases s2.seq hR1 with (h | ⟨u,h⟩) | h
  .exact .inl (.inl (by rw [aj (λz=>by rw [z,M5] at h;cases h)];exact h))
  .exact .inl (.inr ⟨u,by rw [aj (λz=>by rw [z,M5] at h;cases h)];exact h⟩)
  exact .inr h
 have e3:upd H2 dz (.mf o (.dK qO)) dz=some (.mf o (.dK qO)):=ae;have DQ:mj T1 T3 H (upd H2 dz (.mf o (.dK qO))):=λb u n1 n3 hb=>by
  rw [aj (λz=>by rw [z,fz] at hb;cases hb)];exact s2 _ _ (s1 b u n1 hb)
 generalize upd H2 dz (.mf o (.dK qO))=H3 at hD L3 e3 DQ ⊢;have lkz:qO.length=MJ.length:=by
  have:=congrArg List.length kz;rwa [ar,ar] at this
 refine tX (λi ys σ2 H4=>∃ts:z0q,ys=ts.map V.ref/\(∃y0,σ2=[y0,aE dn])/\aD H3 H4/\H4 D=some (.lst ys)/\ts.length<=i/\Paired (λt h=>aZ K H4 t [.str h,.str h]) ts ((MJ.take i).filter λz=>!decide (z∈hd aa)))
  ⟨[],rfl,⟨none,rfl⟩,af hD _,ae,aG _,.nil⟩ (λi ys σ2 H4 _ h=>?_) (λi kv ys σ2 H4 ex h=>?_) (λys σ2 H4 h=>?_)
 .obtain⟨_,_,_,sm,_⟩:=h;exact sm _ _ e3
 .obtain⟨ts,rfl,⟨y0,rfl⟩,sm,e4,Qe,pt⟩:=h;obtain⟨z,ezz,ekz⟩:∃z,MJ[i]?=some z/\kv.1=140:=by
   have a1:(qO.map 87)[i]?=some kv.1:=by rw [aX,ex];rfl
   rw [kz,aX] at a1;obtain⟨z,a2,a3⟩:=bT.mp a1;exact⟨z,a2,a3.symm⟩
  rw [ekz];have L4:=L3.same sm;have pF:(a0 (ps.map jA) 150).isSome=decide (z∈hd aa):=by
   rw [jl,eQ,decide_eq_true_iff,<-pk];rw [ff];constructor
   .intro h;obtain⟨p,hp,e⟩:=bU.mp h;exact bU.mpr ⟨p,hp,kr e⟩
   intro h;obtain⟨p,hp,e⟩:=bU.mp h;exact bU.mpr ⟨p,hp,congrArg Sum.inr e⟩
  refine goN ?_;refine⟨_,rfl,_,rfl,dn,_,rfl,cu.k (k:=140) L4.nm.hd,_,rfl,?_⟩;rw [pF];have TL:((MJ.take (i+1)).filter λz=>!decide (z∈hd aa))=((MJ.take i).filter λz=>!decide (z∈hd aa))++(if (!decide (z∈hd aa))=true then [z] else []):=by
   rw [cK,ezz,pU]
   congr 1
   by_cases c:z∈hd aa <;> simp [c]
  refine b_ (λcc=>?_) (λcc=>?_)
  .refine⟨_,rfl,_,rfl,qo,λt ht=>?_⟩;have k5:=af ht (.tup [kV 150,kV 150]);have v5:aZ K (upd H4 t (.tup [kV 150,kV 150])) t [.str z,.str z]:=aZ.of ae;generalize upd H4 t (.tup [kV 150,kV 150])=H5 at k5 v5;have li:=(bu.mp ex).1;have e5:=k5 _ _ e4;refine⟨e5,219,ts++[t],by rw [ba];rfl,157,λb u hb=>?_,ae,by rw [a8,fU];omega,?_⟩
   .rw [330];exact k5 _ _ (sm b u hb)
   rw [TL,aw cc];exact fc (Paired.b9 pt λ_ _ z=>bz e5 (k5.tup z)) (bz e5 v5)
  refine⟨ts,rfl,157,sm,e4,∅,?_⟩;rw [TL,au cc,dN];exact pt
 obtain⟨ts,rfl,_,s4,e4,Qe,pt⟩:=h;rw [lkz,b0] at pt;have hwk:∀z,z∉hd aa->(g z).isSome=true->z∈MJ.filter λz=>!decide (z∈hd aa):=λz hz gz=>by
  refine gw.mpr ⟨?_,by simpa using hz⟩;have a1:(a0 qO 150).isSome=true:=by rw [vz,qZ];exact gz
  rw [eQ,kz] at a1;exact dr.mp a1
 have lws:(MJ.filter λz=>!decide (z∈hd aa)).length<=20000:=fJ (iC _ _) ∅;generalize MJ.filter (λz=>!decide (z∈hd aa))=ws at pt hwk lws;have kp:Paired (λt (kv:aQ×V)=>aZ K H4 t [kV kv.1,kv.2]) ts (ws.map λh=>((Sum.inr h:aQ),V.str h)):=c_ pt λ_ _ z=>z;refine⟨D,ts,_,rfl,e4,kp,λdt uI=>?_⟩;have kt:∀z∈ws,(140:aQ)∈(dw (ws.map λh=>((Sum.inr h:aQ),V.str h)) []).map 87:=λz hz=>by
  rw [pD ws [] [] rfl];exact dr.mpr ((il ws [] z).mpr (.inr hz))
 have lkt:(dw (ws.map λh=>((Sum.inr h:aQ),V.str h)) []).length<=20000:=by
  have a:=congrArg List.length (pD ws [] [] rfl);rw [ar,ar] at a;have:=ja ws [];simp only [kc] at this;omega
 generalize dw (ws.map λh=>((Sum.inr h:aQ),V.str h)) []=Se at kt lkt;have s5:=s4.trans (af uI (.dK Se));have e5:upd H4 dt (.dK Se) dt=some (.dK Se):=ae;have M3:H3 dt=none:=s4.free uI;generalize upd H4 dt (.dK Se)=H5 at s5 e5;have L5:=L3.same s5;refine goN ?_
 ac_rfl
 refine⟨_,rfl,R,rs,aa,rfl,L5.hR,L5.cM,∅,λDH H6 fH s6 eH=>?_⟩;have L6:=L5.same s6;have Ox:=ja 204 [];simp only [kc,ar] at Ox;have gz:∀z∈hd aa,∃n,g z=some n:=λz hz=>by
  obtain⟨n,e,_⟩:=IA g US sez z hz;exact⟨n,e⟩
 refine⟨L6.t3,DH,hd aa,dz,qO,λz=>(g z).getD 0,rfl,aI.of eH,by unfold hd;omega,rfl,L6.rz,λz hz=>by obtain⟨n,e⟩:=gz z hz;rw [vz,e];show _=some (V.int ((g z).getD 0));rw [e];rfl,λl uo H7 s7 t37 fl pe pw el=>?_⟩;have L7:=L6.Ro nT s7 t37;have Xz:dt≠T3:=λz=>by
  obtain⟨p,a,_⟩:=L5.t3;rw [<-z,e5] at a;cases a
 have e7:=s7 _ _ Xz (s6 _ _ e5);have ndn:dn≠dt:=λz=>by have a:=L3.nm.hd;rw [z,M3] at a;cases a
 have nzt:dz≠dt:=λz=>by rw [<-z,e3] at M3;cases M3
 have NV:mj T1 T3 H H7:=λb u n1 n3 hb=>s7 _ _ n3 (s6 _ _ (s5 _ _ (DQ b u n1 n3 hb)));have Xv:l≠dt:=λz=>by rw [z,s6 _ _ e5] at fl;cases fl
 have nn:=Ol US;have hlz:uo.length < 64:=by rw [pe.length_eq];unfold hd;omega
 have Um:∀ru∈aa,∀p∈ru.2,(g p).isSome=true:=λru ix p hp=>by
  by_cases hh:p∈hd aa
  .obtain⟨n,e⟩:=gz p hh;rw [e];rfl
  have j0:∃n,zB aa p=some n:=⟨0,aw (wO _ _ [] p (.inr ⟨jm.mpr ⟨ru,ix,hp⟩,hh⟩))⟩;have:∃n,g p=some n:=dZ.keep (J:=λg=>∃n,g p=some n) (λg ru ⟨n,e⟩ m f=>by obtain⟨k,a,_⟩:=le_step f p n e;exact⟨k,a⟩) US j0;obtain⟨n,e⟩:=this;rw [e];rfl
 have ll:=a7 cM
 let yj:uh:=λi σ H8=>∃(kvs:93)(y3 y4:Option V),σ=[aE R,aE dn,aE dt,y3,y4,aE dz]/\gE dt H7 H8/\H8 dt=188/\kvs.length<=20000+i/\(∀z∈ws,(140:aQ)∈kvs.map 87)/\(∀z∈uo.take i,(140:aQ)∈kvs.map 87)
 refine⟨l,rfl,⟨_,aI.of el⟩,bQ (xs:=uo.map V.str) yj ⟨Se,_,_,rfl,λ_ _ _ h=>h,e7,∅,kt,λz hz=>by cases hz⟩ ?_ ?_ ?_⟩
 .rintro i σ H8 _ ⟨kvs,y3,y4,rfl,s8,_⟩;exact aI.of (s8 _ _ Xv el)
 .rintro i x σ H8 ex ⟨kvs,y3,y4,rfl,s8,e8,Qf,X3,Sd⟩
  ac_nf0
  rw [aX] at ex;obtain⟨z,VF,rfl⟩:=bT.mp ex;have li:=(bu.mp VF).1;have hz:z∈hd aa:=pe.mem_iff.mp (cE VF);obtain⟨n,Zx⟩:=gz z hz;have L8:=L7.MN e7 ndn nzt s8;obtain⟨p,hp,Yw⟩:=bU.mp (show z∈ps.map 87 by rw [pk];exact hz);refine goN ?_
  ac_rfl
  have hgn:cu H8 dn (.str z) (some (.ref p.2)):=by
   have:=cu.k (k:=140) L8.nm.hd;rw [<-Yw,gS ps L8.nm.n1 p hp] at this;rw [Yw] at this;exact this
  have Vp:=L8.nm.lst p hp;have Vp:H8 p.2=some (.lst ((nums aa z aa.length).map V.int)):=by rw [<-Yw];exact Vp
  have numOf:∀(m:Nat) (v:Int),(nums aa z aa.length)[m]?=some v->∃(j:Nat)(ru:ax),v=(j:Int)/\aa[j]?=some ru/\ru.1=z:=λm v e=>by
   unfold nums at e;rw [aX] at e;obtain⟨j,e1,rfl⟩:=bT.mp e;have hj:=(gw.mp (cE e1)).2;have hj:(aa[j]?.map 87)=some z:=cR hj;obtain⟨ru,e2,e3⟩:=bT.mp hj;exact⟨j,ru,rfl,e2,e3⟩
  have aar:=yV aa z aa.length
  let good:Int->Bool:=λv=>match aa[v.toNat]? with | some ru=>decide (aM g ru=n) | none=>false
  have wit:∃v∈nums aa z aa.length,good v=true:=by
   obtain⟨ru,ix,q1,_,q3⟩:=Eu (Wt aa) US sez hz Zx;obtain⟨j,ej⟩:=gR ix;have lj:=(bu.mp ej).1;refine⟨(j:Int),bU.mpr ⟨j,gw.mpr ⟨j6.mpr lj,cv (by rw [ej];exact congrArg some q1)⟩,rfl⟩,?_⟩;show (match aa[(j:Int).toNat]? with | some ru=>decide (aM g ru=n) | none=>false)=true
   rw [jn,ej];exact cv q3
  refine⟨_,rfl,_,rfl,dn,_,rfl,hgn,p.2,rfl,⟨_,aI.of Vp⟩,λD9 yn=>bL (xs:=(nums aa z aa.length).map V.int) (λm ys σ2 H9=>ys=(((nums aa z aa.length).take m).filter good).map V.int/\(∃y0,σ2=[y0,aE dz,aE R,some (.str z)])/\aD H8 H9/\H9 D9=some (.lst ys))
   ⟨rfl,⟨none,rfl⟩,af yn _,ae⟩ (λm ys σ2 H9 _ h=>?_) (λm x ys σ2 H9 em h=>?_) (λys σ2 H9 h=>?_)⟩
  .obtain⟨_,_,sm,_⟩:=h;exact aI.of (sm _ _ Vp)
  .obtain⟨rfl,⟨y0,rfl⟩,sm,e9⟩:=h;rw [aX] at em;obtain⟨v,ev,rfl⟩:=bT.mp em;have lm:=(bu.mp ev).1;obtain⟨j,ru,rfl,ej,VM⟩:=numOf m v ev;have L9:=L8.same sm;obtain⟨r,er,rv⟩:=Paired.at_ L9.cM j ru ej;have Uj:pQ 153 (j:Int)=some (.ref r):=cH (by rw [aX,er];rfl);have gj:good (j:Int)=decide (V.int (aM g ru)=V.int n):=by
    show (match aa[(j:Int).toNat]? with | some ru=>decide (aM g ru=n) | none=>false)=_
    rw [jn,ej];show decide (aM g ru=n)=_;by_cases c:aM g ru=n
    .rw [cv c,cv (congrArg V.int c)]
    rw [dU c,dU (λy=>c (by injection y))]
   refine goN ?_;refine⟨_,rfl,_,rfl,_,rfl,R,_,_,_,rfl,rfl,L9.hR,Uj,dz,r,qO,g,ru,rfl,L9.rz,vz,rv,h8 ru (cE ej),Um ru (cE ej),λz8 qt=>?_⟩;have hgz:cu z8 dz (.str z) (some (.int n)):=by
    have:=cu.r (k:=140) (L9.same qt).rz;rw [vz,Zx] at this;exact this
   refine⟨_,rfl,_,rfl,dz,_,rfl,hgz,rfl,_,rfl,?_⟩;rw [<-gj];have TL:((nums aa z aa.length).take (m+1)).filter good=((nums aa z aa.length).take m).filter good++(if good (j:Int)=true then [(j:Int)] else []):=by
    rw [cK,ev,pU]
    congr 1
    show List.filter good [(j:Int)]=_;by_cases c:good (j:Int)=true
    .rw [aw c,oQ,aw c,List.filter_nil]
    rw [au c,oQ,au c,List.filter_nil]
   have lf:(((nums aa z aa.length).take m).filter good).length<=1000:=fJ (iC _ _) (by rw [du];omega);refine b_ (λcc=>?_) (λcc=>?_)
   .refine⟨_,rfl,qt _ _ e9,219,by rw [TL,aw cc,ba];rfl,157,λb u hb=>?_,ae⟩;rw [aj (λz=>by rw [z,yn] at hb;cases hb)];exact qt _ _ (sm b u hb)
   exact⟨by rw [TL,au cc,dN],157,sm.trans qt,qt _ _ e9⟩
  obtain⟨rfl,_,s9,e9⟩:=h;rw [ar,b0] at e9;refine goN ?_
  ac_rfl
  have L9:=L8.same s9;cases hf:(nums aa z aa.length).filter good with
  | nil =>
   obtain⟨v,hv,gv⟩:=wit;have:v∈(nums aa z aa.length).filter good:=gw.mpr ⟨hv,gv⟩;rw [hf] at this;cases this
  | cons v0 vr =>
   rw [hf] at e9;have hm0:v0∈(nums aa z aa.length).filter good:=by rw [hf];exact cS
   obtain⟨Qo,Vt⟩:=gw.mp hm0;obtain⟨m0,Zw⟩:=gR Qo;obtain⟨j,ru,rfl,ej,VM⟩:=numOf m0 v0 Zw;have hsz:aM g ru=n:=by
    have Vt:(match aa[(j:Int).toNat]? with | some ru=>decide (aM g ru=n) | none=>false)=true:=Vt
    rw [jn,ej] at Vt;exact cR Vt
   have ix:=cE ej;obtain⟨r,er,pp,v1,v2⟩:=Paired.at_ L9.cM j ru ej;have Uj:pQ 153 (j:Int)=some (.ref r):=cH (by rw [aX,er];rfl);have ue:pQ (V.int (j:Int)::vr.map V.int) 0=some (.int (j:Int)):=cH (j:=0) rfl;have e9:H9 D9=some (.lst (V.int (j:Int)::vr.map V.int)):=e9;have e89:=s9 _ _ e8;have r8:=h8 ru ix;have X9:∀p∈ru.2,(Sum.inr p:aQ)∈kvs.map 87:=λy hy=>by
    obtain⟨my,ey⟩:=ni.mp (Um ru ix y hy);by_cases hh:y∈hd aa
    .refine Sd y (w_ pw VF (pe.mem_iff.mpr hh) ?_);show (g y).getD 0 < (g z).getD 0;rw [ey,Zx];show my < n;rw [<-hsz];exact DX nn hy ey
    exact X3 y (hwk y hh (by rw [ey];rfl))
   refine⟨_,rfl,D9,_,_,_,rfl,rfl,aI.of e9,ue,_,rfl,_,rfl,D9,_,_,_,rfl,rfl,aI.of e9,ue,R,_,_,_,rfl,rfl,L9.hR,Uj,r,_,_,_,rfl,rfl,v1,rfl,pp,rfl,⟨_,v2⟩,λD10 Zb=>tT (zs:=ru.2) rfl v2 ∅ e89 X9 Zb λys z8 ly qt Fy=>?_⟩;refine⟨D10,ys,rfl,.inl ⟨aI.of Fy,λt2 Zi=>⟨qo,λH_ O7=>?_⟩⟩⟩;have k11:=(af Zi (.tup ys)).trans (af O7 (.tup [.int (j:Int),.ref t2]));generalize upd (upd z8 t2 (.tup ys)) H_ (.tup [.int (j:Int),.ref t2])=Fg at k11;have Ru:=(s9.trans qt).trans k11;have JT:=Ru _ _ e8;refine⟨_,rfl,_,rfl,dt,_,rfl,.inl ⟨kvs,140,JT,rfl,br ∅,rfl⟩,?_⟩;have Ij:∀y:aQ,(y∈kvs.map 87\/y=140)->y∈(bS kvs 150 (.ref H_)).map 87:=λy hy=>by
    by_cases hk:(140:aQ)∈kvs.map 87
    .rw [Bb hk];rcases hy with hy | rfl
     .exact hy
     exact hk
    rw [i9 hk];rcases hy with hy | rfl
    .exact fg _ hy
    exact dJ _ cS
   have aav:(bS kvs 150 (.ref H_)).length<=kvs.length+1:=by
    have a:=congrArg List.length (Eq.refl ((bS kvs 150 (.ref H_)).map 87));by_cases hk:(140:aQ)∈kvs.map 87
    .have b:=congrArg List.length (Bb (v:=.ref H_) hk);rw [ar,ar] at b;omega
    have b:=congrArg List.length (i9 (v:=.ref H_) hk);rw [ar,a8,ar,fU] at b;omega
   refine⟨_,_,_,rfl,λb u nb hb=>?_,ae,∅,λy hy=>Ij _ (.inl (X3 y hy)),λy hy=>?_⟩
   .rw [aj nb];exact Ru _ _ (s8 b u nb hb)
   rw [cK,VF] at hy;rcases bP.mp hy with hy | hy
   .exact Ij _ (.inl (Sd y hy))
   exact Ij _ (.inr (by rw [bB.mp (show y∈[z] from hy)]))
 rintro σ H8 ⟨kvs,y3,y4,rfl,s8,e8,Qf,X3,Sd⟩;rw [ar,b0] at Sd;have L8:=L7.MN e7 ndn nzt s8;refine⟨_,rfl,q dt kvs H8 ?_ (λb u n1 n3 hb=>?_) L8.t1 L8.t3 e8 λz hz=>Sd z (pe.mem_iff.mpr hz)⟩
 .cases c:H dt with
  | none=>rfl
  | some u =>
   by_cases h1:dt=T1
   .obtain⟨pp,a,_⟩:=L3.t1;rw [<-h1,M3] at a;cases a
   rw [DQ dt u h1 Xz c] at M3;cases M3
 refine s8 _ _ (λz=>?_) (NV b u n1 n3 hb);rw [z] at hb;rw [DQ dt u (λy=>n1 (z.trans y)) Xz hb] at M3;cases M3
end
end hJ
namespace L2
open PySem PySem.Spec PyProof.Rows
section
variable {prog:Program}{w:World}{A:Around}{E:z0b}
def wX {h h':Heap}{ks:List aQ}{a:Addr}(p:(tupleKind (aY prog w)).is h ks a)(k:∀b o,o.cls=.type "tuple" -> h.get? b=some o->h'.get? b=some o):(tupleKind (aY prog w)).is h' ks a :=
 let ⟨o,aV,n,h1,h2,h3,h4⟩:=p;⟨o,aV,n,k a o h2 h1,h2,h3,h4⟩
def xX {h h':Heap}{d:Addr}{xs:List (List aQ×Addr×Value)}(hd:h.DictOfH (tupleKind (aY prog w)) d xs)(kd:∀o,h.get? d=some o->h'.get? d=some o)(k:∀b o,o.cls=.type "tuple" -> h.get? b=some o->h'.get? b=some o) :
  h'.DictOfH (tupleKind (aY prog w)) d xs :=
 let ⟨o,es,ep,q,c,dd,e,is,n⟩:=hd;⟨o,es,ep,kd o q,c,dd,e,λx hx=>wX (is x hx) k,n⟩
def lK (prog:Program)(w:World)(h:Heap)(u:Value)(kv:List aQ×Addr×Value):Prop :=
 ∃t n o,u=.ref t/\(tupleKind (aY prog w)).is h kv.1 kv.2.1/\h.get? t=some o/\o.cls=.type "tuple" /\ o.data=.seq #[.ref kv.2.1,kv.2.2] n
def lK.keep {h h':Heap}{u:Value}{kv:List aQ×Addr×Value}(p:lK prog w h u kv)(k:∀b o,o.cls=.type "tuple" -> h.get? b=some o->h'.get? b=some o):lK prog w h' u kv :=
 let ⟨t,n,o,a,b,c,d,e⟩:=p;⟨t,n,o,a,wX b k,k t o d c,d,e⟩
def Dn (more xs:List (List aQ×Addr×Value)):List (List aQ×Addr×Value):=more.foldl (λa p=>storedH a p.1 p.2.1 p.2.2) xs
def LH {R:Result->182}{d it l:Addr}{items:z0l}(hh:A.handled=none)(hu:A.units+1 < cLine):∀(more:List (List aQ×Addr×Value)) (i:Nat)(s:Shared)(kvs:List (List aQ×Addr×Value)) (j:Int)(tk:Tok),items.size=i+more.length ->
  s.heap.DictOfH (tupleKind (aY prog w)) d kvs->s.heap.IsListIter it l i->s.heap.IsList l items->(∀m kv,more[m]?=some kv->∃u,items[i+m]?=some u/\lK prog w s.heap u kv)->kvs.length+more.length<=sizeLine ->
  (∀h' t',h'.DictOfH (tupleKind (aY prog w)) d (Dn more kvs)->(∀b o,b≠d->b≠it->185->h'.get? b=some o)->R (.ok (.ret .none)) { s with heap:=h',toks:=t' }) ->
  codeAny 158 A (.builtin "dict.update.loop" ⟨[.ref d,.ref it,.int j tk,.none],[]⟩) R s:=by
 intro more
 induction more with
 | nil =>
  intro i s kvs j tk hi hd hit hl hp hz hR;refine rj lI ?_;rw [rF gk _];unfold Builtin.«dict.update.loop»;have hs:items[i]?=none:=Ao (by rw [hi];exact aG _);refine aB (wD hh hit hl hs λh1 eb=>?_);have nd:d≠it:=λz=>by
   obtain⟨o,_,_,q,_,c,_⟩:=hd;obtain⟨o',q',_,c'⟩:=hit;rw [z,q'] at q;cases q;rw [c'] at c;cases c
  have nt:∀b o,o.cls=.type "tuple" -> 185->b≠it:=λb o c q z=>by
   obtain⟨o',q',c',_⟩:=hit;rw [z,q'] at q;cases q;rw [c'] at c;exact absurd c nofun
  show wpAny _ _ (Builtin.Dict.addKeywords d [] >>= _) _ _ _;exact aB (aH (aH (hR h1 s.toks (xX hd (λo q=>eb d o nd q) λb o c q=>eb b o (nt b o c q) q) λb o n1 n2 q=>eb b o n2 q)))
 | cons kv more ih =>
  intro i s kvs j tk hi hd hit hl hp hz hR;refine rj lI ?_;rw [rF gk _];unfold Builtin.«dict.update.loop»;obtain⟨u,Qk,t,n,o,rfl,hk,ho,hc,uI⟩:=hp 0 kv rfl;refine aB (wpAny_pyNext_list_item hit hl Qk λh1 Yb sb=>?_);have nd:d≠it:=λz=>by
   obtain⟨o,_,_,q,_,c,_⟩:=hd;obtain⟨o',q',_,c'⟩:=hit;rw [z,q'] at q;cases q;rw [c'] at c;cases c
  have n2:∀b o,(o.cls=.type "tuple" \/ o.cls=.type "list")->185->b≠d/\b≠it:=by
   intro b o c q;constructor
   .intro z;obtain⟨o',q',c'⟩:=hd.typeIs;rw [z,q'] at q;cases q;rw [c'] at c;rcases c with c | c <;> exact absurd c nofun
   intro z;obtain⟨o',q',c',_⟩:=hit;rw [z,q'] at q;cases q;rw [c'] at c;rcases c with c | c <;> exact absurd c nofun
  have nt:∀b o,o.cls=.type "tuple" -> 185->b≠d/\b≠it:=λb o c q=>n2 b o (.inl c) q;have nl:l≠d/\l≠it:=by
   obtain⟨o,q,c,_⟩:=hl;exact n2 l o (.inr c) q
  have X6:∀b o,o.cls=.type "tuple" -> 185->h1.get? b=some o:=λb o c q=>(sb.2 b (nt b o c q).2).trans q;have MU:h1.get? t=some o:=X6 t o hc ho;have MX:h1.DictOfH (tupleKind (aY prog w)) d kvs:=xX hd (λo q=>(sb.2 d nd).trans q) X6;refine aB (j5 (aB (wpAny_tryCatch ?_)));unfold Builtin.Dict.pairItems;refine aB (jb (T := "tuple") ⟨o,MU,hc⟩ ?_);rw [aw nofun];refine aB (rh MU uI (aH ?_));show wpAny _ _ (holding [.ref kv.2.1,kv.2.2] (dictSet d (.ref kv.2.1) kv.2.2)) _ _ _;rw [dI] at hz hi;refine j5 (wpAny_dictSet_heap (s:={ s with heap:=h1 }) (oT hu) (wX hk X6) MX (λh2 hd2 Rq=>?_) ∅);have kk:∀b o,b≠d->b≠it->185->h2.get? b=some o:=λb o n1 n2 q=>(Rq.2 b n1).trans ((sb.2 b n2).trans q);have ln:(storedH kvs kv.1 kv.2.1 kv.2.2).length<=kvs.length+1:=by
   unfold storedH
   split
   .simp
   simp
  refine aH ⟨kx gk _,ih (i+1) _ _ _ _ ∅ hd2 (Yb.at λo q=>(Rq.2 it (d8 nd)).trans q) (hl.at λo q=>kk l o nl.1 nl.2 q) (λm X4 e=>?_) ∅ λh3 t3 i5 k3=>?_⟩
  .obtain⟨u',e1,e2⟩:=hp (m+1) X4 e;exact⟨u',by rw [<-e1];congr 1;omega,e2.keep λb o c q=>kk b o (nt b o c q).1 (nt b o c q).2 q⟩
  exact hR h3 t3 i5 λb o n1 n2 q=>k3 b o n1 n2 (kk b o n1 n2 q)
def qB {s:Shared}{l:Addr}{items:z0l}{n:Nat}{more:List (List aQ×Addr×Value)}{Q:z0b}(hh:A.handled=none)(hu:A.units+2 < cLine)(hx:s.heap.get? l=some { cls:=.type "list",data:=.seq items n })
  (hi:items.size=more.length)(hp:∀(m:Nat) kv,more[m]?=some kv->∃u,items[m]?=some u/\lK prog w s.heap u kv)(hz:more.length<=sizeLine)
  (h:∀h' t',h'.DictOfH (tupleKind (aY prog w)) s.heap.objs.size (Dn more [])->(∀b o,185->h'.get? b=some o)->Q (238) { s with heap:=h',toks:=t' }) :
  wpAny 158 A (call (.type "dict") [.ref l]) Q E s:=by
 refine callType_codes (Q₁:=λobj s₁=>obj=238/\s₁={ s with heap:=s.heap.push { cls:=.type "dict",data:=.dict #[] } }) F.kt_called_dict (F.kt_typeCall_dict_1 _) F.entry_dict_init (kt_code_dict_new _ ⟨rfl,rfl⟩) ?_;rintro obj s₁ ⟨rfl,rfl⟩;have Br:(s.heap.push { cls:=.type "dict",data:=.dict #[] }).DictOfH (tupleKind (aY prog w)) s.heap.objs.size []:=Heap.DictOfH.new s.heap;have l0:=cg { cls:=.type "dict",data:=.dict #[] } hx;refine⟨Br.typeIs,F.args_dict_init_2 _ _,?_⟩;unfold Builtin.«dict.__init__» Builtin.Dict.selfAndRest;refine aB (aB (wC Br.typeIs (aH ?_)));show wpAny _ _ (Builtin.Dict.updateFrom "dict.__init__" s.heap.objs.size (.ref l) [] .none) _ _ _;unfold Builtin.Dict.updateFrom;refine aB (jb (T := "list") ⟨_,l0,rfl⟩ ?_);rw [aw AI];refine aB (pC l0 hh λh1 t1 k1=>?_);refine aB (kq ?_);have l1:=k1 _ _ l0;refine aB (oP ⟨_,l1,rfl,_,rfl⟩ ?_);have k2:∀b o,185->(h1.push { cls:=.type "list_iterator",data:=.fields #[.ref l,.int 0 0] }).get? b=some o:=λb o q=>cg _ (k1 _ _ (cg _ q));refine aH ⟨kx gk _,LH (A:=A.in1) (l:=l) (items:=items) (show A.in1.handled=none from hh) (show A.in1.units+1 < cLine by rw [rp];omega) more 0 _ [] _ _ (by rw [hi,oH]) ?_ ⟨_,dB _ rfl,rfl,rfl⟩ ⟨_,k2 _ _ hx,rfl,n,rfl⟩ (λm kv e=>?_) (by simpa using hz) λh' t' hd k3=>?_⟩
 .exact xX Br (λo q=>cg _ (k1 _ _ q)) λb o _ q=>cg _ (k1 _ _ q)
 .obtain⟨u,e1,e2⟩:=hp m kv e;exact⟨u,by rw [oH];exact e1,e2.keep λb o _ q=>k2 b o q⟩
 refine⟨rfl,h h' t' hd λb o q=>k3 b o (bV (bD q)) ?_ (k2 b o q)⟩;have:=bD (k1 _ _ (cg { cls:=.type "dict",data:=.dict #[] } q));exact bV this
end
def oq (kvs bY:List (List aQ×V)):List (List aQ×V):=kvs.foldl (λa p=>bS a p.1 p.2) bY
theorem vF {H:Hp}:∀{kvs:List (List aQ×V)}{vs:List (List aQ×Addr×Value)}{bY:List (List aQ×V)}{Jj:List (List aQ×Addr×Value)},KT H kvs vs->KT H bY Jj->KT H (oq kvs bY) (Dn vs Jj)
 | _,_,_,_,.nil,h=>h
 | _,_,_,_,.cons (a:=p) (b:=q) r t,h=>by
  obtain⟨e,hb,rv⟩:=r;show KT H (oq _ (bS _ p.1 p.2)) (Dn _ (storedH _ q.1 q.2.1 q.2.2));rw [<-e];exact vF t (h.put p.1 hb rv)
theorem vG:∀(kvs bY:List (List aQ×V)),(oq kvs bY).length<=bY.length+kvs.length
 | [],bY=>by simp [oq]
 | p::r,bY=>by
  have:=vG r (bS bY p.1 p.2);have:=gb bY p.1 p.2;show (oq r (bS bY p.1 p.2)).length<=_;rw [dI];omega
section
variable {X:Cx}{ai:z0e}{σ:St}{H:Hp}{s:Shared}
abbrev QL (K:bp)(H:Hp)(t:Addr)(kv:List aQ×V):Prop:=∃b,aZ K H t [.ref b,kv.2]/\H b=some (.tup (kv.1.map kV))
theorem vj (I:141):∀{ts:z0q}{kvs:List (List aQ×V)}{aV:z0n},Paired (QL X.K H) ts kvs->bH (ts.map V.ref) aV ->
  ∃vs:List (List aQ×Addr×Value),KT H kvs vs/\Paired (λu kv=>lK X.prog X.w s.heap u kv) aV vs
 | [],_,_,.nil,r=>by
  rw [mn] at r;cases r;exact⟨[],.nil,.nil⟩
 | t::ts,kv::kvs,_,.cons h p,r=>by
  rw [cI] at r;cases r with
  | cons r1 r2 =>
   obtain⟨vs,e1,e2⟩:=vj I p r2;obtain⟨b,h0,hb⟩:=h;obtain⟨aV,rv,⟨o,h1,h2,n,h3⟩,_⟩:=I.tuple h0;obtain⟨u1,u2,rfl,q1,q2⟩:=vals2 rv;cases (show u1=Value.ref b from q1);exact⟨(kv.1,b,u2)::vs,.cons ⟨rfl,hb,q2⟩ e1,.cons ⟨t,n,o,r1,mR I.cw hb,h1,h2,h3⟩ e2⟩
def zT (hc:X.calm=true)(hu:X.A.units+2 < cLine):i0 X (.type "dict") (λxs H Q=>∃a ts kvs,xs=[.ref a]/\H a=some 222/\Paired (QL X.K H) ts kvs/\∀d,H d=none->Q (.ref d) (upd H d (.dT (oq kvs [])))):=by
 intro ai s σ H xs us Q I r h;obtain⟨a,ts,kvs,rfl,e,p,q⟩:=h;obtain⟨u,rfl,rx⟩:=vals1 r;cases (show u=Value.ref a from rx);obtain⟨z,aV,n,rv,ho⟩:=(show cQ X.prog X.w H s.heap a (.lst _) from I.cw a _ e);obtain⟨vs,r1,r2⟩:=vj I p rv;have l1:=a7 r2;have l2:=a7 r1;have l3:=a7 p;rw [ar] at z;refine qB (I.ok.hd hc) hu ho (by simpa using l1) (λm kv em=>?_) ∅ λh' t' hd kk=>?_
 .obtain⟨u,e1,e2⟩:=Paired.at_ r2 m kv em;exact⟨u,by simpa using e1,e2⟩
 have fr:=I.cw.fresh (aG s.heap.objs.size);have new:cQ X.prog X.w (upd H s.heap.objs.size (.dT (oq kvs []))) h' s.heap.objs.size (.dT (oq kvs [])):=by
  obtain⟨o,es,ep,hq,h2,h3,h4,_,h5⟩:=hd;refine⟨?_,?_,_,(vF r1 .nil).keeps λc ys ec=>?_,o,es,ep,hq,h2,h3,h4,h5⟩
  .have:=vG kvs [];simp at this;omega
  .have:=I.big;exact ki.mpr (lP this)
  rw [aj (aC ec fr)];exact ec
 exact⟨238,_,I.laid (t':=t') kk (aG _) new,rfl,q _ fr⟩
end
open PySem M11
def E2 {K:bp}{H:Hp}{bg D:Addr}{ts:z0q}{aW:List Be}{σ:St}{x1 x2 x3 x4:Str}{Qp:Hp->Prop}(hb:aI K H bg (ts.map V.ref))(Qr:Paired (λt (b:Be)=>aZ K H t [.str b.1,.str b.2.1,.int (b.2.2.1:Int),.int (b.2.2.2:Int)]) ts aW)(bO:aW.length<=900000)(hD:H D=none)
  (q:∀us H2,aD H H2->H2 D=some (.lst (us.map V.ref))->Paired (λu (b:Be)=>∃v,QL K H2 u ([Sum.inr b.1,Sum.inr b.2.1],.ref v)) us aW->Qp H2) :
  ∃W:241,(∃m,W 0 m [] (dP [x1,x2,x3,x4] [] σ) 227) /\
 ∀i m ys σ' H,W i m ys σ' H->((jK K bg).stop i H/\Qp H)\/((jK K bg).go i H/\∃m',m' < m/\∀x H',(jK K bg).lV i H x H'->zz K 4 (iZ (dF 0) (iZ (dF 1) (iZ (dF 2) (iZ (dF 3) BV)))) x σ' H' λσ2 H2=>hX σ2 H2 λb H3 =>
  if b=true then uA (gT (uA (gT (gN 0) (gT (gN 1) qp))) (gT (uA (gT (gN 2) (gT (gN 3) qp))) qp)) σ2 H3 239 else 257):=by
 have ll:=a7 Qr;refine bL (xs:=ts.map V.ref) (λi ys σ2 H2=>∃us:z0q,ys=us.map V.ref/\us.length=i/\Paired (λu (b:Be)=>∃v,QL K H2 u ([Sum.inr b.1,Sum.inr b.2.1],.ref v)) us (aW.take i)/\(∃y0 y1 y2 y3,σ2=[y0,y1,y2,y3])/\370)
  ⟨[],rfl,rfl,.nil,⟨none,none,none,none,rfl⟩,af hD _,ae⟩ (λi ys σ2 H2 _ h=>?_) (λi x ys σ2 H2 ex h=>?_) (λys σ2 H2 h=>?_)
 .obtain⟨_,_,_,_,_,sm,_⟩:=h;exact sm.seq hb
 .obtain⟨us,rfl,hu,hp,⟨y0,y1,y2,y3,rfl⟩,sm,hd⟩:=h;rw [aX] at ex;obtain⟨r,er,rfl⟩:=bT.mp ex;have lr:=(bu.mp er).1;obtain⟨b,e1⟩:∃b,aW[i]?=some b:=⟨aW[i]'∅,cZ ∅⟩;obtain⟨r',TN,v1⟩:=Paired.at_ Qr i b e1;rw [er] at TN;cases TN;have li:=(bu.mp e1).1;refine⟨r,_,rfl,sm.tup v1,rfl,_,_,rfl,_,_,rfl,_,_,rfl,_,_,rfl,rfl,?_⟩;refine uJ ?_;refine⟨_,rfl,_,rfl,qo,λk hk=>⟨_,rfl,_,rfl,qo,λv hv=>⟨qo,λu Vi=>?_⟩⟩⟩;have s3:=(af hk (.tup [V.str b.1,V.str b.2.1])).trans ((af hv (.tup [V.int (b.2.2.1:Int),V.int (b.2.2.2:Int)])).trans (af Vi (.tup [.ref k,.ref v])));have ek:=((af hv (.tup [V.int (b.2.2.1:Int),V.int (b.2.2.2:Int)])).trans (af Vi (.tup [.ref k,.ref v]))) k _ ae;have eu:aZ K (upd (upd (upd H2 k (.tup [V.str b.1,V.str b.2.1])) v (.tup [V.int (b.2.2.1:Int),V.int (b.2.2.2:Int)])) u (.tup [.ref k,.ref v])) u [.ref k,.ref v]:=aZ.of ae;generalize upd (upd (upd H2 k (.tup [V.str b.1,V.str b.2.1])) v (.tup [V.int (b.2.2.1:Int),V.int (b.2.2.2:Int)])) u (.tup [.ref k,.ref v])=H4 at s3 ek eu;have Dj:=s3 _ _ hd;refine⟨Dj,219,us++[u],by rw [ba];rfl,by rw [a8,hu];rfl,?_,⟨_,_,_,_,rfl⟩,?_,ae⟩
  .rw [cK,e1];have kD:k≠D:=λz=>by rw [z,Dj] at ek;cases ek
   refine fc (Paired.b9 hp λu' b' bI=>?_) ⟨v,k,bz Dj eu,by rw [aj kD];exact ek⟩;obtain⟨v',bb,p1,p2⟩:=bI;exact⟨v',bb,bz Dj (s3.tup p1),by rw [aj (λz=>by rw [z,hd] at p2;cases p2)];exact s3 _ _ p2⟩
  intro c o hc;rw [aj (λz=>by rw [z,hD] at hc;cases hc)];exact s3 _ _ (sm c o hc)
 obtain⟨us,rfl,hu,hp,_,sm,hd⟩:=h;rw [ar,ll,b0] at hp;exact q us H2 sm hd hp
theorem G4 {K:bp}{H:Hp}:∀{us:z0q}{aW:List Be},Paired (λu (b:Be)=>∃v,QL K H u ([Sum.inr b.1,Sum.inr b.2.1],.ref v)) us aW->∃kvs,Paired (QL K H) us kvs
 | _,_,.nil=>⟨[],.nil⟩
 | _,_,.cons ⟨v,h⟩ t=>let ⟨kvs,p⟩:=G4 t;⟨_::kvs,.cons h p⟩
end L2
namespace hJ
open PySem L2 M11
def Tab.s2 {T T1 T2:Addr}{p p1 p2:Pos}{q q1 q2:Str}{H H':Hp}(h:Tab T p q H)(s:mj T1 T2 H H')(t1:Tab T1 p1 q1 H)(t2:Tab T2 p2 q2 H)(n1:T≠T1)(n2:T≠T2):Tab T p q H':=by
 obtain⟨ps,a,b,c⟩:=h;obtain⟨U6,b1,_⟩:=t1;obtain⟨ps2,b2,_⟩:=t2;refine⟨ps,s _ _ n1 n2 a,b,c.imp id ?_⟩;rintro⟨c',e,g⟩;exact⟨c',e,s _ _ (λz=>by rw [z,b1] at g;cases g) (λz=>by rw [z,b2] at g;cases g) g⟩
def kM {T a C dx:Addr}{pos:Pos}{qu:Str}{H:Hp}{fs:List (Str×V)}{o:HO}(h:Tab T pos qu H)(ha:H a=some (.ins C dx fs)):Tab T pos qu (upd H a o):=by
 obtain⟨ps,p,r,c⟩:=h;refine⟨ps,by rw [aj (λz=>by rw [z,ha] at p;cases p)];exact p,r,c.imp id ?_⟩;rintro⟨c',e,g⟩;exact⟨c',e,by rw [aj (λz=>by rw [z,ha] at g;cases g)];exact g⟩
def Kp (H H':Hp):Prop:=∀b o,H b=some o->(∀ps,o≠.uu ps)->H' b=some o
def Kp.of {H H':Hp}(s:aD H H'):Kp H H':=λb o h _=>s b o h
def Kp.of2 {T1 T2:Addr}{p1 p2:Pos}{q1 q2:Str}{H H':Hp}(s:mj T1 T2 H H')(t1:Tab T1 p1 q1 H)(t2:Tab T2 p2 q2 H):Kp H H':=λc o hc hn=>by
 obtain⟨U6,b1,_⟩:=t1;obtain⟨ps2,b2,_⟩:=t2;exact s c o (λz=>by rw [z,b1] at hc;cases hc;exact hn _ rfl) (λz=>by rw [z,b2] at hc;cases hc;exact hn _ rfl) hc
section
theorem Kp.lst {H H':Hp}(k:Kp H H'){a:Addr}{xs:List V}(h:H a=some (.lst xs)):H' a=some (.lst xs):=k a _ h (λ_ z=>by cases z)
def Kp.tup {H H':Hp}(k:Kp H H'){a:Addr}{xs:List V}(h:aZ K H a xs):aZ K H' a xs:=by
 rcases h with (h | ⟨u,h⟩) | h
 .exact .inl (.inl (k _ _ h (λ_ z=>by cases z)))
 .exact .inl (.inr ⟨u,k _ _ h (λ_ z=>by cases z)⟩)
 exact .inr h
def Kp.seq {H H':Hp}(k:Kp H H'){a:Addr}{xs:List V}(h:aI K H a xs):aI K H' a xs:=by
 rcases h with (h | ⟨u,h⟩) | h
 .exact .inl (.inl (k _ _ h (λ_ z=>by cases z)))
 .exact .inl (.inr ⟨u,k _ _ h (λ_ z=>by cases z)⟩)
 exact .inr h
theorem Kp.aa {H H':Hp}(k:Kp H H'){rs:z0q}{aa:88}(h:bM K H rs aa):bM K H' rs aa:=h.keep λ_ _ z=>k.tup z
abbrev A0:Stmt:=ME sLT 0
structure LC (K:bp)(C:Addr):Prop where
 cls:Fi K C
 a1:d0 K C "rules"
 a2:d0 K C "empty"
 a3:d0 K C "least"
 a4:d0 K C "hollow"
 a5:d0 K C "beginnings"
structure FH (C3 T1 T3:Addr)(H0 H:Hp)(a dx:Addr)(fs:List (Str×V)):Prop where
 sm:mj T1 T3 H0 H
 ia:H a=some (.ins C3 dx fs)
 fa:H0 a=none
 t1:Tab T1 sX.2.2.2 Ag H
 t3:Tab T3 posB JD H
 o1:Tab T1 sX.2.2.2 Ag H0
 o3:Tab T3 posB JD H0
def FH.kp {C3 T1 T3 a dx:Addr}{H0 H:Hp}{fs:List (Str×V)}(h:FH C3 T1 T3 H0 H a dx fs):Kp H0 H:=Kp.of2 h.sm h.o1 h.o3
def FH.set {C3 T1 T3 a dx:Addr}{H0 H:Hp}{fs:List (Str×V)}(h:FH C3 T1 T3 H0 H a dx fs)(MZ:List (Str×V)):FH C3 T1 T3 H0 (upd H a (.ins C3 dx MZ)) a dx MZ :=
 ⟨λb o n1 n3 hb=>by rw [aj (λz=>by rw [z,h.fa] at hb;cases hb)];exact h.sm b o n1 n3 hb,ae,h.fa,kM h.t1 h.ia,kM h.t3 h.ia,h.o1,h.o3⟩
def FH.next {C3 T1 T3 a dx:Addr}{H0 H H':Hp}{fs:List (Str×V)}(h:FH C3 T1 T3 H0 H a dx fs)(s:aD H H'):FH C3 T1 T3 H0 H' a dx fs :=
 ⟨λb o n1 n3 hb=>s _ _ (h.sm b o n1 n3 hb),s _ _ h.ia,h.fa,h.t1.same s,h.t3.same s,h.o1,h.o3⟩
def FH.RT {C3 T1 T3 a dx:Addr}{H0 H H':Hp}{fs:List (Str×V)}(h:FH C3 T1 T3 H0 H a dx fs)(s:mj T1 T3 H H')(t1:Tab T1 sX.2.2.2 Ag H')(t3:Tab T3 posB JD H'):FH C3 T1 T3 H0 H' a dx fs :=
 ⟨λb o n1 n3 hb=>s _ _ n1 n3 (h.sm b o n1 n3 hb),Kp.of2 s h.t1 h.t3 _ _ h.ia (λ_ z=>by cases z),h.fa,t1,t3,h.o1,h.o3⟩
def CJ (K:bp)(C C3 T1 T3:Addr):Sp:=λvs H Q _=>∃(H0 Hb:Hp)(a dx R x e d bg:Addr)(rs:z0q)(aa:88)(kE:93)(aL:z0h)(ps:z0f)(aW:List Be),vs=[.ref a,.ref R,.ref x]/\aD H0 H/\H0 a=none/\H a=some (.ins C3 dx [])/\aI K H0 R 153/\bM K H0 rs aa /\
 aa.length < 64/\329/\(∀g,dZ M11.bl aa (zB aa) g->iI M11.bl aa g->∀h∈hd aa,∃n,g h=some n/\n<=60)/\oC K C Hb H0 x e d bg kE aL ps aW/\uj aa aL/\aW.length<=80000/\Tab T1 sX.2.2.2 Ag H0/\Tab T3 posB JD H0/\T1≠T3 /\
 ∀H',mj T1 T3 H0 H'->Tab T1 sX.2.2.2 Ag H'->Tab T3 posB JD H'->Q .fu H'
def Kg:aK ["self","rules","begin_table"] ["self","rules","begin_table"] (ay A0):=163
def Hu {C C3 T1 T3:Addr}(F:iz K "__init__" "LeastTrees.__init__" A0 f fd)(T:Txt mg)(B:BC K C)(L:LC K C3)(GL:aF P w K mg base 4 "least_by_part" ["rules"] (oX K T1 T3))(GE:aF P w K mg base 4 "empty_by_name" ["rules","empties"] (vc K)) :
  bR P w K mg base fI 5 f fd ["self","rules","begin_table"] (CJ K C C3 T1 T3):=by
 refine F.ok Kg 184 186
 .obtain⟨H0,Hb,a,dx,R,x,e,d,bg,rs,aa,kE,aL,ps,aW,rfl,_⟩:=h;rfl
 obtain⟨H0,Hb,a,dx,R,x,e,d,bg,rs,aa,kE,aL,ps,aW,rfl,s0,f0,ea,hR,cM,bO,h8,IA,S,emp,Oz,t1,t3,nT,q⟩:=h;have hu:=rE (Nat.add_le_add_left (by decide:2<=64) _) hr.units;refine⟨_,ag (gX 91 (pv 1) rfl)
  (ag (gX 91 (dA (pv 2) rfl) rfl)
  (ag (gX 91 (bC GL hr rfl (ab (pv 1) ak)) rfl)
  (ag (gX 91 (bC GE hr rfl (ab (pv 1) (ab (dA (pv 2) rfl) ak))) rfl)
  (ao (gX 91 (bN (zT rfl hu) rfl T.Dp gC (ab (aT ["name","word","number","place"] [] rfl (aR (dA (pv 2) rfl)) 162 nofun rfl nofun
   (λ_ _ _ _ _=>di (n:=4) K rfl (az (aq (i:=0) (show (["name","word","number","place"]:z0t).Nodup by decide +kernel) rfl 90) (az (aq (i:=1) (show (["name","word","number","place"]:z0t).Nodup by decide +kernel) rfl 90) (az (aq (i:=2) (show (["name","word","number","place"]:z0t).Nodup by decide +kernel) rfl 90) (az (aq (i:=3) (show (["name","word","number","place"]:z0t).Nodup by decide +kernel) rfl 90) bE))))) 220
   (λ_ _ _ _ _=>bX (ab (bX (ab 91 (ab (pv 1) ak))) (ab (bX (ab (pv 2) (ab (pv 3) ak))) ak)))) ak)) rfl))))),?_⟩
 nofun
 have S0:FH C3 T1 T3 H0 H a dx []:=⟨λb o _ _ hb=>s0 b o hb,ea,f0,t1.same s0,t3.same s0,t1,t3⟩;obtain⟨e1,te,⟨QG,JN,VG,leb⟩,ee1,evb,_⟩:=S.em;obtain⟨aaJ,aaD,TJ,l1,l2,_⟩:=S.ia;rw [VG] at TJ;cases TJ;obtain⟨tb,ebg,Qr⟩:=S.lb;have lets:=emp.len;refine⟨_,rfl,_,rfl,a,C3,dx,[],rfl,S0.ia,L.cls,L.a1,(by show 0 < 1000;decide),?_⟩;have S1:=S0.set (dW "rules" (.ref R) []);generalize Vu:dW "rules" (.ref R) []=VE at S1;generalize upd H a (.ins C3 dx VE)=H1 at S1;have x1:H1 x=some (.ins C QG JN):=S1.kp _ _ VG (λ_ z=>by cases z);refine⟨_,rfl,x,C,QG,JN,_,rfl,x1,B.cls,B.a2,l1,_,rfl,a,C3,dx,VE,rfl,S1.ia,L.cls,L.a2,(by rw [<-Vu];show 1 < 1000;decide),?_⟩;have S2:=S1.set (dW "empty" (.ref e) VE);generalize OS:dW "empty" (.ref e) VE=qR at S2;generalize upd H1 a (.ins C3 dx qR)=H2 at S2;refine⟨_,rfl,R,rs,aa,rfl,S2.kp.seq hR,S2.kp.aa cM,bO,h8,IA,S2.t1,S2.t3,nT,λdl kl H3 fdl s3 Af t33 edl kdl=>?_⟩;have S3:=S2.RT s3 Af t33;refine⟨_,rfl,a,C3,dx,qR,rfl,S3.ia,L.cls,L.a3,(by rw [<-OS,<-Vu];show 2 < 1000;decide),?_⟩;have S4:=S3.set (dW "least" (.ref dl) qR);generalize hf4:dW "least" (.ref dl) qR=Qw at S4;generalize upd H3 a (.ins C3 dx Qw)=H4 at S4;have x4:H4 x=some (.ins C QG JN):=S4.kp _ _ VG (λ_ z=>by cases z);refine⟨_,rfl,_,rfl,x,C,QG,JN,_,rfl,x4,B.cls,B.a1,leb,R,e1,rs,te,aa,aL,rfl,S4.kp.seq hR,S4.kp.aa cM,∅,h8,aI.of (S4.kp.lst ee1),evb.keep λ_ _ z=>S4.kp.tup z,emp,∅,λdh kh H5 fdh s5 edh kdh=>?_⟩;have S5:=S4.next s5;refine⟨_,rfl,a,C3,dx,Qw,rfl,S5.ia,L.cls,L.a4,(by rw [<-hf4,<-OS,<-Vu];show 3 < 1000;decide),?_⟩;have S6:=S5.set (dW "hollow" (.ref dh) Qw);generalize hf6:dW "hollow" (.ref dh) Qw=Aj at S6;generalize upd H5 a (.ins C3 dx Aj)=H6 at S6;have x6:H6 x=some (.ins C QG JN):=S6.kp _ _ VG (λ_ z=>by cases z);have b6:=S6.kp.lst ebg;have v6:Paired (λt (b:Be)=>aZ K H6 t [.str b.1,.str b.2.1,.int (b.2.2.1:Int),.int (b.2.2.2:Int)]) tb aW:=Paired.b9 Qr λ_ _ z=>S6.kp.tup z;refine⟨_,rfl,x,C,QG,JN,_,rfl,x6,B.cls,B.a3,l2,bg,rfl,⟨_,aI.of b6⟩,λD7 Y9=>E2 (aI.of b6) v6 ∅ Y9 λus H7 s7 e7 p7=>?_⟩;obtain⟨kvs,pk⟩:=G4 p7;refine⟨D7,us,kvs,rfl,e7,pk,λdb EG=>?_⟩;have S8:=(S6.next s7).next (af EG (.dT (oq kvs [])));refine⟨_,rfl,a,C3,dx,Aj,rfl,S8.ia,L.cls,L.a5,(by rw [<-hf6,<-hf4,<-OS,<-Vu];show 4 < 1000;decide),?_⟩;have S9:=S8.set (dW "beginnings" (.ref db) Aj);exact q _ S9.sm S9.t1 S9.t3
structure Jv (K:bp)(x qual:Str)(st:Stmt)(f:Addr)(fd:FuncData):Prop where
 ex:∃(oc:Value)(od:z0m)(kV doc pm:Value)(an:z0m)(d6 ct:Value)(yS:z0a)(T:Addr)(o:Obj) (n:Nat),
  fd=PySem.W.fnOf x qual (dH st) (cP st) (ay st) (.ref T) kV doc pm an d6 ct/\K.lookup f=some ⟨oc,od,.func fd,yS⟩/\PySem.W.codeIn K d6 qual=true/\K.lookup T=some o/\o.data=.seq #[.none] n
 kp:PySem.W.keepIn K (.ref f)=true
def Jv.ok {x qual:Str}{st:Stmt}{f:Addr}{fd:FuncData}{N ps:z0t}{k:Nat}{sp:Sp}(F:Jv K x qual st f fd)(S:aK N ps (ay st))(len:∀vs H Q E,sp vs H Q E->vs.length=ps.length)
  (jF:∀(d6:Value)(A:Around)(outer:List Env)(s:Shared)(H:Hp)(vs:List V)(Q:VK)(E:XK),gF k (A.deeper (PyProof.Rows.envOfC qual (ay st) s.heap.objs.size f d6))->sp vs H Q E ->
   ∃t,Cj (pM fI P w K mg base N qual (ay st) f d6 A outer s H E).KW (cP st) t/\t { nx:=λ_ H'=>Q .fu H',rt:=Q } (start N vs) H):bR P w K mg base fI (k+1) f fd ps sp:=by
 obtain⟨oc,od,kV,doc,pm,an,d6,ct,yS,T,o,n,rfl,lk,ym,_⟩:=F.ex;refine IS lk ym S len λA outer s H vs Q E hr Fv=>?_;obtain⟨t,h,q⟩:=jF d6 A outer s H vs Q E hr Fv;exact⟨t,h.KW,q⟩
def II {f:Addr}{fd:FuncData}(F:Jv K "__init__" "Grammar.__init__" xq f fd):Binds K fd ["self","rules","strengths"] [.none]:=by
 obtain⟨oc,od,kV,doc,pm,an,d6,ct,yS,T,o,n,rfl,lk,ym,lT,dT⟩:=F.ex;intro s us KI hl;have uG:us.length=2:=by
  have:(us++[Value.none]).length=3:=hl;rw [a8] at this;exact Nat.succ.inj this
 match us,uG with
 | [u1,u2],_=>exact BindsTo.of_defaults rfl (KI T o lT) dT rfl rfl
structure GC (K:bp)(C:Addr):Prop where
 cls:Fi K C
 a1:d0 K C "rules"
 a2:d0 K C "strengths"
 a3:d0 K C "begin_table"
 a4:d0 K C "standings"
 a5:d0 K C "small_trees"
def StrIn (K:bp)(H:Hp)(sv:V)(ss:z0q)(str:88):Prop:=(sv=.fu/\ss=[]/\str=[])\/∃S,sv=.ref S/\aI K H S (ss.map V.ref)/\bM K H ss str
def GrV (H0 H:Hp)(Cg g:Addr)(rs ss:z0q)(bt:Addr):Prop:=∃gx fs R2 S2,H g=some (.ins Cg gx fs)/\fs.lookup ("rules":Str)=some (.ref R2)/\fs.lookup ("strengths":Str)=some (.ref S2)/\fs.lookup ("begin_table":Str)=some (.ref bt)/\fs.lookup ("start":Str)=none /\
 H R2=some (.lst 153)/\H S2=some (.lst (ss.map V.ref))/\H0 R2=none/\H0 S2=none
def ql (T1 T2 T3:Addr)(H H':Hp):Prop:=∀b o,b≠T1->b≠T2->b≠T3->H b=some o->H' b=some o
structure Dy (T1 T2 T3:Addr)(H:Hp):Prop where
 t1:Tab T1 sX.2.2.2 Ag H
 t2:Tab T2 By.2.2.2 MH H
 t3:Tab T3 posB JD H
 Mz:T1≠T2
 My:T1≠T3
 Mx:T2≠T3
theorem Dy.same {T1 T2 T3:Addr}{H H':Hp}(h:Dy T1 T2 T3 H)(s:aD H H'):Dy T1 T2 T3 H':=⟨h.t1.same s,h.t2.same s,h.t3.same s,h.Mz,h.My,h.Mx⟩
def Dy.FQ {T1 T2 T3 a C dx:Addr}{H:Hp}{fs:List (Str×V)}{o:HO}(h:Dy T1 T2 T3 H)(ha:H a=some (.ins C dx fs)):Dy T1 T2 T3 (upd H a o):=⟨kM h.t1 ha,kM h.t2 ha,kM h.t3 ha,h.Mz,h.My,h.Mx⟩
def Kp.of3 {T1 T2 T3:Addr}{H H':Hp}(s:ql T1 T2 T3 H H')(t:Dy T1 T2 T3 H):Kp H H':=λc o hc hn=>by
 obtain⟨U6,b1,_⟩:=t.t1;obtain⟨ps2,b2,_⟩:=t.t2;obtain⟨ps3,b3,_⟩:=t.t3;exact s c o (λz=>by rw [z,b1] at hc;cases hc;exact hn _ rfl) (λz=>by rw [z,b2] at hc;cases hc;exact hn _ rfl) (λz=>by rw [z,b3] at hc;cases hc;exact hn _ rfl) hc
structure FI (K:bp)(C:Addr)(H:Hp)(a:Addr)(aa:88)(aL:z0h)(aW:List Be):Prop where
 ia:∃dx fs e1 bg,H a=some (.ins C dx fs)/\fs.lookup ("empties":Str)=some (.ref e1)/\fs.lookup ("begins":Str)=some (.ref bg)/\(∃ts,H e1=some 222/\oy K H ts aL) /\
  ∃ts,H bg=some 222/\Paired (λt (b:Be)=>aZ K H t [.str b.1,.str b.2.1,.int (b.2.2.1:Int),.int (b.2.2.2:Int)]) ts aW
 emp:uj aa aL
 mW:qE aa aa.length aL
 Jg:ux aa (hd aa) 328 aW
 zU:Ab aa (hd aa) 328 aa.length aW
 bs:∃e d bg kE ps,oC K C (λ_=>none) H a e d bg kE aL ps aW/\ps.map 87=hd aa/\∀z,(a0 kE 150).isSome=decide (z∈aL.map 87)
def Cd {C a e d bg:Addr}{H0 H H':Hp}{kE:93}{aL:z0h}{ps:z0f}{aW:List Be}(h:oC K C H0 H a e d bg kE aL ps aW)(k1:∀dx fs,H a=some (.ins C dx fs)->H' a=some (.ins C dx fs))(k2:∀b xs,H b=some (.lst xs)->H' b=some (.lst xs))(k3:∀b xs,aZ K H b xs->aZ K H' b xs)(k4:∀b xs,H b=some (.dK xs)->H' b=some (.dK xs)):oC K C (λ_=>none) H' a e d bg kE aL ps aW:=by
 refine⟨λ_ _ z=>(by cases z),?_,k4 _ _ h.he,k4 _ _ h.hd,h.n1,h.n2,λp hp=>?_,?_,rfl,?_⟩
 .obtain⟨dx,fs,q,r,N4,N3,N1,N0⟩:=h.ia;exact⟨dx,fs,k1 _ _ q,r,N4,N3,N1,N0⟩
 .obtain⟨⟨kvs,q,r⟩,t1,t2⟩:=h.dk p hp;exact⟨⟨kvs,k4 _ _ q,r⟩,rfl,t2⟩
 .obtain⟨ts,q,r⟩:=h.lb;exact⟨ts,k2 _ _ q,Paired.b9 r λ_ _ z=>k3 _ _ z⟩
 obtain⟨e1,ts,⟨dx,fs,q1,q2⟩,q3,q4,q5⟩:=h.em;exact⟨e1,ts,⟨dx,fs,k1 _ _ q1,q2⟩,k2 _ _ q3,q4.keep k3,q5⟩
def FI.mv {C a:Addr}{H H':Hp}{aa:88}{aL:z0h}{aW:List Be}(h:FI K C H a aa aL aW)(k1:∀dx fs,H a=some (.ins C dx fs)->H' a=some (.ins C dx fs))(k2:∀b xs,H b=some (.lst xs)->H' b=some (.lst xs))(k3:∀b xs,aZ K H b xs->aZ K H' b xs)(k4:∀b xs,H b=some (.dK xs)->H' b=some (.dK xs)):FI K C H' a aa aL aW:=by
 obtain⟨dx,fs,e1,bg,q1,q2,q3,⟨t1,q4,q5⟩,t2,q6,q7⟩:=h.ia;exact⟨⟨dx,fs,e1,bg,k1 _ _ q1,q2,q3,⟨t1,k2 _ _ q4,q5.keep k3⟩,t2,k2 _ _ q6,Paired.b9 q7 λ_ _ z=>k3 _ _ z⟩,h.emp,h.mW,h.Jg,h.zU,(let ⟨e,d,bg,kE,ps,b,m,v⟩:=h.bs;⟨e,d,bg,kE,ps,Cd b k1 k2 k3 k4,m,v⟩)⟩
def FI.kp {C a:Addr}{H H':Hp}{aa:88}{aL:z0h}{aW:List Be}(h:FI K C H a aa aL aW)(k:Kp H H'):FI K C H' a aa aL aW:=h.mv (λ_ _ z=>k _ _ z (λ_ y=>by cases y)) (λ_ _ z=>k.lst z) (λ_ _ z=>k.tup z) λ_ _ z=>k _ _ z (λ_ y=>by cases y)
def FI.same {C a:Addr}{H H':Hp}{aa:88}{aL:z0h}{aW:List Be}(h:FI K C H a aa aL aW)(k:aD H H'):FI K C H' a aa aL aW:=h.kp (Kp.of k)
def PD {C:Addr}{H0 H:Hp}{a e d bg:Addr}{kE:93}{aa:88}{aL:z0h}{ps:z0f}{aW:List Be}(h:oC K C H0 H a e d bg kE aL ps aW)(emp:uj aa aL)(mW:qE aa aa.length aL)(Jg:ux aa (hd aa) 328 aW)(zU:Ab aa (hd aa) 328 aa.length aW)(EC:ps.map 87=hd aa)(hkE:∀z,(a0 kE 150).isSome=decide (z∈aL.map 87)):FI K C H a aa aL aW:=by
 obtain⟨dx,fs,q1,_,q3,_⟩:=h.ia;obtain⟨e1,t1,⟨Pt,qR,q4,q5⟩,q6,q7,_⟩:=h.em;obtain⟨t2,q8,q9⟩:=h.lb;rw [q1] at q4;cases q4;exact⟨⟨dx,fs,e1,bg,q1,q5,q3,⟨t1,q6,q7⟩,t2,q8,q9⟩,emp,mW,Jg,zU,e,d,bg,kE,ps,Cd h (λ_ _ z=>z) (λ_ _ z=>z) (λ_ _ z=>z) (λ_ _ z=>z),EC,hkE⟩
def CK (K:bp)(Cg C T1 T2 T3:Addr):Sp:=λvs H Q _=>∃(H0:Hp)(g gx R:Addr)(sv:V)(rs ss:z0q)(aa str:88)(rk:Str->Nat)(b:Str->Int),vs=[.ref g,.ref R,sv]/\aD H0 H/\H0 g=none/\H g=some (.ins Cg gx [])/\aI K H0 R 153/\bM K H0 rs aa/\aa.length < 64/\329/\aa≠[] /\
 StrIn K H0 sv ss str/\str.length<=1000/\(∀ru∈str,ru.2.length<=8)/\(str.flatMap (·.2)).Nodup/\Good aa rk b/\Dy T1 T2 T3 H0 /\
 ∀(bt:Addr)(H':Hp),ql T1 T2 T3 H0 H'->Dy T1 T2 T3 H'->GrV H0 H' Cg g rs ss bt->(∃aL aW,FI K C H' bt aa aL aW)->Q .fu H'
def oC.FQ {C:Addr}{H0 H:Hp}{a e d bg:Addr}{kE:93}{aL:z0h}{ps:z0f}{aW:List Be}{g Cg gx:Addr}{fs MZ:List (Str×V)}(h:oC K C H0 H a e d bg kE aL ps aW)(hg:H0 g=some (.ins Cg gx fs))(na:a≠g) :
  oC K C (upd H0 g (.ins Cg gx MZ)) (upd H g (.ins Cg gx MZ)) a e d bg kE aL ps aW:=by
 have Lo:=h.sm _ _ hg;have up:∀c o,c≠g->H c=some o->upd H g (.ins Cg gx MZ) c=some o:=λc o n q=>by rw [aj n];exact q
 refine⟨λc o hc=>?_,?_,up _ _ (λz=>by have:=h.he;rw [z,Lo] at this;cases this) h.he,up _ _ (λz=>by have:=h.hd;rw [z,Lo] at this;cases this) h.hd,h.n1,h.n2,λp hp=>?_,?_,?_,?_⟩
 .by_cases z:c=g
  .rw [z,ae] at hc ⊢;exact hc
  rw [aj z] at hc ⊢;exact h.sm _ _ hc
 .obtain⟨dx,fs,q,r,N4,N3,N1,N0⟩:=h.ia;exact⟨dx,fs,up _ _ na q,r,N4,N3,N1,N0⟩
 .obtain⟨⟨kvs,q,r⟩,t1,t2⟩:=h.dk p hp;exact⟨⟨kvs,up _ _ (λz=>by rw [z,Lo] at q;cases q) q,r⟩,by rw [aj (λz=>by rw [z,hg] at t1;cases t1)];exact t1,t2⟩
 .obtain⟨ts,q,r⟩:=h.lb;exact⟨ts,up _ _ (λz=>by rw [z,Lo] at q;cases q) q,Paired.b9 r λ_ _ z=>gU Lo z⟩
 .have t1:=h.fb;rw [aj (λz=>by rw [z,hg] at t1;cases t1)];exact t1
 obtain⟨e1,ts,⟨dx,fs,q1,q2⟩,q3,q4,q5⟩:=h.em;exact⟨e1,ts,⟨dx,fs,up _ _ na q1,q2⟩,up _ _ (λz=>by rw [z,Lo] at q3;cases q3) q3,q4.keep λ_ _ z=>gU Lo z,q5⟩
def Kj:aK ["self","rules","strengths"] ["self","rules","strengths"] (ay xq):=163
def Hz {Cg C C3 T1 T2 T3 fB fL:Addr}{fdB fdL:FuncData}(F:Jv K "__init__" "Grammar.__init__" xq f fd)(T:Txt mg)(G:GC K Cg)(GR:aF P w K mg base 6 "refuse_faults" ["rules","strengths"] (si K T1 T2))(GS:aF P w K mg base 6 "standings_by_part" ["rules"] (Ml K))
  (FB:bR P w K mg base fI 5 fB fdB ["self","rules"] (CM K C))(MB:Mk K C fB)(BB:Binds K fdB ["self","rules"] [])(mB:mg "BeginTable"=some (.ref C))
  (FL:bR P w K mg base fI 5 fL fdL ["self","rules","begin_table"] (CJ K C C3 T1 T3))(ML:Mk K C3 fL)(BL:Binds K fdL ["self","rules","begin_table"] [])(mL:mg "LeastTrees"=some (.ref C3)):bR P w K mg base fI 7 f fd ["self","rules","strengths"] (CK K Cg C T1 T2 T3):=by
 refine F.ok Kj 184 186
 .obtain⟨H0,g,gx,R,sv,rs,ss,aa,str,rk,b,rfl,_⟩:=h;rfl
 obtain⟨H0,g,gx,R,sv,rs,ss,aa,str,rk,b,rfl,s0,f0,eg,hR,cM,bO,h8,jX,yl,Yl,Yr,Yq,gd,Y4,q⟩:=h;refine⟨_,ag (gX 91 (bN gq rfl T.lst gB (ab (pv 1) ak)) rfl)
  (ag (ik (gX 91 (kQ (fC (N_ (pv 2))) (bK ak) (bN gq rfl T.lst gB (ab (pv 2) ak))) rfl))
  (ag (cU (bC GR hr rfl (ab (dA 91 rfl) (ab (dA 91 rfl) ak))))
  (ag (gX 91 (bC GS hr rfl (ab (dA 91 rfl) ak)) rfl)
  (ag (gX 91 (xC MB FB hr rfl mB BB .nil lW (ab (dA 91 rfl) ak)) rfl)
  (ao (gX 91 (xC ML FL hr rfl mL BL .nil lW (ab (dA 91 rfl) (ab (dA 91 rfl) ak))) rfl)))))),?_⟩
 nofun
 refine⟨_,rfl,R,_,rfl,.inl (s0.seq hR),λR2 JL=>?_⟩;have Zy:=af JL (.lst 153) _ _ eg;have tN:upd H R2 (.lst 153) R2=some (.lst 153):=ae;have s01:=s0.trans (af JL (.lst 153));generalize upd H R2 (.lst 153)=H1 at Zy tN s01;refine⟨_,rfl,g,Cg,gx,[],rfl,Zy,G.cls,G.a1,(by show 0 < 1000;decide),?_⟩;generalize n8:dW "rules" (.ref R2) []=qR;have QA:upd H1 g (.ins Cg gx qR) R2=some (.lst 153):=by rw [aj (λz=>by rw [z,Zy] at tN;cases tN)];exact tN
 have Gz:aD H0 (upd H1 g (.ins Cg gx qR)):=λc o hc=>by rw [aj (λz=>by rw [z,f0] at hc;cases hc)];exact s01 c o hc
 have VO:upd H1 g (.ins Cg gx qR) g=some (.ins Cg gx qR):=ae;generalize upd H1 g (.ins Cg gx qR)=H2 at QA Gz VO;refine⟨λσ H3=>σ=[aE g,aE R,some sv]/\∃S2 fs,aD H0 H3/\H3 g=some (.ins Cg gx fs)/\fs=dW "strengths" (.ref S2) qR/\H3 R2=some (.lst 153)/\H3 S2=some (.lst (ss.map V.ref))/\H0 S2=none,?_,?_⟩
 .have fin:∀S2,H2 S2=none->(λH3=>∃S2 fs,aD H0 H3/\H3 g=some (.ins Cg gx fs)/\fs=dW "strengths" (.ref S2) qR/\H3 R2=some (.lst 153)/\H3 S2=some (.lst (ss.map V.ref))/\H0 S2=none) (upd (upd H2 S2 (.lst (ss.map V.ref))) g (.ins Cg gx (dW "strengths" (.ref S2) qR)))/\upd H2 S2 (.lst (ss.map V.ref)) g=some (.ins Cg gx qR):=λS2 MY=>by
   have sl:=af MY (.lst (ss.map V.ref));have eS:upd H2 S2 (.lst (ss.map V.ref)) S2=some (.lst (ss.map V.ref)):=ae;have TY:=sl _ _ VO;refine⟨⟨S2,_,λc o hc=>?_,ae,rfl,?_,?_,Gz.free MY⟩,TY⟩
   .rw [aj (λz=>by rw [z,f0] at hc;cases hc)];exact sl _ _ (Gz c o hc)
   .rw [aj (λz=>by rw [z,VO] at QA;cases QA)];exact sl _ _ QA
   rw [aj (λz=>by rw [z,VO] at MY;cases MY)];exact eS
  rcases yl with ⟨rfl,rfl,rfl⟩ | ⟨S,rfl,hS,Vk⟩
  .refine⟨_,rfl,_,rfl,?_⟩;refine BI ?_;refine⟨uq,λS2 MY=>?_⟩;obtain⟨x1,x2⟩:=fin S2 MY;exact⟨_,rfl,g,Cg,gx,qR,rfl,x2,G.cls,G.a2,(by rw [<-n8];show 1 < 1000;decide),rfl,x1⟩
  refine⟨_,rfl,_,rfl,?_⟩;refine iY ?_;refine⟨_,rfl,S,_,rfl,.inl (Gz.seq hS),λS2 MY=>?_⟩;obtain⟨x1,x2⟩:=fin S2 MY;exact⟨_,rfl,g,Cg,gx,qR,rfl,x2,G.cls,G.a2,(by rw [<-n8];show 1 < 1000;decide),rfl,x1⟩
 rintro σ H3 ⟨rfl,S2,JO,DQ,TY,qx,er3,es3,fS2⟩;have lk1:JO.lookup ("rules":Str)=some (.ref R2):=by rw [qx,<-n8];rfl
 have Vc:JO.lookup ("strengths":Str)=some (.ref S2):=by rw [qx,<-n8];rfl
 have Yn:bM K H3 ss str:=by
  rcases yl with ⟨_,rfl,rfl⟩ | ⟨S,_,_,Vk⟩
  .exact .nil
  exact Vk.same DQ
 have Af:=Y4.same DQ;refine⟨_,rfl,g,Cg,gx,JO,_,rfl,TY,G.cls,G.a1,lk1,_,rfl,g,Cg,gx,JO,_,rfl,TY,G.cls,G.a2,Vc,R2,S2,rs,ss,aa,str,rk,b,rfl,aI.of er3,cM.same DQ,∅,h8,jX,aI.of es3,Yn,Yl,Yr,Yq,gd,Af.t1,Af.t2,Af.Mz,λH4 U1 t14 t24=>?_⟩;have K9:=Kp.of2 U1 Af.t1 Af.t2;have t4:Dy T1 T2 T3 H4:=⟨t14,t24,Tab.s2 Af.t3 U1 Af.t1 Af.t2 Af.My.symm Af.Mx.symm,Af.Mz,Af.My,Af.Mx⟩;have S04:ql T1 T2 T3 H0 H4:=λc o n1 n2 _ hc=>U1 c o n1 n2 (DQ c o hc);have eg4:=K9 _ _ TY (λ_ z=>by cases z);have er4:=K9.lst er3;have es4:=K9.lst es3;have SI:bM K H4 rs aa:=K9.aa (cM.same DQ);clear t14 t24 U1 Af;refine⟨_,rfl,g,Cg,gx,JO,_,rfl,eg4,G.cls,G.a1,lk1,R2,rs,aa,rfl,aI.of er4,SI,∅,h8,λds H5 fds yM=>?_⟩;have IZ:=yM _ _ eg4;have er5:=yM _ _ er4;have es5:=yM _ _ es4;have Yu:=SI.same yM;have t5:=t4.same yM;have S05:ql T1 T2 T3 H0 H5:=λc o n1 n2 n3 hc=>yM _ _ (S04 c o n1 n2 n3 hc);refine⟨_,rfl,g,Cg,gx,JO,rfl,IZ,G.cls,G.a4,(by rw [qx,<-n8];show 2 < 1000;decide),?_⟩;generalize xQ:dW "standings" (.ref ds) JO=Aj;have Xn:∀{Hx:Hp}{fx fy:List (Str×V)},Hx g=some (.ins Cg gx fx)->ql T1 T2 T3 H0 Hx->ql T1 T2 T3 H0 (upd Hx g (.ins Cg gx fy)):=λ{Hx fx fy} hg hs c o n1 n2 n3 hc=>by
  rw [aj (λz=>by rw [z,f0] at hc;cases hc)];exact hs c o n1 n2 n3 hc
 have Ou:∀{Hx:Hp}{fx fy:List (Str×V)}{b:Addr}{xs:List V},Hx g=some (.ins Cg gx fx)->Hx b=some (.lst xs)->upd Hx g (.ins Cg gx fy) b=some (.lst xs):=λ{Hx fx fy b xs} hg hb=>by
  rw [aj (λz=>by rw [z,hg] at hb;cases hb)];exact hb
 have S06:=Xn (fy:=Aj) IZ S05;have Zt:=Ou (fy:=Aj) IZ er5;have es6:=Ou (fy:=Aj) IZ es5;have OI:bM K (upd H5 g (.ins Cg gx Aj)) rs aa:=Yu.keep λ_ _ z=>gU IZ z;have t6:Dy T1 T2 T3 (upd H5 g (.ins Cg gx Aj)):=t5.FQ IZ;have JP:upd H5 g (.ins Cg gx Aj) g=some (.ins Cg gx Aj):=ae;generalize upd H5 g (.ins Cg gx Aj)=H6 at S06 Zt es6 OI t6 JP;have lk6:Aj.lookup ("rules":Str)=some (.ref R2):=by rw [<-xQ,qx,<-n8];rfl
 refine⟨_,rfl,g,Cg,gx,Aj,_,rfl,JP,G.cls,G.a1,lk6,λx dx hx hdx ndx=>?_⟩;have sx:aD H6 (upd (upd H6 dx (.own x)) x (.ins C dx [])):=(af hdx _).trans (af (by rw [aj ndx.symm];exact hx) _);refine⟨H6,x,dx,R2,rs,aa,rfl,sx,hx,ae,aI.of Zt,OI,∅,h8,λe d bg kE aL ps aW H7 S7 m7 emp mW vE Jg zU=>⟨rfl,?_⟩⟩;have QB:=S7.sm _ _ JP;have er7:=S7.sm _ _ Zt;have es7:=S7.sm _ _ es6;have t7:=t6.same S7.sm;have Yt:=OI.same S7.sm;have S07:ql T1 T2 T3 H0 H7:=λc o n1 n2 n3 hc=>S7.sm _ _ (S06 c o n1 n2 n3 hc);refine⟨_,rfl,g,Cg,gx,Aj,rfl,QB,G.cls,G.a3,(by rw [<-xQ,qx,<-n8];show 3 < 1000;decide),?_⟩;generalize BQ:dW "begin_table" (.ref x) Aj=BX;have S08:=Xn (fy:=BX) QB S07;have Zs:=Ou (fy:=BX) QB er7;have es8:=Ou (fy:=BX) QB es7;have SH:bM K (upd H7 g (.ins Cg gx BX)) rs aa:=Yt.keep λ_ _ z=>gU QB z;have t8:Dy T1 T2 T3 (upd H7 g (.ins Cg gx BX)):=t7.FQ QB;have VN:upd H7 g (.ins Cg gx BX) g=some (.ins Cg gx BX):=ae;have B8:oC K C (upd H6 g (.ins Cg gx BX)) (upd H7 g (.ins Cg gx BX)) x e d bg kE aL ps aW:=S7.FQ JP (λz=>by rw [z,JP] at hx;cases hx);generalize upd H7 g (.ins Cg gx BX)=H8 at S08 Zs es8 SH t8 VN B8;have Qf:BX.lookup ("rules":Str)=some (.ref R2):=by rw [<-BQ,<-xQ,qx,<-n8];rfl
 have lb8:BX.lookup ("begin_table":Str)=some (.ref x):=by rw [<-BQ,<-xQ,qx,<-n8];rfl
 refine⟨_,rfl,g,Cg,gx,BX,_,rfl,VN,G.cls,G.a1,Qf,_,rfl,g,Cg,gx,BX,_,rfl,VN,G.cls,G.a3,lb8,λy dy hy hdy ndy=>?_⟩;have sy:aD H8 (upd (upd H8 dy (.own y)) y (.ins C3 dy [])):=(af hdy _).trans (af (by rw [aj ndy.symm];exact hy) _);have Oz:=Jg.len ∅ h8;refine⟨H8,_,y,dy,R2,x,e,d,bg,rs,aa,kE,aL,ps,aW,rfl,sy,hy,ae,aI.of Zs,SH,bO,h8,gd.least,B8,emp,Oz,t8.t1,t8.t3,t8.My,λH9 WW WL t39=>⟨rfl,?_⟩⟩;have K8:=Kp.of2 WW t8.t1 t8.t3;have M7:=K8 _ _ VN (λ_ z=>by cases z);have er9:=K8.lst Zs;have es9:=K8.lst es8;have t9:Dy T1 T2 T3 H9:=⟨WL,Tab.s2 t8.t2 WW t8.t1 t8.t3 t8.Mz.symm t8.Mx,t39,t8.Mz,t8.My,t8.Mx⟩;have S09:ql T1 T2 T3 H0 H9:=λc o n1 n2 n3 hc=>WW _ _ n1 n3 (S08 c o n1 n2 n3 hc);refine⟨_,rfl,g,Cg,gx,BX,rfl,M7,G.cls,G.a5,(by rw [<-BQ,<-xQ,qx,<-n8];show 4 < 1000;decide),?_⟩;refine q x _ (Xn M7 S09) (t9.FQ M7) ⟨gx,_,R2,S2,ae,?_,?_,?_,?_,Ou M7 er9,Ou M7 es9,s0.free JL,fS2⟩ ⟨aL,aW,?_⟩
 .rw [<-BQ,<-xQ,qx,<-n8];rfl
 .rw [<-BQ,<-xQ,qx,<-n8];rfl
 .rw [<-BQ,<-xQ,qx,<-n8];rfl
 .rw [<-BQ,<-xQ,qx,<-n8];rfl
 have nxg:x≠g:=λz=>by rw [z,JP] at hx;cases hx
 exact((PD B8 emp mW Jg zU m7 vE).kp K8).mv (λ_ _ z=>by rw [aj nxg];exact z) (λ_ _ z=>Ou M7 z) (λ_ _ z=>gU M7 z) λb xs z=>by rw [aj (λy=>by rw [y,M7] at z;cases z)];exact z
def CD (K:bp)(Cg:Addr):Sp:=λvs H Q _=>∃(H0:Hp)(g bt:Addr)(rs ss:z0q)(aa:88)(je:ax),vs=[.ref g]/\GrV H0 H Cg g rs ss bt/\bM K H rs aa/\aa[0]?=some je/\Q (.str je.1) H
def Kd:aK ["self"] ["self"] (ay AV):=163
def Ho {Cg:Addr}(F:iz K "start" "Grammar.start" AV f fd)(G:GC K Cg):bR P w K mg base fI 1 f fd ["self"] (CD K Cg):=by
 refine F.ok Kd 184 186
 .obtain⟨H0,g,bt,rs,ss,aa,je,rfl,_⟩:=h;rfl
 obtain⟨H0,g,bt,rs,ss,aa,je,rfl,⟨gx,fs,R2,S2,eg,l1,l2,l3,l4,e1,e2,_⟩,cM,Ll,q⟩:=h;refine⟨_,ao (bw (a_ bF (a_ cO (dA 91 rfl) av 142) av 142)),?_⟩;dsimp only [uM];have ll:=a7 cM;have l0:=(bu.mp Ll).1;obtain⟨r0,VI,p,v1,v2⟩:=Paired.at_ cM 0 je Ll;have ue:pQ 153 ((0:Nat):Int)=some (.ref r0):=cH (by rw [aX,VI];rfl);exact⟨_,rfl,g,Cg,gx,fs,_,rfl,eg,G.cls,G.a1,l1,R2,_,_,_,rfl,rfl,aI.of e1,ue,r0,_,_,_,rfl,rfl,v1,rfl,q⟩
end
def qd:z0t->Str->Nat
 | [],_=>0
 | a::r,x=>if a=x then 0 else qd r x+1
theorem xN:∀(l:z0t)(x:Str),x∈l->l[qd l x]?=some x
 | [],x,h=>by cases h
 | a::r,x,h=>by
  unfold qd;by_cases c:a=x
  .rw [aw c];exact congrArg some c
  rw [au c];rcases b8.mp h with e | e
  .exact absurd e.symm c
  rw [List.getElem?_cons_succ];exact xN r x e
theorem sZ:∀(l:z0t)(x:Str) (i:Nat),x∈l.take i->qd l x < i
 | [],x,i,h=>by simp at h
 | a::r,x,0,h=>by simp at h
 | a::r,x,i+1,h=>by
  unfold qd;by_cases c:a=x
  .rw [aw c];omega
  rw [au c];rw [rJ] at h;rcases b8.mp h with e | e
  .exact absurd e.symm c
  have:=sZ r x i e;omega
def wY {l:z0t}{x:Str}{i:Nat}(h:x∈l.take i):∃j,j < i/\l[j]?=some x:=by
 obtain⟨j,hj⟩:=gR h;have lj:=(bu.mp hj).1;rw [du] at lj;rw [yo ∅] at hj;exact⟨j,∅,hj⟩
def Di {aa:88}{ru:ax}(h:ru∈aa):ru.1∈hd aa:=(il _ _ _).mpr (.inr (iB h))
def MV {aa:88}{x:Str}(h:x∈hd aa):∃ru∈aa,ru.1=x:=by
 rcases (il _ _ _).mp h with h | h
 .cases h
 obtain⟨ru,a,b⟩:=bU.mp h;exact⟨ru,a,b⟩
def TU {aa:88}{x:Str}(h:Em aa x):x∈hd aa:=by
 cases h with
 | mk h _=>exact Di h
def IY {aa:88}{aL:z0h}(h:uj aa aL):∀y∈aL.map 87,Em aa y:=by
 induction h with
 | nil=>intro y hy;cases hy
 | @snoc aL k ru _ e _ p ih =>
  intro y hy;rw [ba] at hy;rcases bP.mp hy with h | h
  .exact ih y h
  rw [bB.mp h];exact .mk (cE e) λq hq=>ih q (p q hq)
def Ih {b:Str->Bool}{zs:z0t}{i j:Nat}{x:Str}(h:K4 b zs j=true)(e:zs[i]?=some x)(n:i≠j):b x=true:=by
 cases hb:b x with
 | true=>rfl
 | false =>
  have li:=(bu.mp e).1;have m:((i:Nat):Int)∈EN b zs zs.length:=by
   unfold EN;exact bU.mpr ⟨i,gw.mpr ⟨j6.mpr li,by rw [e];show (!(b x))=true;rw [hb];rfl⟩,rfl⟩
  unfold K4 at h;rcases Bool.or_eq_true_iff.mp h with h | h
  .rw [<-cR h] at m;cases m
  rw [<-cR h] at m;have:=bB.mp m;omega
end hJ
namespace M11
open PySem
def eJ (a9:Bool) (bo e:z0t)(ru:ax):z0t:=if ((ru.2.all λp=>decide (p∈e) || (a9 && !decide (p∈bo))) && !decide (ru.1∈e))=true then e++[ru.1] else e
def hZ (a9:Bool) (bo e:z0t)(aa:88):z0t:=aa.foldl (eJ a9 bo) e
def passes {α:Type}(f:α->α):Nat->α->α
 | 0,a=>a
 | n+1,a=>f (passes f n a)
def cf (a9:Bool)(aa:88):z0t:=passes (λe=>hZ a9 204 e aa) aa.length []
structure EO (a9:Bool) (bo:z0t)(aa:88) (e:z0t):Prop where
 nd:e.Nodup
 ord:∀(i:Nat)(h:Str),e[i]?=some h->∃dq,(h,dq)∈aa/\∀p∈dq,p∈e.take i\/(a9=true/\p∉bo)
def EO.step {a9:Bool}{bo:z0t}{aa:88}{e:z0t}(h:EO a9 bo aa e){ru:ax}(hr:ru∈aa):EO a9 bo aa (eJ a9 bo e ru):=by
 unfold eJ
 split
 .rename_i c
  obtain⟨c1,c2⟩:=jo.mp c;have c2':ru.1∉e:=by simpa using c2
  refine⟨iN.mpr ⟨h.nd,92,λa ha b hb z=>c2' (by rw [<-bB.mp hb,<-z];exact ha)⟩,λi x hx=>?_⟩;by_cases l:i < e.length
  .rw [nj l] at hx;obtain⟨dq,a,b⟩:=h.ord i x hx;refine⟨dq,a,λp hp=>?_⟩;rw [rg ∅];exact b p hp
  have li:=(bu.mp hx).1;rw [a8,fU] at li;have:i=e.length:=by omega
  subst this;rw [lU (aG _),oG] at hx;cases hx;refine⟨ru.2,hr,λp hp=>?_⟩;rw [rg (aG _),b0];have:=eG.mp c1 p hp;simp only [Bool.or_eq_true,decide_eq_true_eq,nh,Bool.not_eq_true',decide_eq_false_iff_not] at this;exact this
 exact h
theorem EO.pass {a9:Bool}{bo:z0t}{aa:88}:∀(rs:88){e:z0t},(∀ru∈rs,ru∈aa)->EO a9 bo aa e->EO a9 bo aa (rs.foldl (eJ a9 bo) e)
 | [],_,_,h=>h
 | ru::rs,_,hs,h=>EO.pass rs (λr hr=>hs r (cT _ hr)) (h.step (hs ru cS))
def ot (a9:Bool)(aa:88):EO a9 204 aa (cf a9 aa):=by
 have:∀n,EO a9 204 aa (passes (λe=>hZ a9 204 e aa) n []):=by
  intro n
  induction n with
  | zero=>exact⟨gI,λi h e=>by cases e⟩
  | succ n ih=>exact EO.pass aa (λ_ h=>h) ih
 exact this _
def u9 (a9:Bool) (bo e:z0t)(ru:ax):eJ a9 bo e ru=e\/e.length < (eJ a9 bo e ru).length:=by
 unfold eJ
 split
 .right;simp
 left;rfl
theorem zC (a9:Bool) (bo:z0t):∀(rs:88) (e:z0t),e.length<=(rs.foldl (eJ a9 bo) e).length
 | [],_=>aG _
 | ru::rs,e=>by
  have h1:=zC a9 bo rs (eJ a9 bo e ru);have h2:=u9 a9 bo e ru;show _<=(rs.foldl (eJ a9 bo) (eJ a9 bo e ru)).length;rcases h2 with h | h
  .rw [h] at h1 ⊢;exact h1
  omega
theorem tI (a9:Bool) (bo:z0t):∀(rs:88) (e:z0t),(rs.foldl (eJ a9 bo) e=e/\∀ru∈rs,eJ a9 bo e ru=e)\/e.length < (rs.foldl (eJ a9 bo) e).length
 | [],_=>.inl ⟨rfl,λ_ h=>by cases h⟩
 | ru::rs,e=>by
  show (rs.foldl (eJ a9 bo) (eJ a9 bo e ru)=e/\_)\/_ < (rs.foldl (eJ a9 bo) (eJ a9 bo e ru)).length;rcases u9 a9 bo e ru with h | h
  .rw [h];rcases tI a9 bo rs e with ⟨a,b⟩ | c
   .refine .inl ⟨a,λr hr=>?_⟩;rcases b8.mp hr with rfl | hr
    .exact h
    exact b r hr
   exact .inr c
  right;have:=zC a9 bo rs (eJ a9 bo e ru);omega
theorem iW:∀(l m:z0t),l.Nodup->(∀z∈l,z∈m)->l.length<=m.length
 | [],m,_,_=>gr _
 | x::r,m,hn,hs=>by
  have hx:=hs x cS;have Fw:=hU.mp hn;have:=iW r (m.erase x) Fw.2 λz hz=>(List.mem_erase_of_ne (λe=>Fw.1 (by rw [<-e];exact hz))).mpr (hs z (cT _ hz));rw [Aw hx] at this;have:0 < m.length:=Aq hx;rw [dI];omega
def EO.sub {a9:Bool}{bo:z0t}{aa:88}{e:z0t}(h:EO a9 bo aa e):∀x∈e,x∈aa.map 87:=λx hx=>by
 obtain⟨i,hi⟩:=gR hx;obtain⟨dq,a,_⟩:=h.ord i x hi;exact bU.mpr ⟨_,a,rfl⟩
def ET (a9:Bool)(aa:88):∀ru∈aa,eJ a9 204 (cf a9 aa) ru=cf a9 aa:=by
 have eo:∀n,EO a9 204 aa (passes (λe=>hZ a9 204 e aa) n []):=by
  intro n
  induction n with
  | zero=>exact⟨gI,λi h e=>by cases e⟩
  | succ n ih=>exact EO.pass aa (λ_ h=>h) ih
 have key:∀n,(passes (λe=>hZ a9 204 e aa) (n+1) []=passes (λe=>hZ a9 204 e aa) n []/\∀ru∈aa,eJ a9 204 (passes (λe=>hZ a9 204 e aa) n []) ru=passes (λe=>hZ a9 204 e aa) n [])\/n < (passes (λe=>hZ a9 204 e aa) (n+1) []).length:=by
  intro n
  induction n with
  | zero =>
   rcases tI a9 204 aa [] with h | h
   .exact .inl h
   exact .inr h
  | succ n ih =>
   rcases ih with ⟨a,b⟩ | c
   .left;rw [show passes (λe=>hZ a9 204 e aa) (n+1+1) []=hZ a9 204 (passes (λe=>hZ a9 204 e aa) (n+1) []) aa from rfl,a];exact⟨a,b⟩
   rcases tI a9 204 aa (passes (λe=>hZ a9 204 e aa) (n+1) []) with h | h
   .exact .inl h
   right;have h2:(passes (λe=>hZ a9 204 e aa) (n+1) []).length < (passes (λe=>hZ a9 204 e aa) (n+1+1) []).length:=h;omega
 rcases key aa.length with ⟨_,b⟩ | c
 .exact b
 have e1:=eo (aa.length+1);have:=iW _ _ e1.nd e1.sub;rw [ar] at this;omega
def xV {a9:Bool}{aa:88}{ru:ax}(hr:ru∈aa)(h:∀p∈ru.2,p∈cf a9 aa\/(a9=true/\p∉aa.map 87)):ru.1∈cf a9 aa:=by
 have:=ET a9 aa ru hr;unfold eJ at this;by_cases c:ru.1∈cf a9 aa
 .exact c
 rw [aw] at this
 .have:=congrArg List.length this;rw [a8] at this;simp at this
 refine jo.mpr ⟨eG.mpr λp hp=>?_,by simpa using c⟩;simp only [Bool.or_eq_true,decide_eq_true_eq,nh,Bool.not_eq_true',decide_eq_false_iff_not];exact h p hp
def tP {aa:88}{x:Str}(h:Em aa x):x∈cf false aa:=by
 induction h with
 | mk hr _ ih=>exact xV hr λp hp=>.inl (ih p hp)
end M11
namespace hJ
open PySem L2 M11
abbrev Gx:Stmt:=top 45
abbrev AY:Stmt:=top 46
abbrev xj:Stmt:=top 47
abbrev xt:Stmt:=top 48
abbrev Gp:Stmt:=top 49
abbrev Gr:Stmt:=top 50
abbrev A2:Stmt:=top 51
abbrev Gv:Stmt:=top 53
abbrev Gu:Stmt:=top 54
abbrev Gn:Stmt:=top 52
def atM {zs:z0t}{m:Int}(h:(zs.length:Int)=m)(hm:0 < m) (n:Int):∃z∈zs,pQ 203 (n % m)=some (.str z):=by
 subst h;have h1:=wt n hm;have h2:=Int.emod_nonneg n (show (zs.length:Int)≠0 by omega);have l:(n % (zs.length:Int)).toNat < zs.length:=by omega
 have e:n % (zs.length:Int)=(((n % (zs.length:Int)).toNat:Nat):Int):=by omega
 refine⟨zs[(n % (zs.length:Int)).toNat],v_ l,?_⟩;have t:pQ 203 (((n % (zs.length:Int)).toNat:Nat):Int)=some (.str zs[(n % (zs.length:Int)).toNat]):=cH (by rw [aX,cZ l];rfl);rw [<-e] at t;exact t
def yQ {α:Type}(i:Nat)(x y z:α):α:=match i with | 0=>x | 1=>y | _=>z
def R9 {H:Hp}{L1 L2 L3 LL:Addr}{xs ys zs:List V}(h1:H L1=none)(h2:upd H L1 (.lst xs) L2=none)(h3:upd (upd H L1 (.lst xs)) L2 (.lst ys) L3=none)
  (h4:upd (upd (upd H L1 (.lst xs)) L2 (.lst ys)) L3 (.lst zs) LL=none):aD H (upd (upd (upd (upd H L1 (.lst xs)) L2 (.lst ys)) L3 (.lst zs)) LL (.lst [.ref L1,.ref L2,.ref L3]))/\∀i:Nat,i < 3->∃Li,pQ [V.ref L1,V.ref L2,V.ref L3] (i:Int)=some (.ref Li)/\H Li=none /\
   upd (upd (upd (upd H L1 (.lst xs)) L2 (.lst ys)) L3 (.lst zs)) LL (.lst [.ref L1,.ref L2,.ref L3]) Li=some (.lst (yQ i xs ys zs)):=by
 have s1:=af h1 (.lst xs);have s2:=af h2 (.lst ys);have s3:=af h3 (.lst zs);have s4:=af h4 (.lst [.ref L1,.ref L2,.ref L3]);refine⟨s1.trans (s2.trans (s3.trans s4)),λi hi=>?_⟩
 match i,hi with
 | 0,_=>exact⟨L1,rfl,h1,s4 _ _ (s3 _ _ (s2 _ _ ae))⟩
 | 1,_=>exact⟨L2,rfl,s1.free h2,s4 _ _ (s3 _ _ ae)⟩
 | 2,_=>exact⟨L3,rfl,s1.free (s2.free h3),s4 _ _ ae⟩
def C2 (i:Nat):z0t:=yQ i ["s","t","u","w","v"] ["b","aa","k","bb","e"] ["a","ab","n","d","aba"]
def UO (i:Nat):z0t:=yQ i ["a","b","c"] ["ab","a","c"] ["b","+","ba"]
def KZ (i:Nat):yQ i [V.str "s",V.str "t",V.str "u",V.str "w",V.str "v"] [V.str "b",V.str "aa",V.str "k",V.str "bb",V.str "e"] [V.str "a",V.str "ab",V.str "n",V.str "d",V.str "aba"]=(C2 i).map V.str:=by
 match i with
 | 0=>rfl
 | 1=>rfl
 | _+2=>rfl
def J3 (i:Nat):yQ i [V.str "a",V.str "b",V.str "c"] [V.str "ab",V.str "a",V.str "c"] [V.str "b",V.str "+",V.str "ba"]=(UO i).map V.str:=by
 match i with
 | 0=>rfl
 | 1=>rfl
 | _+2=>rfl
def Om (i:Nat):(C2 i).length=5:=by
 match i with
 | 0=>rfl
 | 1=>rfl
 | _+2=>rfl
def Np (i:Nat):(UO i).length=3:=by
 match i with
 | 0=>rfl
 | 1=>rfl
 | _+2=>rfl
def HY (i:Nat):∀z∈C2 i,z.length<=3:=by
 match i with
 | 0=>decide +kernel
 | 1=>decide +kernel
 | n+2=>exact(by decide +kernel:∀z∈C2 2,z.length<=3)
def DR {j:Nat}(h:j < 3):(xy "y" j).length<=2:=by
 match j,h with
 | 0,_=>decide +kernel
 | 1,_=>decide +kernel
 | 2,_=>decide +kernel
section
def cellAt (ns:z0u) (k:Nat):Int:=(ns[k]?).getD 0
def w6 (K:bp):Sp:=λvs H Q _=>∃(a:Addr)(ns:z0u) (k:Nat),vs=[.ref a,.int (k:Int)]/\aI K H a (ns.map V.int)/\ns.length<=1000/\∀n:Int,n=cellAt ns k->Q (.int n) H
def NI:aK ["_law_script","_law_k"] ["_law_script","_law_k"] (ay Gx):=163
def KS (F:iz K "_law_cell_at" "_law_cell_at" Gx f fd)(T:Txt mg):bR P w K mg base fI 1 f fd ["_law_script","_law_k"] (w6 K):=by
 refine F.ok NI 184 186
 .obtain⟨a,ns,k,rfl,_⟩:=h;rfl
 obtain⟨a,ns,k,rfl,hS,hn,q⟩:=h;refine⟨_,ag (cy (bc lX (pv 1) (aP aU rfl T.len d_ (ab 91 ak)) (cA _)) (ao (bw (a_ cO 91 (pv 1) 142))) bf) (ao (bw av)),?_⟩;refine⟨_,rfl,_,rfl,a,_,rfl,.inl hS,_,_,rfl,rfl,_,rfl,?_⟩;refine b_ (λcc=>?_) (λcc=>q 0 ?_)
 rotate_left
 .have ge:¬((k:Int) < ((ns.map V.int).length:Int)):=λz=>cc (cv z);rw [ar] at ge;unfold cellAt;rw [kj ∅];rfl
 have lt:=cR cc;rw [ar] at lt;have lt':k < ns.length:=by omega
 refine⟨_,rfl,_,rfl,a,_,_,.int ns[k],rfl,rfl,hS,cH (by rw [aX,cZ lt'];rfl),q _ (by unfold cellAt;rw [cZ lt'];rfl)⟩
def so:Sp:=λvs H Q _=>∃(c:Int) (m:Nat)(S:Addr) (zs:z0t),vs=[.int c,.int (m:Int),.ref S]/\m<=100/\H S=some (.lst 203)/\0 < zs.length/\zs.length<=1000/\∀(p:Addr) (ps:z0t)(H':Hp),aD H H'->H' p=some (.tup (ps.map V.str))->ps.length=m->(∀x∈ps,x∈zs)->Q (.ref p) H'
def jv:aK ["_law_cell","_law_many","_law_some","_law_parts_here","_law_seed","_law_k"] ["_law_cell","_law_many","_law_some"] (ay xt):=163
def Ee (F:iz K "_law_digits" "_law_digits" xt f fd)(T:Txt mg):bR P w K mg base fI 1 f fd ["_law_cell","_law_many","_law_some"] so:=by
 refine F.ok jv 184 186
 .obtain⟨c,m,S,zs,rfl,_⟩:=h;rfl
 obtain⟨c,m,S,zs,rfl,hm,hS,Vh,hz1,q⟩:=h;refine⟨_,ag (aA (i:=3) jv.nd rfl 90 (bK ak))
  (ag (aA (i:=4) jv.nd rfl 90 (aN df (aN de 91 av) av))
  (ag (bJ bW rfl (ie rfl T.Fs (ab (pv 1) ak)) (aq (i:=5) jv.nd rfl 90)
   (ao (cy (bc Hk 91 av (cA _))
    (ag (cU (gZ gA iD iE cx (pv 3) (ab (a_ cO (pv 2) (aN de (aN Hi 91 av) (aP aU rfl T.len d_ (ab (pv 2) ak))) 142) ak)))
    (ao (aA (i:=0) jv.nd rfl 90 (aN cY (aN Hi 91 av) (aP aU rfl T.len d_ (ab (pv 2) ak))))))
    (ag (aA (i:=4) jv.nd rfl 90 (aN de (aN Hj (pv 4) av) av))
    (ao (cU (gZ gA iD iE cx (pv 3) (ab (a_ cO (pv 2) (aN de (aN cY (pv 4) av) (aP aU rfl T.len d_ (ab (pv 2) ak))) 142) ak))))))))
  (ao (bw (bN ji rfl T.tup As (ab (pv 3) ak)))))),?_⟩
 have Su:(0:Int) < (zs.length:Int):=by omega
 refine⟨uq,λL hL=>?_⟩;have hS1:=af hL 138 _ _ hS;have nS:S≠L:=λz=>by rw [z,hL] at hS;cases hS
 refine⟨_,rfl,_,_,rfl,rfl,(by show (0:Int) < 2147483647;decide),_,_,rfl,rfl,?_⟩;refine⟨_,rfl,(m:Int),rfl,∅,∅,?_⟩;rw [jn m];refine jG (n:=m) (λi σ H2=>∃(c2 c4:Int)(k2:Option V) (ps:z0t),σ=[some (.int c2),some (.int (m:Int)),aE S,aE L,some (.int c4),k2]/\H2=upd H L (.lst (ps.map V.str))/\ps.length=i/\∀x∈ps,x∈zs) ⟨c,_,none,[],rfl,rfl,rfl,λ_ h=>(by cases h)⟩ ?_ ?_
 .rintro i σ H2 hi ⟨c2,c4,k2,ps,rfl,rfl,hp,MT⟩;have eS:upd H L (.lst (ps.map V.str)) S=some (.lst 203):=by rw [aj nS];exact hS
  refine goN ?_;refine⟨_,rfl,_,_,rfl,rfl,_,rfl,?_⟩;refine b_ (λ_=>?_) (λ_=>?_)
  .obtain⟨z,Ss,ez⟩:=atM (zs:=zs) rfl Su (c2 - 1);refine⟨_,rfl,.inl ⟨rfl,_,aI.of ae⟩,_,rfl,_,rfl,_,_,rfl,rfl,_,rfl,S,_,rfl,.inl (aI.of eS),_,_,rfl,rfl,(by rw [ar];exact Su),?_⟩;rw [ar];refine⟨S,_,_,_,rfl,rfl,aI.of eS,ez,L,_,_,rfl,rfl,ae,219,?_⟩;rw [nr];have eS2:upd H L (.lst (ps.map V.str++[.str z])) S=some (.lst 203):=by rw [aj nS];exact hS
   refine⟨_,rfl,_,_,rfl,rfl,_,rfl,S,_,rfl,.inl (aI.of eS2),_,_,rfl,rfl,(by rw [ar];exact⟨Su,by show (zs.length:Int) < 1073741824;omega⟩),?_⟩;rw [ar];exact⟨_,_,_,ps++[z],rfl,by rw [ba];rfl,by rw [a8,hp];rfl,λx hx=>(bP.mp hx).elim (MT x) λh=>(bB.mp h) ▸ Ss⟩
  refine⟨_,rfl,_,_,rfl,rfl,.inr ⟨nofun,nofun⟩,_,_,rfl,rfl,(by show (0:Int) < 2147483647;decide),?_⟩;obtain⟨z,Ss,ez⟩:=atM (zs:=zs) rfl Su (c4 * 48271 % 2147483647 / 3);refine⟨_,rfl,.inl ⟨rfl,_,aI.of ae⟩,_,rfl,_,rfl,_,_,rfl,rfl,⟨nofun,nofun⟩,_,rfl,S,_,rfl,.inl (aI.of eS),_,_,rfl,rfl,(by rw [ar];exact Su),?_⟩;rw [ar];refine⟨S,_,_,_,rfl,rfl,aI.of eS,ez,L,_,_,rfl,rfl,ae,219,?_⟩;rw [nr];exact⟨_,_,_,ps++[z],rfl,by rw [ba];rfl,by rw [a8,hp];rfl,λx hx=>(bP.mp hx).elim (MT x) λh=>(bB.mp h) ▸ Ss⟩
 rintro σ H2 ⟨c2,c4,k2,ps,rfl,rfl,hp,MT⟩;refine⟨_,rfl,L,_,rfl,.inl ⟨aI.of ae,λp uF=>?_⟩⟩;exact q p ps _ ((af hL _).trans (af uF _)) ae hp MT
def i3 (c:Int):Nat:=(c / 72 % 3).toNat
def j3 (c:Int):Nat:=(c / 3 % 3).toNat
def MP (c:Int):i3 c < 3/\c / 72 % 3=(i3 c:Int):=by unfold i3;omega
def Sm (c:Int):j3 c < 3/\c / 3 % 3=(j3 c:Int):=by unfold j3;omega
def eY (c:Int):z0t:=UO (i3 c)
def mV (c:Int):(eY c).length=3:=Np _
def U9 (i j:Nat):z0t:=(C2 i).map λz=>z++xy "y" j
def HZ {i j:Nat}(hi:i < 3)(hj:j < 3):(U9 i j).Nodup/\∀x∈U9 i j,x∉UO i:=by
 match i,hi,j,hj with
 | 0,_,0,_=>decide +kernel
 | 0,_,1,_=>decide +kernel
 | 0,_,2,_=>decide +kernel
 | 1,_,0,_=>decide +kernel
 | 1,_,1,_=>decide +kernel
 | 1,_,2,_=>decide +kernel
 | 2,_,0,_=>decide +kernel
 | 2,_,1,_=>decide +kernel
 | 2,_,2,_=>decide +kernel
structure PR (c:Int) (cC:z0t):Prop where
 nd:cC.Nodup
 dj:∀x∈cC,x∉eY c
 one:1<=cC.length
 O8:cC.length<=5
def CG:Sp:=λvs H Q _=>∃(c:Int),vs=[.int c]/\∀(N:Addr) (cC:z0t)(H':Hp),H N=none->aD H H'->H' N=some (.lst (cC.map V.str))->PR c cC->Q (.ref N) H'
def qH:aK ["_law_cell","_law_some","_law_many"] ["_law_cell"] (ay AY):=163
def Hs (F:iz K "_law_names" "_law_names" AY f fd)(T:Txt mg):bR P w K mg base fI 1 f fd ["_law_cell"] CG:=by
 refine F.ok qH 184 186
 .obtain⟨c,rfl,_⟩:=h;rfl
 obtain⟨c,rfl,q⟩:=h;refine⟨_,@ag _ _ _ _ _ (@aA _ _ 1 _ _ _ _ qH.nd rfl 90 (@a_ _ _ _ _ _ _ _ cO (@bK _ _ _ _ (@ab _ _ _ _ _ (@bK _ _ _ _ (@ab _ _ _ _ _ (@cq _ _ _ _) (@ab _ _ _ _ _ (@cq _ _ _ _) 502 rfl) rfl)) (@ab _ _ _ _ _ (@bK _ _ _ _ (@ab _ _ _ _ _ (@cq _ _ _ _) (@ab _ _ _ _ _ (@cq _ _ _ _) 502 rfl) rfl)) (@ab _ _ _ _ _ (@bK _ _ _ _ (@ab _ _ _ _ _ (@cq _ _ _ _) (@ab _ _ _ _ _ (@cq _ _ _ _) 502 rfl) rfl)) (@ak _) rfl) rfl) rfl)) (aN de (aN cY 91 av) av) 142) rfl (.inr rfl))
  (ag (aA (i:=2) qH.nd rfl 90 (aN df av (aN de 91 av)))
  (ag (ik (cy (bc jx (aN de (aN cY 91 av) av) av (cA _)) (ao (aA (i:=2) qH.nd rfl 90 av)) bf))
  (ao (bw (aT ["_law_name"] [(0,"_law_cell")] rfl (aR (dX xc (pv 1) gY (eU (pv 2)))) 162 nofun rfl nofun
   (λ_ _ _ _ _=>aq (i:=0) (show (["_law_name","_law_cell"]:z0t).Nodup by decide +kernel) rfl 90) 220
   (λ_ _ _ _ _=>aN Bi 91 (aN KD cq (aN de (aN cY (pv 1) av) av)))))))),?_⟩
 obtain⟨hi,ei⟩:=MP c;obtain⟨hj,ej⟩:=Sm c;refine⟨Wh,λL1 h1=>⟨Wh,λL2 h2=>⟨Wh,λL3 h3=>⟨Jy,λLL Y7=>?_⟩⟩⟩⟩;obtain⟨s1,p1⟩:=R9 h1 h2 h3 Y7;obtain⟨Li,a1,f1,e1⟩:=p1 (i3 c) hi;rw [KZ] at e1;refine⟨_,rfl,_,_,rfl,rfl,⟨nofun,nofun⟩,_,_,rfl,rfl,(by show (0:Int) < 3;decide),?_⟩;refine⟨LL,_,(i3 c:Int),.ref Li,rfl,congrArg V.int ei,aI.of ae,a1,?_⟩;generalize upd (upd (upd (upd H L1 _) L2 _) L3 _) LL _=H1 at s1 e1;refine⟨_,rfl,_,_,rfl,rfl,(by show (0:Int) < 3;decide),_,_,rfl,rfl,?_⟩;refine⟨λσ H2=>∃m:Nat,1<=m/\m<=5/\σ=[some (.int c),aE Li,some (.int (m:Int))]/\H1=H2,?_,?_⟩
 .obtain⟨m,Qo,Qn,em⟩:∃m:Nat,1<=m/\m<=5/\1+c % 3=(m:Int):=⟨(1+c % 3).toNat,∅,∅,∅⟩;refine⟨_,rfl,_,_,rfl,rfl,⟨nofun,nofun⟩,_,_,rfl,rfl,(by show (0:Int) < 8;decide),rfl,_,rfl,?_⟩;refine b_ (λ_=>?_) (λ_=>?_)
  .exact⟨5,nofun,nofun,rfl,rfl⟩
  exact⟨m,Qo,Qn,by show [some (V.int c),some (V.ref Li),some (V.int (1+c % 3))]=_;rw [em],rfl⟩
 rintro σ H1' ⟨m,Qo,Qn,rfl,rfl⟩;refine⟨_,rfl,_,rfl,_,rfl,Li,_,rfl,aI.of e1,λM hM=>?_⟩;have cut:g_ ((C2 (i3 c)).map V.str) none (some (m:Int))=((C2 (i3 c)).take m).map V.str:=by
  unfold g_;rw [show HT.fR ((C2 (i3 c)).map V.str).length 0 none=0 from rfl,HT.lF,ro,Nat.sub_zero,mr,<-List.take_eq_take_min]
 rw [cut];have lt5:((C2 (i3 c)).take m).length=m:=by rw [du,Om];omega
 have Vl:∀z∈(C2 (i3 c)).take m,z.length<=3:=λz hz=>HY (i3 c) z (uT hz);have n6:(((C2 (i3 c)).take m).map λz=>z++xy "y" (j3 c)).Nodup/\∀x∈((C2 (i3 c)).take m).map λz=>z++xy "y" (j3 c),x∉eY c:=by
  have e:(((C2 (i3 c)).take m).map λz=>z++xy "y" (j3 c))=(U9 (i3 c) (j3 c)).take m:=by unfold U9;rw [mr]
  rw [e];exact⟨(HZ hi hj).1.sublist (List.take_sublist _ _),λx hx=>(HZ hi hj).2 x (uT hx)⟩
 generalize (C2 (i3 c)).take m=zs at lt5 Vl n6;have s2:=s1.trans (af hM (.lst 203));have eM:upd H1 M (.lst 203) M=some (.lst 203):=ae;generalize upd H1 M (.lst 203)=H2 at s2 eM;refine⟨M,rfl,⟨_,aI.of eM⟩,λD hD=>bL (xs:=154) (λk ys σ2 H3=>ys=((zs.map λz=>z++xy "y" (j3 c)).take k).map V.str/\(∃y0,σ2=[y0,some (.int c)])/\aD H2 H3/\H3 D=some (.lst ys))
    ⟨rfl,⟨none,rfl⟩,af hD _,ae⟩ (λk ys σ2 H3 _ h=>?_) (λk x ys σ2 H3 ex h=>?_) (λys σ2 H3 h=>?_)⟩
 .obtain⟨_,_,sm,_⟩:=h;exact aI.of (sm _ _ eM)
 .obtain⟨rfl,⟨y0,rfl⟩,sm,eD⟩:=h;have lk:=(bu.mp ex).1;rw [ar] at lk;rw [aX] at ex;obtain⟨z,ez,rfl⟩:=bT.mp ex;have hz:=Vl z (cE ez);have hy:=DR hj;refine goN (uJ ?_);refine⟨_,rfl,_,rfl,_,_,rfl,rfl,⟨nofun,nofun⟩,_,_,rfl,rfl,(by show (0:Int) < 3;decide),?_⟩;have ly:("y":Str).length=1:=by decide +kernel
  refine⟨"y",j3 c,rfl,congrArg V.int ej,∅,ly,_,_,rfl,rfl,fits ∅,?_⟩;refine⟨eD,br (by rw [ar,du];omega),?_,157,λb o hb=>?_,ae⟩
  .have:(zs.map λz=>z++xy "y" (j3 c))[k]?=some (z++xy "y" (j3 c)):=by rw [aX,ez];rfl
   rw [cK,this,ba];rfl
  rw [330];exact sm b o hb
 obtain⟨rfl,_,sm,eD⟩:=h;rw [rO (by rw [ar,ar];exact aG _)] at eD;exact q D _ _ (s2.free hD) (s2.trans sm) eD ⟨n6.1,n6.2,by rw [ar];omega,by rw [ar];omega⟩
def yD:Sp:=λvs H Q _=>∃(c:Int),vs=[.int c]/\∀(N:Addr)(H':Hp),H N=none->aD H H'->H' N=some (.lst ((eY c).map V.str))->Q (.ref N) H'
def Gj:aK ["_law_cell"] ["_law_cell"] (ay xj):=163
def D_ (F:iz K "_law_words" "_law_words" xj f fd)(T:Txt mg):bR P w K mg base fI 1 f fd ["_law_cell"] yD:=by
 refine F.ok Gj 184 186
 .obtain⟨c,rfl,_⟩:=h;rfl
 obtain⟨c,rfl,q⟩:=h;refine⟨_,ao (bw (@a_ _ _ _ _ _ _ _ cO (@bK _ _ _ _ (@ab _ _ _ _ _ (@bK _ _ _ _ 502) (@ab _ _ _ _ _ (@bK _ _ _ _ 502) (@ab _ _ _ _ _ (@bK _ _ _ _ 502) (@ak _) rfl) rfl) rfl)) (aN de (aN cY 91 av) av) 142)),?_⟩;obtain⟨hi,ei⟩:=MP c;refine⟨Jy,λL1 h1=>⟨Jy,λL2 h2=>⟨Jy,λL3 h3=>⟨Jy,λLL Y7=>?_⟩⟩⟩⟩;obtain⟨s1,p1⟩:=R9 h1 h2 h3 Y7;obtain⟨Li,a1,f1,e1⟩:=p1 (i3 c) hi;rw [J3] at e1;refine⟨_,rfl,_,_,rfl,rfl,⟨nofun,nofun⟩,_,_,rfl,rfl,(by show (0:Int) < 3;decide),?_⟩;refine⟨LL,_,(i3 c:Int),.ref Li,rfl,congrArg V.int ei,aI.of ae,a1,?_⟩;exact q Li _ f1 s1 e1
def F5 (K:bp):Sp:=λvs H Q _=>∃(S N W:Addr)(ns:z0u) (at_ m:Nat) (cC ws:z0t),vs=[.ref S,.int (at_:Int),.ref N,.int (m:Int),.ref W]/\aI K H S (ns.map V.int)/\ns.length<=1000/\H N=some (.lst (cC.map V.str))/\H W=some (.lst (ws.map V.str))/\0 < cC.length/\cC.length<=5/\ws.length<=10/\m<=10 /\
 ∀(R:Addr)(rs:z0q)(aa:88)(H':Hp),H R=none->aD H H'->H' R=some (.lst 153)->bM K H' rs aa->aa.length=m->(∀ru∈aa,ru.1∈cC/\ru.2.length<=6/\∀x∈ru.2,x∈cC++ws)->Q (.ref R) H'
def mF:aK ["_law_script","_law_at","_law_names_here","_law_many","_law_words_here","_law_rules","_law_some","_law_k","_law_cell","_law_size"] ["_law_script","_law_at","_law_names_here","_law_many","_law_words_here"] (ay Gr):=163
def KN (F:iz K "_law_more" "_law_more" Gr f fd)(T:Txt mg)(GC:aF P w K mg base 1 "_law_cell_at" ["_law_script","_law_k"] (w6 K))(GD:aF P w K mg base 1 "_law_digits" ["_law_cell","_law_many","_law_some"] so):bR P w K mg base fI 2 f fd ["_law_script","_law_at","_law_names_here","_law_many","_law_words_here"] (F5 K):=by
 refine F.ok mF 184 186
 .obtain⟨S,N,W,ns,at_,m,cC,ws,rfl,_⟩:=h;rfl
 obtain⟨S,N,W,ns,at_,m,cC,ws,rfl,hS,hn,hN,hW,Vo,hn1,hw1,hm,q⟩:=h;refine⟨_,ag (aA (i:=5) mF.nd rfl 90 (bK ak))
  (ag (aA (i:=6) mF.nd rfl 90 (aN jh (pv 2) (pv 4)))
  (ag (bJ bW rfl (ie rfl T.Fs (ab (pv 3) ak)) (aq (i:=7) mF.nd rfl 90)
   (ag (aA (i:=8) mF.nd rfl 90 (bC GC hr rfl (ab 91 (ab (aN df (pv 1) (pv 7)) ak))))
   (ag (aA (i:=9) mF.nd rfl 90 (aN de (aN cY (pv 8) av) av))
   (ag (ik (cy (PW.pt (mI (bc jx (pv 7) av (cA _)) (jR (bc jx (aN de (aN cY (pv 8) av) av) av (cA _))))) (ao (aA (i:=9) mF.nd rfl 90 (aN df av (aN de (aN cY (pv 8) av) av)))) bf))
   (ao (cU (gZ gA iD iE cx (pv 5) (ab (bX (ab (a_ cO (pv 2) (aN de (aN de (pv 8) av) (aP aU rfl T.len d_ (ab (pv 2) ak))) 142)
    (ab (bC GD hr rfl (ab (aN cY (pv 8) av) (ab (pv 9) (ab (pv 6) ak)))) ak))) ak))))))))
  (ao (bw (pv 5))))),?_⟩
 refine⟨uq,λL hL=>?_⟩;have s1:=af hL 138;have e1:upd H L 138 L=some 138:=ae;generalize upd H L 138=H1 at s1 e1;refine⟨_,rfl,_,rfl,N,W,_,_,rfl,rfl,s1 _ _ hN,s1 _ _ hW,fits (by rw [ar,ar];omega),λM hM=>?_⟩;rw [<-ba];have k2:=af hM (.lst ((cC++ws).map V.str));have s2:=s1.trans k2;have e2:=k2 _ _ e1;have m2:upd H1 M (.lst ((cC++ws).map V.str)) M=some (.lst ((cC++ws).map V.str)):=ae;have nM:M≠L:=λz=>by rw [z,e1] at hM;cases hM
 generalize upd H1 M (.lst ((cC++ws).map V.str))=H2 at k2 s2 e2 m2;refine⟨_,rfl,(m:Int),rfl,∅,∅,?_⟩;rw [jn m];refine jG (n:=m) (λi σ H3=>∃(rs:z0q)(aa:88)(y7 y8 y9:Option V),σ=[aE S,some (.int (at_:Int)),aE N,some (.int (m:Int)),aE W,aE L,aE M,y7,y8,y9]/\aD H H3/\H3 L=some (.lst 153)/\H3 M=some (.lst ((cC++ws).map V.str))/\bM K H3 rs aa/\aa.length=i/\∀ru∈aa,ru.1∈cC/\ru.2.length<=6/\∀x∈ru.2,x∈cC++ws) ⟨[],[],none,none,none,rfl,s2,e2,m2,.nil,rfl,λ_ h=>by cases h⟩ ?_ ?_
 .rintro i σ H3 hi ⟨rs,aa,y7,y8,y9,rfl,s3,eL,eM,rl,hl,hf⟩;have lr:=a7 rl;refine goN ?_;refine⟨_,rfl,_,rfl,_,rfl,_,_,rfl,rfl,?_⟩;refine⟨S,ns,at_+i,(by show [V.ref S,V.int ((at_:Int)+(0+(i:Int)))]=_;congr 3;push_cast;omega),s3.seq hS,hn,λc _=>?_⟩;have hni:(0:Int) < (cC.length:Int):=by omega
  obtain⟨z,Ss,ez⟩:=atM (zs:=cC) rfl hni (c % 5);refine⟨_,rfl,_,_,rfl,rfl,⟨nofun,nofun⟩,_,_,rfl,rfl,(by show (0:Int) < 4;decide),?_⟩;refine⟨λσ H4=>∃d:Nat,d<=6/\H3=H4/\σ=[aE S,some (.int (at_:Int)),aE N,some (.int (m:Int)),aE W,aE L,aE M,some (.int (0+(i:Int))),some (.int c),some (.int (d:Int))],?_,?_⟩
  .obtain⟨d,hd,Dj⟩:∃d:Nat,c / 5 % 4=(d:Int)/\d<=6:=⟨(c / 5 % 4).toNat,∅,∅⟩;have no:∃d:Nat,d<=6/\H3=H3/\[some (V.ref S),some (.int (at_:Int)),aE N,some (.int (m:Int)),aE W,aE L,aE M,some (.int (0+(i:Int))),some (.int c),some (.int (c / 5 % 4))]=[some (V.ref S),some (.int (at_:Int)),aE N,some (.int (m:Int)),aE W,aE L,aE M,some (.int (0+(i:Int))),some (.int c),some (.int (d:Int))]:=⟨d,Dj,rfl,by rw [hd]⟩;refine⟨_,rfl,rfl,_,rfl,?_⟩;refine b_ (λ_=>?_) (λ_=>no);refine⟨_,rfl,_,_,rfl,rfl,⟨nofun,nofun⟩,_,_,rfl,rfl,(by show (0:Int) < 8;decide),rfl,_,rfl,?_⟩;refine b_ (λ_=>?_) (λ_=>no);obtain⟨e,he,he6⟩:∃e:Nat,4+c / 160 % 3=(e:Int)/\e<=6:=⟨(4+c / 160 % 3).toNat,∅,∅⟩;refine⟨_,rfl,_,_,rfl,rfl,⟨nofun,nofun⟩,_,_,rfl,rfl,(by show (0:Int) < 3;decide),_,_,rfl,rfl,?_⟩;exact⟨e,he6,rfl,by rw [<-he];rfl⟩
  rintro σ H3' ⟨d,hd6,rfl,rfl⟩;refine⟨_,rfl,.inl ⟨rfl,_,aI.of eL⟩,_,rfl,_,rfl,_,_,rfl,rfl,(by show (0:Int) < 5;decide),_,rfl,N,_,rfl,.inl (aI.of (s3 _ _ hN)),_,_,rfl,rfl,(by rw [ar];exact hni),?_⟩;rw [ar];refine⟨N,_,_,_,rfl,rfl,aI.of (s3 _ _ hN),ez,?_⟩;refine⟨_,rfl,_,_,rfl,rfl,⟨nofun,nofun⟩,_,rfl,_,rfl,?_⟩;refine⟨_,d,M,cC++ws,rfl,∅,eM,by rw [a8];omega,by rw [a8];omega,λp ps H4 s4 e4 l4 MT=>⟨qo,λR hR=>?_⟩⟩;have k5:=s4.trans (af hR (.tup [.str z,.ref p]));have v1:aZ K (upd H4 R (.tup [.str z,.ref p])) R [.str z,.ref p]:=aZ.of ae;have v2:aZ K (upd H4 R (.tup [.str z,.ref p])) p (ps.map V.str):=(af hR _).tup (aZ.of e4);generalize upd H4 R (.tup [.str z,.ref p])=H5 at k5 v1 v2;have B9:=k5 _ _ eL;refine⟨L,_,_,rfl,rfl,B9,219,?_⟩;refine⟨rs++[R],aa++[(z,ps)],_,_,_,rfl,λb o hb=>?_,by rw [ae,ba];rfl,by rw [aj nM];exact k5 _ _ eM,fc (rl.keep λb xs z=>bz B9 (k5.tup z)) ⟨p,bz B9 v1,bz B9 v2⟩,by rw [a8,hl];rfl,λru ix=>?_⟩
  .rw [aj (λz=>by rw [z,hL] at hb;cases hb)];exact k5 _ _ (s3 b o hb)
  rcases bP.mp ix with h | h
  .exact hf ru h
  rw [bB.mp h];exact⟨Ss,by show ps.length<=6;omega,MT⟩
 rintro σ H3 ⟨rs,aa,y7,y8,y9,rfl,s3,eL,eM,rl,hl,hf⟩;exact⟨_,rfl,q L rs aa H3 hL s3 eL rl hl hf⟩
def yf (ns ws:z0t) (a:Nat) (dq:z0t):Prop :=
 (∃n' wx,ns[a+1]?=some n'/\wx≠[]/\(∀x∈wx,x∈ws)/\wx.length<=2/\(dq=wx++[n']\/dq=n'::wx))\/(ns.length<=a+1/\(∀x∈dq,x∈ws)/\dq.length<=2)
def Jb (l:z0t)(n:Str):g_ ((l++[n]).map V.str) (some (-1)) none=[V.str n]:=by
 unfold g_;have h1:HT.fR ((l++[n]).map V.str).length 0 (some (-1))=l.length:=by
  rw [ar,a8,fU];show (if (-1:Int) < 0 then ((-1:Int)+((l.length+1:Nat):Int)).toNat else min (-1:Int).toNat (l.length+1))=l.length;rw [aw nofun];omega
 rw [h1,HT.nU,<-List.map_drop,List.drop_append_of_le_length (aG _),List.drop_length,mx];rw [ar,a8,fU,show l.length+1 - l.length=1 by omega];rfl
def Jc (l:z0t)(n:Str):g_ ((l++[n]).map V.str) none (some (-1))=l.map V.str:=by
 unfold g_;have h1:HT.fR ((l++[n]).map V.str).length ((l++[n]).map V.str).length (some (-1))=l.length:=by
  rw [ar,a8,fU];show (if (-1:Int) < 0 then ((-1:Int)+((l.length+1:Nat):Int)).toNat else min (-1:Int).toNat (l.length+1))=l.length;rw [aw nofun];omega
 rw [h1,HT.nU,ro,Nat.sub_zero,<-mr,rg (aG _),b0]
def F4 (K:bp):Sp:=λvs H Q _=>∃(S N W:Addr)(ns:z0u) (at_:Nat) (cC ws:z0t),vs=[.ref S,.int (at_:Int),.ref N,.ref W]/\aI K H S (ns.map V.int)/\ns.length<=1000/\H N=some (.lst (cC.map V.str))/\H W=some (.lst (ws.map V.str))/\0 < cC.length/\cC.length<=5/\0 < ws.length/\ws.length<=10 /\
 ∀(R:Addr)(rs:z0q)(aa:88)(H':Hp),H R=none->aD H H'->H' R=some (.lst 153)->bM K H' rs aa->aa.length=cC.length->(∀(j:Nat)(ru:ax),aa[j]?=some ru->cC[j]?=some ru.1/\yf cC ws j ru.2)->Q (.ref R) H'
def mE:aK ["_law_script","_law_at","_law_names_here","_law_words_here","_law_rules","_law_k","_law_cell","_law_parts_here"] ["_law_script","_law_at","_law_names_here","_law_words_here"] (ay Gp):=163
def KJ (F:iz K "_law_skeleton" "_law_skeleton" Gp f fd)(T:Txt mg)(GC:aF P w K mg base 1 "_law_cell_at" ["_law_script","_law_k"] (w6 K))(GD:aF P w K mg base 1 "_law_digits" ["_law_cell","_law_many","_law_some"] so):bR P w K mg base fI 2 f fd ["_law_script","_law_at","_law_names_here","_law_words_here"] (F4 K):=by
 refine F.ok mE 184 186
 .obtain⟨S,N,W,ns,at_,cC,ws,rfl,_⟩:=h;rfl
 obtain⟨S,N,W,ns,at_,cC,ws,rfl,hS,hn,hN,hW,Vo,hn1,hw0,hw1,q⟩:=h;refine⟨_,ag (aA (i:=4) mE.nd rfl 90 (bK ak))
  (ag (bJ bW rfl (ie rfl T.Fs (ab (aP aU rfl T.len d_ (ab (pv 2) ak)) ak)) (aq (i:=5) mE.nd rfl 90)
   (ag (aA (i:=6) mE.nd rfl 90 (bC GC hr rfl (ab 91 (ab (aN df (pv 1) (pv 5)) ak))))
   (ag (aA (i:=7) mE.nd rfl 90 (bC GD hr rfl (ab (aN cY (pv 6) av) (ab (aN de (pv 6) av) (ab (pv 3) ak)))))
   (ag (ik (cy (bc lX (aN df (pv 5) av) (aP aU rfl T.len d_ (ab (pv 2) ak)) (cA _))
    (ag (aA (i:=7) mE.nd rfl 90 (aN qK (bC GD hr rfl (ab (aN cY (pv 6) av) (ab (aN df av (aN de (pv 6) av)) (ab (pv 3) ak)))) (bX (ab (a_ cO (pv 2) (aN df (pv 5) av) 142) ak))))
    (ao (cy (bc jx (aN de (aN cY (pv 6) av) av) av (cA _))
     (ao (aA (i:=7) mE.nd rfl 90 (aN qK (dX i7 (pv 7) (eU (yR rW av)) gY) (dX i7 (pv 7) gY (eU (yR rW av)))))) bf))) bf))
   (ao (cU (gZ gA iD iE cx (pv 4) (ab (bX (ab (a_ cO (pv 2) (pv 5) 142) (ab (pv 7) ak))) ak))))))))
  (ao (bw (pv 4)))),?_⟩
 nofun
 refine⟨uq,λL hL=>?_⟩;have s1:=af hL 138;have e1:upd H L 138 L=some 138:=ae;generalize upd H L 138=H1 at s1 e1;refine⟨_,rfl,N,_,rfl,.inl (aI.of (s1 _ _ hN)),((cC.map V.str).length:Int),rfl,by rw [ar];omega,by rw [ar];omega,?_⟩;rw [ar,jn];refine jG (n:=cC.length) (λi σ H3=>∃(rs:z0q)(aa:88)(y5 y6 y7:Option V),σ=[aE S,some (.int (at_:Int)),aE N,aE W,aE L,y5,y6,y7]/\aD H H3/\H3 L=some (.lst 153)/\bM K H3 rs aa/\aa.length=i/\∀(j:Nat)(ru:ax),aa[j]?=some ru->cC[j]?=some ru.1/\yf cC ws j ru.2) ⟨[],[],none,none,none,rfl,s1,e1,.nil,rfl,λj ru e=>by cases e⟩ ?_ ?_
 .intro i σ H3 hi pG
  ac_nf0
  obtain⟨rs,aa,y5,y6,y7,rfl,s3,eL,rl,hl,hf⟩:=pG;have lr:=a7 rl;obtain⟨nm,n6⟩:∃nm,cC[i]?=some nm:=⟨cC[i],cZ hi⟩;have atn:pQ (cC.map V.str) (0+(i:Int))=some (.str nm):=by
   rw [jc];exact cH (by rw [aX,n6];rfl)
  refine goN ?_
  ac_rfl
  refine⟨_,rfl,_,rfl,_,rfl,_,_,rfl,rfl,?_⟩;refine⟨S,ns,at_+i,(by show [V.ref S,V.int ((at_:Int)+(0+(i:Int)))]=_;congr 3;push_cast;omega),s3.seq hS,hn,λc _=>?_⟩;obtain⟨d,hd⟩:∃d:Nat,c % 3=(d:Int):=⟨(c % 3).toNat,∅⟩;refine⟨_,rfl,_,_,rfl,rfl,⟨nofun,nofun⟩,_,rfl,_,_,rfl,rfl,(by show (0:Int) < 3;decide),_,rfl,?_⟩;refine⟨_,d,W,ws,(by show [_,V.int (c % 3),_]=_;rw [hd]),∅,s3 _ _ hW,hw0,∅,λp ps H4 s4 e4 l4 MT=>?_⟩;have yN:=s3.trans s4;have QD:=s4 _ _ eL;have U3:=rl.same s4;refine⟨λσ H5=>∃(p5:Addr) (dq:z0t),σ=[aE S,some (.int (at_:Int)),aE N,aE W,aE L,some (.int (0+(i:Int))),some (.int c),aE p5]/\aD H4 H5/\aZ K H5 p5 (dq.map V.str)/\yf cC ws i dq,?_,?_⟩
  .refine⟨_,rfl,_,_,rfl,rfl,_,rfl,N,_,rfl,.inl (aI.of (yN _ _ hN)),_,_,rfl,rfl,_,rfl,?_⟩;refine b_ (λcc=>?_) (λcc=>?_)
   .have lt:=cR cc;rw [ar] at lt;have lt':i+1 < cC.length:=by omega
    obtain⟨n',Dc⟩:∃n',cC[i+1]?=some n':=⟨cC[i+1],cZ lt'⟩;have aak:pQ (cC.map V.str) (0+(i:Int)+1)=some (.str n'):=by
     rw [jc,show (i:Int)+1=((i+1:Nat):Int) by push_cast;rfl];exact cH (by rw [aX,Dc];rfl)
    obtain⟨d2,hd2⟩:∃d2:Nat,1+c % 2=(d2:Int):=⟨(1+c % 2).toNat,∅⟩;refine⟨_,rfl,_,_,rfl,rfl,⟨nofun,nofun⟩,_,rfl,_,_,rfl,rfl,(by show (0:Int) < 2;decide),_,_,rfl,rfl,_,rfl,?_⟩;refine⟨_,d2,W,ws,(by show [_,V.int (1+c % 2),_]=_;rw [hd2]),∅,yN _ _ hW,hw0,∅,λp6 wx H6 s6 e6 l6 hwx=>?_⟩;have Mp:=yN.trans s6;refine⟨_,rfl,_,rfl,_,_,rfl,rfl,N,_,_,_,rfl,rfl,aI.of (Mp _ _ hN),aak,Fl,λu hu=>?_⟩;have k7:=af hu (.tup [V.str n']);refine⟨p6,u,_,_,rfl,rfl,k7.tup (aZ.of e6),aZ.of ae,(by rw [ar];show wx.length+1<=sizeLine;exact fits ∅),λp8 H8 s8 e8=>?_⟩;have Z1:aZ K H8 p8 ((wx++[n']).map V.str):=by rw [ba];exact e8
    have P8:=s6.trans (k7.trans s8);have UN:wx≠[]:=λz=>by rw [z] at l6;simp at l6;omega
    refine⟨_,rfl,_,_,rfl,rfl,⟨nofun,nofun⟩,_,_,rfl,rfl,(by show (0:Int) < 2;decide),rfl,_,rfl,?_⟩;refine b_ (λc2=>?_) (λc2=>?_)
    .refine⟨_,rfl,_,rfl,_,rfl,p8,_,rfl,Z1,λp9 H9 s9 e9=>?_⟩;rw [Jb] at e9;refine⟨_,rfl,_,rfl,_,rfl,p8,_,rfl,s9.tup Z1,λpA HA sA eA=>?_⟩;rw [Jc] at eA;refine⟨p9,pA,_,_,rfl,rfl,sA.tup e9,eA,(by rw [ar];show 1+wx.length<=sizeLine;exact fits ∅),λpB HB sB eB=>?_⟩;exact⟨pB,n'::wx,rfl,P8.trans (s9.trans (sA.trans sB)),eB,.inl ⟨n',wx,Dc,UN,hwx,∅,.inr rfl⟩⟩
    exact⟨p8,wx++[n'],rfl,P8,Z1,.inl ⟨n',wx,Dc,UN,hwx,∅,.inl rfl⟩⟩
   have ge:¬(0+(i:Int)+1 < ((cC.map V.str).length:Int)):=λz=>cc (cv z);rw [ar] at ge;exact⟨p,ps,rfl,aD.refl _,aZ.of e4,.inr ⟨∅,MT,∅⟩⟩
  rintro σ H5 ⟨p5,dq,rfl,s5,e5,sk⟩;have CS:=yN.trans s5;have B9:=s5 _ _ QD;refine⟨_,rfl,.inl ⟨rfl,_,aI.of B9⟩,_,rfl,_,rfl,N,_,_,_,rfl,rfl,aI.of (CS _ _ hN),atn,_,rfl,qo,λR hR=>?_⟩;have k6:=af hR (.tup [.str nm,.ref p5]);have v1:aZ K (upd H5 R (.tup [.str nm,.ref p5])) R [.str nm,.ref p5]:=aZ.of ae;have v2:=k6.tup e5;generalize upd H5 R (.tup [.str nm,.ref p5])=H6 at k6 v1 v2;have VU:=k6 _ _ B9;refine⟨L,_,_,rfl,rfl,VU,219,?_⟩;refine⟨rs++[R],aa++[(nm,dq)],_,_,_,rfl,λb o hb=>?_,by rw [ae,ba];rfl,fc ((U3.same (s5.trans k6)).keep λb xs z=>bz VU z) ⟨p5,bz VU v1,bz VU v2⟩,by rw [a8,hl];rfl,λj ru e=>?_⟩
  .rw [aj (λz=>by rw [z,hL] at hb;cases hb)];exact k6 _ _ (CS b o hb)
  by_cases cj:j < aa.length
  .rw [nj cj] at e;exact hf j ru e
  have lj:=(bu.mp e).1;rw [a8,fU] at lj;have ej:j=aa.length:=by omega
  subst ej;rw [lU (aG _),oG] at e;cases e;rw [hl];exact⟨n6,sk⟩
 rintro σ H3 ⟨rs,aa,y5,y6,y7,rfl,s3,eL,rl,hl,hf⟩;exact⟨_,rfl,q L rs aa H3 hL s3 eL rl hl hf⟩
end
end hJ
namespace L2
open PySem
def jf {X:Cx}(K:bp)(hK:X.K=K:=by rfl):ng X (compareOp .NotIn) (U5 K true):=by
 subst hK;exact iF
def dG (h:Str) (zs:z0t):OF (.str h) 203=decide (h∈zs):=by
 have:OF (.str h) 203=true↔h∈zs:=by
  unfold OF;rw [List.any_eq_true];constructor
  .rintro⟨x,h1,h2⟩;obtain⟨z,hz,rfl⟩:=bU.mp h1;have:z=h:=by simpa [vH] using h2
   rw [<-this];exact hz
  intro hm;exact⟨.str h,bU.mpr ⟨h,hm,rfl⟩,by simp [vH]⟩
 by_cases c:h∈zs
 .rw [cv c];exact this.mpr c
 rw [dU c];cases e:OF (.str h) 203 with
 | false=>rfl
 | true=>exact absurd (this.mp e) c
def bZ (zs:z0t):(154).all jI=true:=by
 rw [eG];intro x hx;obtain⟨z,_,rfl⟩:=bU.mp hx;rfl
section
variable {K:bp}{H:Hp}{p D:Addr}{zs:z0t}{σ:St}{x:Str}{js:z0j}{te:TE}{Qp:Hp->Prop}
def gK (rest:St)(pr:Str->Bool)(hc:dP [x] js σ=none::rest)(hp:aZ K H p 203)(hz:zs.length<=1000)(hD:H D=none)
  (Sw:∀z∈zs,∀(H':Hp)(Qy:VK),aD H H'->Qy (.bl (pr z)) H'->te (some (.str z)::rest) H' Qy)
  (q:∀H2,aD H H2->H2 D=some (.lst ((zs.map pr).map V.bl))->Qp H2) :
  ∃W:241,(∃m,W 0 m [] (dP [x] js σ) 227) /\
 ∀i m ys σ' H,W i m ys σ' H->((ox K p).stop i H/\Qp H)\/((ox K p).go i H/\∃m',m' < m/\∀x H',(ox K p).lV i H x H'->dF 0 x σ' H' λσ2 H2=>hX σ2 H2 λb H3 =>
  if b=true then te σ2 H3 239 else 257):=by
 refine gL (xs:=154) (λi ys σ2 H2=>ys=((zs.take i).map pr).map V.bl/\(∃y0,σ2=y0::rest)/\370)
  ⟨rfl,⟨none,hc⟩,af hD _,ae⟩ (λi ys σ2 H2 _ h=>?_) (λi v ys σ2 H2 ex h=>?_) (λys σ2 H2 h=>?_)
 .obtain⟨_,_,sm,_⟩:=h;exact sm.tup hp
 .obtain⟨rfl,⟨y0,rfl⟩,sm,hd⟩:=h;rw [aX] at ex;obtain⟨z,ez,rfl⟩:=bT.mp ex;have li:=(bu.mp ez).1;refine goN (uJ (Sw z (cE ez) _ _ sm ⟨hd,br (by rw [ar,ar,du];omega),?_,157,λb o hb=>?_,ae⟩))
  .rw [cK,ez,ba,ba];rfl
  rw [330];exact sm b o hb
 obtain⟨rfl,_,sm,hd⟩:=h;rw [ar,b0] at hd;exact q H2 sm hd
def qh (rest:St)(pr:Str->Bool)(hc:dP [x] js σ=none::rest)(hp:aI K H p 203)(hz:zs.length<=1000)(hD:H D=none)
  (Sw:∀z∈zs,∀(H':Hp)(Qy:VK),aD H H'->Qy (.bl (pr z)) H'->te (some (.str z)::rest) H' Qy)
  (q:∀H2,aD H H2->H2 D=some (.lst ((zs.map pr).map V.bl))->Qp H2) :
  ∃W:241,(∃m,W 0 m [] (dP [x] js σ) 227) /\
 ∀i m ys σ' H,W i m ys σ' H->((jK K p).stop i H/\Qp H)\/((jK K p).go i H/\∃m',m' < m/\∀x H',(jK K p).lV i H x H'->dF 0 x σ' H' λσ2 H2=>hX σ2 H2 λb H3 =>
  if b=true then te σ2 H3 239 else 257):=by
 refine bL (xs:=154) (λi ys σ2 H2=>ys=((zs.take i).map pr).map V.bl/\(∃y0,σ2=y0::rest)/\370)
  ⟨rfl,⟨none,hc⟩,af hD _,ae⟩ (λi ys σ2 H2 _ h=>?_) (λi v ys σ2 H2 ex h=>?_) (λys σ2 H2 h=>?_)
 .obtain⟨_,_,sm,_⟩:=h;exact sm.seq hp
 .obtain⟨rfl,⟨y0,rfl⟩,sm,hd⟩:=h;rw [aX] at ex;obtain⟨z,ez,rfl⟩:=bT.mp ex;have li:=(bu.mp ez).1;refine goN (uJ (Sw z (cE ez) _ _ sm ⟨hd,br (by rw [ar,ar,du];omega),?_,157,λb o hb=>?_,ae⟩))
  .rw [cK,ez,ba,ba];rfl
  rw [330];exact sm b o hb
 obtain⟨rfl,_,sm,hd⟩:=h;rw [ar,b0] at hd;exact q H2 sm hd
end
theorem all_map (zs:z0t)(pr:Str->Bool):(zs.map pr).all id=zs.all pr:=by
 rw [List.all_map];rfl
end L2
namespace hJ
open PySem M11
abbrev hm (aa:88):z0t:=aa.map 87
structure Small (aa:88):Prop where
 one:1<=aa.length
 most:aa.length<=32
 qe:∀ru∈aa,ru.2.length<=6
open PySem L2 M11
section
def ij {H:Hp}{R D:Addr}{rs:z0q}{aa:88}{σ:St}{Qp:Hp->Prop}(hR:aI K H R 153)(cM:bM K H rs aa)(bO:aa.length<=1000)(hD:H D=none)
  (q:∀H2,aD H H2->H2 D=some (.lst ((hm aa).map V.str))->Qp H2) :
  ∃W:241,(∃m,W 0 m [] (dP ["_law_head","_law_parts_here"] [] σ) 227) /\
 ∀i m ys σ' H,W i m ys σ' H->((jK K R).stop i H/\Qp H)\/((jK K R).go i H/\∃m',m' < m/\∀x H',(jK K R).lV i H x H'->zz K 2 (iZ (dF 0) (iZ (dF 1) BV)) x σ' H' λσ2 H2=>hX σ2 H2 λb H3 =>
  if b=true then gN 0 σ2 H3 239 else 257):=by
 have ll:=a7 cM;refine bL (xs:=145) (λi ys σ2 H2=>ys=((hm aa).take i).map V.str/\(∃y0 y1,σ2=[y0,y1])/\370)
  ⟨rfl,⟨none,none,rfl⟩,af hD _,ae⟩ (λi ys σ2 H2 _ h=>?_) (λi x ys σ2 H2 ex h=>?_) (λys σ2 H2 h=>?_)
 .obtain⟨_,_,sm,_⟩:=h;exact sm.seq hR
 .obtain⟨rfl,⟨y0,y1,rfl⟩,sm,MX⟩:=h;rw [aX] at ex;obtain⟨r,er,rfl⟩:=bT.mp ex;obtain⟨ru,e1,p,v1,v2⟩:=cM.get er;have li:=(bu.mp e1).1;refine⟨r,_,rfl,sm.tup v1,rfl,_,_,rfl,_,_,rfl,rfl,?_⟩;refine uJ ?_;refine⟨_,rfl,MX,br (by rw [ar,du];omega),?_,⟨_,_,rfl⟩,λb o hb=>?_,ae⟩
  .have:(hm aa)[i]?=some ru.1:=by unfold hm;rw [aX,e1];rfl
   rw [cK,this,ba];rfl
  rw [330];exact sm b o hb
 obtain⟨rfl,_,sm,MX⟩:=h;rw [ar,ll,rO (by unfold hm;rw [ar];exact aG _)] at MX;exact q H2 sm MX
def qG (K:bp):Sp:=λvs H Q _=>∃(R:Addr)(rs:z0q)(aa:88)(b:Bool),vs=[.ref R,.bl b]/\aI K H R 153/\bM K H rs aa/\Small aa /\
 ∀(D:Addr)(H':Hp),H D=none->aD H H'->H' D=some (.lst ((cf b aa).map V.str))->(cf b aa).length<=64->Q (.ref D) H'
abbrev NE:z0t:=["_law_rules","_law_words_here","_law_head","_law_parts_here","_law_heads","_law_ended_here","_law_again","_law_good_here"]
def jQ:aK NE ["_law_rules","_law_words_here"] (ay A2):=163
def HH (F:iz K "_law_ended" "_law_ended" A2 f fd)(T:Txt mg):bR P w K mg base fI 1 f fd ["_law_rules","_law_words_here"] (qG K):=by
 refine F.ok jQ 184 186
 .obtain⟨R,rs,aa,b,rfl,_⟩:=h;rfl
 obtain⟨R,rs,aa,b,rfl,hR,cM,qw,q⟩:=h;have Ym:=qw.one;have Iq:=qw.most;refine⟨_,ag (aA (i:=4) jQ.nd rfl (Or.inr rfl) (aT ["_law_head","_law_parts_here"] [] rfl (aR 91) 162 nofun rfl nofun
   504 220
   (λ_ _ _ _ _=>pv 0)))
  (ag (aA (i:=5) jQ.nd rfl (Or.inr rfl) (bK ak))
  (ag (bJ bW rfl (aR 91) (aq (i:=6) jQ.nd rfl 90)
   (ao (bJ bW rfl (aR 91) (di (n:=2) K rfl (az (aq (i:=2) jQ.nd rfl 90) (az (aq (i:=3) jQ.nd rfl 90) bE)))
    (ag (aA (i:=7) jQ.nd rfl 90 (aP (dY rfl) rfl T.all boot_all (ab
      (aT ["_law_part"] [(5,"_law_ended_here"),(4,"_law_heads"),(1,"_law_words_here")] rfl (eV (pv 3)) 162 nofun rfl nofun
       (λ_ _ _ _ _=>aq (i:=0) (show (["_law_part","_law_ended_here","_law_heads","_law_words_here"]:z0t).Nodup by decide +kernel) rfl 90) 220
       (λ_ _ _ _ _=>Mu (fQ (dQ K) 91 (pv 1) rfl) (o8 (sQ (pv 3) (o8 (fQ (jf K) 91 (pv 2) rfl)))))) ak)))
    (ao (cy (PW.pt (mI (gW (pv 7)) (jR (bc iF (pv 2) (pv 5) rfl))))
     (ao (cU (gZ gA iD iE cx (pv 5) (ab (pv 2) ak)))) bf))))))
  (ao (bw (pv 5))))),?_⟩
 nofun
 refine⟨_,rfl,R,rfl,⟨_,hR⟩,λD hD=>ij hR cM ∅ hD λH1 s1 eD=>?_⟩;refine goN ?_
 ac_rfl
 refine⟨uq,λL hL=>?_⟩;have s2:=s1.trans (af hL 138);have oB:=af hL 138 _ _ eD;have nL:L≠D:=λz=>by rw [z,eD] at hL;cases hL
 have fL:H L=none:=s1.free hL;have e2:upd H1 L 138 L=some 138:=ae;generalize upd H1 L 138=H2 at s2 oB e2;refine goN ?_
 ac_rfl
 have ll:=a7 cM
 let yj:uh:=λi σ H3=>∃(es:z0t)(y2 y3 y6 y7:Option V),σ=[aE R,some (.bl b),y2,y3,aE D,aE L,y6,y7]/\aD H H3/\H3 D=some (.lst ((hm aa).map V.str))/\H3 L=some (.lst (es.map V.str))/\es=passes (λe=>hZ b (hm aa) e aa) i []/\es.length<=32 * i
 refine⟨_,rfl,R,rfl,⟨_,s2.seq hR⟩,bQ (xs:=145) yj ⟨[],_,_,_,_,rfl,s2,oB,e2,rfl,92⟩ ?_ ?_ ?_⟩
 .rintro i σ H3 _ ⟨es,y2,y3,y6,y7,rfl,s3,_⟩;exact s3.seq hR
 .intro i x σ H3 ex pG
  ac_nf0
  obtain⟨es,y2,y3,y6,y7,rfl,s3,lL,ZM,he,Td⟩:=pG;have li:=(bu.mp ex).1;rw [ar] at li;refine goN ?_
  ac_nf
  let Fe:uh:=λj σ H4=>∃(xU:z0t)(y2 y3 y7:Option V),σ=[aE R,some (.bl b),y2,y3,aE D,aE L,some x,y7]/\aD H H4/\H4 D=some (.lst ((hm aa).map V.str))/\H4 L=some (.lst (xU.map V.str))/\xU=hZ b (hm aa) es (aa.take j)/\xU.length<=32 * i+j
  refine⟨_,rfl,R,rfl,⟨_,s3.seq hR⟩,bQ (xs:=145) Fe ⟨es,_,_,_,rfl,s3,lL,ZM,rfl,∅⟩ ?_ ?_ ?_⟩
  .rintro j σ H4 _ ⟨xU,y2,y3,y7,rfl,s4,_⟩;exact s4.seq hR
  .intro j x2 σ H4 iM pG
   ac_nf0
   obtain⟨xU,y2,y3,y7,rfl,s4,JS,QD,Df,Tc⟩:=pG;have lj:=(bu.mp iM).1;rw [ar] at lj;rw [aX] at iM;obtain⟨r,er,rfl⟩:=bT.mp iM;obtain⟨ru,e1,p,v1,v2⟩:=cM.get er;have ix:=qw.qe ru (cE e1);refine⟨r,_,rfl,s4.tup v1,rfl,_,_,rfl,_,_,rfl,rfl,?_⟩;refine⟨_,rfl,p,rfl,⟨_,s4.tup v2⟩,λD2 jL=>gK (zs:=ru.2) [aE L,aE D,some (.bl b)] (λz=>decide (z∈xU) || (b && !decide (z∈hm aa))) rfl (s4.tup v2) ∅ jL (λz _ H5 Qy s5 hq=>?_) λH5 s5 eD5=>?_⟩
   .refine⟨_,rfl,_,rfl,L,_,rfl,.inl (aI.of (s5 _ _ QD)),rfl,bZ _,?_⟩;refine⟨_,rfl,?_⟩;rw [dG];show if decide (z∈xU)=true then _ else _;refine 246
    .rw [c] at hq;exact hq
    have c':decide (z∈xU)=false:=by simpa using c
    rw [c',Bool.false_or] at hq;refine⟨_,rfl,b,rfl,?_⟩;refine b_ (λcb=>?_) (λcb=>?_)
    .rw [cb,mq] at hq;refine⟨_,rfl,_,rfl,D,_,rfl,.inl (aI.of (s5 _ _ JS)),rfl,bZ _,?_⟩;rw [dG];exact hq
    have cb':b=false:=by simpa using cb
    rw [cb',rm] at hq;exact hq
   refine⟨D2,_,rfl,aI.of eD5,?_⟩;rw [all_map];refine goN ?_
   ac_rfl
   have yM:=s4.trans s5;have B9:=s5 _ _ QD;have pe:hZ b (hm aa) es (aa.take (j+1))=eJ b (hm aa) xU ru:=by
    rw [Df,cK,e1];unfold hZ;rw [wj];rfl
   refine⟨_,rfl,_,rfl,?_⟩;refine 246
   .refine⟨_,rfl,_,rfl,L,_,rfl,.inl (aI.of B9),rfl,bZ _,_,rfl,?_⟩;rw [dG];show if (!decide (ru.1∈xU))=true then _ else _;refine b_ (λc2=>?_) (λc2=>?_)
    .refine⟨_,rfl,.inl ⟨rfl,_,aI.of B9⟩,_,rfl,L,_,_,rfl,rfl,B9,219,?_⟩;refine⟨xU++[ru.1],_,_,_,rfl,λb o hb=>?_,by rw [aj (d8 nL)];exact s5 _ _ JS,by rw [ae,ba];rfl,?_,by rw [a8];simp;omega⟩
     .rw [aj (λz=>by rw [z,fL] at hb;cases hb)];exact yM b o hb
     rw [pe];unfold eJ;rw [c,mq,aw c2]
    refine⟨xU,_,_,_,rfl,yM,s5 _ _ JS,B9,?_,∅⟩;rw [pe];unfold eJ;rw [c,mq,au c2]
   refine⟨xU,_,_,_,rfl,yM,s5 _ _ JS,B9,?_,∅⟩;rw [pe];unfold eJ;rw [au (λz=>c (jo.mp z).1)]
  rintro σ H4 ⟨xU,y2,y3,y7,rfl,s4,JS,QD,Df,Tc⟩;rw [ar,ll] at Tc;rw [ar,ll,b0] at Df;exact⟨xU,_,_,_,_,rfl,s4,JS,QD,by rw [Df,he];rfl,∅⟩
 rintro σ H3 ⟨es,y2,y3,y6,y7,rfl,s3,lL,ZM,he,Td⟩;rw [ar,ll] at he Td;refine⟨_,rfl,?_⟩;have e:cf b aa=es:=he.symm;have l5:=iW _ _ (ot b aa).nd (ot b aa).sub;rw [ar] at l5;exact q L H3 fL s3 (by rw [e];exact ZM) ∅
end
def me {aa:88}{x:Str}:x∈hm aa↔x∈hd aa:=by
 constructor
 .intro h;obtain⟨ru,a,b⟩:=bU.mp h;exact b ▸ Di a
 intro h;obtain⟨ru,a,b⟩:=MV h;exact bU.mpr ⟨ru,a,b⟩
def UB (aa:88)(h:Str) (v:Int):Prop:=∀g,dZ M11.bl aa (zB aa) g->iI M11.bl aa g->∃m,g h=some m/\m<=v
def UB.le {aa:88}{h:Str}{v u:Int}(a:UB aa h v)(l:v<=u):UB aa h u:=λg s t=>by
 obtain⟨m,e,k⟩:=a g s t;exact⟨m,e,Int.le_trans k l⟩
def Cp {aa:88}{x:Str}(nn:x∉hd aa){ru:ax}(ix:ru∈aa)(hm:x∈ru.2):UB aa x 0:=λg st _=>by
 refine⟨0,?_,j4 _⟩;refine dZ.keep (J:=λg=>g x=some 0) (λg P_ j h2 _=>?_) st ?_
 .show dO g P_.1 _ x=some 0;unfold dO;have:x≠P_.1:=λz=>nn (z ▸ Di h2);rw [au this];exact j
 show zB aa x=some 0;unfold zB;rw [aw (wO _ _ _ _ (.inr ⟨jm.mpr ⟨ru,ix,hm⟩,nn⟩))]
theorem Cu {f g:Str->Int}:∀(ps:z0t),(∀x∈ps,f x<=g x)->(ps.map f).sum<=(ps.map g).sum
 | [],_=>j4 _
 | a::r,h=>by
  have h1:=h a cS;have h2:=Cu r λx hx=>h x (cT _ hx);simp only [cI,lQ];omega
def wU {aa:88}{h:Str}{ps:z0t}(hm:(h,ps)∈aa){f:Str->Int}(hf:∀p∈ps,UB aa p (f p)):UB aa h (1+(ps.map f).sum):=λg st se=>by
 have hv:∀p∈ps,∃m,g p=some m/\m<=f p:=λp hp=>hf p hp g st se;have hs:=se _ hm;unfold cW at hs;have a1:k_ g (h,ps)=true:=eG.mpr λp hp=>by obtain⟨m,e1,_⟩:=hv p hp;show (g p).isSome=true;rw [e1];rfl
 have s0:aM g (h,ps)<=1+(ps.map f).sum:=by
  unfold aM;have:=Cu (f:=λp=>(g p).getD 0) (g:=f) ps λp hp=>by obtain⟨m,e1,e2⟩:=hv p hp;show (g p).getD 0<=_;rw [e1];exact e2
  show 1+(ps.map λp=>(g p).getD 0).sum<=_;omega
 rw [a1,mq] at hs;cases gn:g h with
 | none=>rw [show g (h,ps).1=none from gn] at hs;cases hs
 | some m =>
  rw [show g (h,ps).1=some m from gn] at hs;refine⟨m,rfl,?_⟩;have:¬aM g (h,ps) < m:=by simpa [M11.bl] using hs
  omega
def bG (g:G)(z:Str):Int:=(g z).getD 0
def eI (ns:z0t)(g:G)(ru:ax):G:=if (ru.2.all λp=>decide (p∈ns))=true then dO g ru.1 (if aM g ru > bG g ru.1 then aM g ru else bG g ru.1) else g
def uW (ns:z0t)(aa:88)(g:G):G:=aa.foldl (eI ns) g
def wQ (ns:z0t)(g:G)(ru:ax)(x:Str):bG (eI ns g ru) x=if (ru.2.all λp=>decide (p∈ns))=true/\x=ru.1 then (if aM g ru > bG g ru.1 then aM g ru else bG g ru.1) else bG g x:=by
 unfold eI;by_cases c:(ru.2.all λp=>decide (p∈ns))=true
 .rw [aw c];by_cases e:x=ru.1
  .rw [aw (show (ru.2.all λp=>decide (p∈ns))=true/\x=ru.1 from ⟨c,e⟩)];show (if x=ru.1 then some _ else g x).getD 0=_;rw [aw e];rfl
  rw [au (show ¬((ru.2.all λp=>decide (p∈ns))=true/\x=ru.1) from λz=>e z.2)];show (if x=ru.1 then some _ else g x).getD 0=_;rw [au e];rfl
 rw [au c,au (show ¬((ru.2.all λp=>decide (p∈ns))=true/\x=ru.1) from λz=>c z.1)]
def FN (ns:z0t)(g:G)(ru:ax)(x:Str):bG g x<=bG (eI ns g ru) x:=by
 rw [wQ]
 split
 .rename_i h
  rw [h.2]
  split <;> omega
 exact j4 _
theorem rQ (ns:z0t):∀(rs:88)(g:G)(x:Str),bG g x<=bG (rs.foldl (eI ns) g) x
 | [],_,_=>j4 _
 | r::rs,g,x=>Int.le_trans (FN ns g r x) (rQ ns rs (eI ns g r) x)
def yI {g g':G}{ru:ax}(h:∀p∈ru.2,bG g p=bG g' p):aM g ru=aM g' ru:=by
 unfold aM;rw [show (ru.2.map λp=>(g p).getD 0)=ru.2.map λp=>(g' p).getD 0 from rH h]
section
variable {aa:88}{ns cs:z0t}
def PZ (aa:88) (ns cs:z0t):Prop:=∀ru∈aa,(∀p∈ru.2,p∈ns)->ru.1∈cs/\∀p∈ru.2,qd cs p < qd cs ru.1
def Lk (aa:88) (ns cs:z0t) (k:Nat)(g:G):Prop:=∀ru∈aa,(∀p∈ru.2,p∈ns)->qd cs ru.1 < k->aM g ru<=bG g ru.1
def PK {ru:ax}(h:(ru.2.all λp=>decide (p∈ns))=true):∀p∈ru.2,p∈ns:=λp hp=>cR (eG.mp h p hp)
def lh {k:Nat}{g:G}{ru:ax}(h:Lk aa ns cs k g)(hr:ru∈aa){x:Str}(hx:qd cs x < k):bG (eI ns g ru) x=bG g x:=by
 rw [wQ]
 split
 .rename_i c
  have:=h ru hr (PK c.1) (c.2 ▸ hx);rw [au ∅,c.2]
 rfl
def yx (a:PZ aa ns cs){k:Nat}{g:G}{ru:ax}(h:Lk aa ns cs k g)(hr:ru∈aa):Lk aa ns cs k (eI ns g ru):=λr2 h2 e2 l2=>by
 rw [<-yI (g:=g) λp hp=>(lh h hr (ku ((a r2 h2 e2).2 p hp) l2)).symm,lh h hr l2];exact h r2 h2 e2 l2
theorem rS (a:PZ aa ns cs){k:Nat}:∀(rs:88)(g:G),(∀ru∈rs,ru∈aa)->Lk aa ns cs k g->Lk aa ns cs k (rs.foldl (eI ns) g)/\∀x,qd cs x < k->bG (rs.foldl (eI ns) g) x=bG g x
 | [],_,_,h=>⟨h,λ_ _=>rfl⟩
 | r::rs,g,hs,h=>by
  have h1:=yx a h (hs r cS);obtain⟨i1,i2⟩:=rS a rs _ (λru hr=>hs ru (cT _ hr)) h1;exact⟨i1,λx hx=>(i2 x hx).trans (lh h (hs r cS) hx)⟩
theorem rR (a:PZ aa ns cs){k:Nat}:∀(rs:88)(g:G),(∀ru∈rs,ru∈aa)->Lk aa ns cs k g->∀ru∈rs,(∀p∈ru.2,p∈ns)->qd cs ru.1=k->aM (rs.foldl (eI ns) g) ru<=bG (rs.foldl (eI ns) g) ru.1
 | [],_,_,_,_,h,_,_=>(by cases h)
 | r::rs,g,hs,h,ru,ix,hp,hk=>by
  have hr:=hs r cS;have h1:=yx a h hr;rcases b8.mp ix with e | e
  .subst e;have ah:=a ru hr hp;have lt:∀p∈ru.2,qd cs p < k:=λp jW=>hk ▸ ah.2 p jW;obtain⟨_,i2⟩:=rS a rs (eI ns g ru) (λru hr=>hs ru (cT _ hr)) h1;have e1:aM (List.foldl (eI ns) g (ru::rs)) ru=aM g ru:=yI λp jW=>(i2 p (lt p jW)).trans (lh h hr (lt p jW));rw [e1];have e2:=rQ ns rs (eI ns g ru) ru.1;have e3:=wQ ns g ru ru.1;rw [aw ⟨eG.mpr λp jW=>cv (hp p jW),rfl⟩] at e3;show _<=bG (List.foldl (eI ns) (eI ns g ru) rs) ru.1;have e4:aM g ru<=(if aM g ru > bG g ru.1 then aM g ru else bG g ru.1):=by split <;> omega
   omega
  exact rR a rs _ (λru hr=>hs ru (cT _ hr)) h1 ru e hp hk
def FO (a:PZ aa ns cs){k:Nat}{g:G}(h:Lk aa ns cs k g):Lk aa ns cs (k+1) (uW ns aa g):=λru hr hp hk=>by
 by_cases c:qd cs ru.1 < k
 .exact(rS a aa g (λ_ z=>z) h).1 ru hr hp c
 exact rR a aa g (λ_ z=>z) h ru hr hp ∅
theorem vi (a:PZ aa ns cs):∀n,Lk aa ns cs n (passes (uW ns aa) n λ_=>none)
 | 0=>λ_ _ _ h=>absurd h (mz _)
 | n+1=>FO a (vi a n)
theorem vh (ns:z0t)(aa:88)(x:Str):∀n,0<=bG (passes (uW ns aa) n λ_=>none) x
 | 0=>j4 _
 | n+1=>Int.le_trans (vh ns aa x n) (rQ ns aa _ x)
def Im:∀(l:z0t)(x:Str),x∈l->qd l x < l.length:=λl x h=>(bu.mp (xN l x h)).1
def FP (uv:∀x,Em aa x->x∈ns)(a:PZ aa ns cs){n:Nat}(hl:cs.length<=n):uk aa (bG (passes (uW ns aa) n λ_=>none)) :=
 ⟨λz=>vh ns aa z n,λru hr hp=>vi a n ru hr (λp jW=>uv p (hp p jW)) (gy (Im cs ru.1 (a ru hr λp jW=>uv p (hp p jW)).1) hl)⟩
end
def z6 (aa:88) (ms:z0t):Prop:=∀(i:Nat)(h:Str),ms[i]?=some h->(∃je,aa[0]?=some je/\h=je.1)\/∃ru∈aa,ru.1∈ms.take i/\h∈ru.2
def Ju (aa:88)(ru:ax) (j:Nat)(z:Str):Prop:=ru.2[j]?=some z/\z∈hm aa/\∀(k:Nat)(y:Str),k≠j->ru.2[k]?=some y->y∈cf false aa
def PlO (aa:88) (cs:z0t):Prop:=∀(i:Nat)(h:Str),cs[i]?=some h->∀ru∈aa,ru.1=h->∀(j:Nat)(z:Str),Ju aa ru j z->z∈cs.take i
structure DF (aa:88) (ms cs:z0t):Prop where
 mo:z6 aa ms
 ma:∀z∈hm aa,z∈ms
 cn:cs.Nodup
 ch:∀x∈cs,x∈hm aa
 co:PlO aa cs
 ca:∀z∈hm aa,z∈cs
 ub:∀z∈hm aa,UB aa z 60
 bd:∃b,uk aa b/\∀h∈hd aa,b h<=60
def Ib {aa:88}{M:z0t}(O:z6 aa M)(mA:∀h∈hd aa,h∈M):∀je ms,aa[0]?=some je->je.1∈ms->Fc aa aa.length ms->∀h∈hd aa,h∈ms:=λje ms e0 h0 mc=>by
 have key:∀(n i:Nat),i < n->∀h:Str,M[i]?=some h->h∈ms:=by
  intro n
  induction n with
  | zero=>intro i hi;omega
  | succ n ih =>
   intro i hi h e;rcases O i h e with ⟨r0,e1,e2⟩ | ⟨ru,ix,h1,h2⟩
   .rw [e0] at e1;cases e1;rw [e2];exact h0
   obtain⟨j,lj,ej⟩:=wY h1;exact mc ru (by rw [b0];exact ix) (ih j ∅ _ ej) h h2
 intro h hh;obtain⟨i,hi⟩:=gR (mA h hh);exact key (i+1) i ∅ h hi
def C6 {aa:88}{rk:Str->Nat}(h:∀ru∈aa,∀(j:Nat)(z:Str),ru.2[j]?=some z->z∈hd aa->(∀(k:Nat)(y:Str),k≠j->ru.2[k]?=some y->Em aa y)->rk z < rk ru.1):Cn aa rk:=by
 rintro aL emp mW n k j ⟨je,z0,e1,e2,e3,e4,e5⟩ ru z er ez;rw [er] at e1;obtain rfl:ru=je:=gJ e1;rw [ez] at e3;obtain rfl:z=z0:=gJ e3;rw [<-e2];refine h ru (cE er) j z ez e4 λk' y nk ey=>?_;have:=Ih e5 ey nk;exact IY emp y (cR this)
def DF.good {aa:88}{ms cs:z0t}(g:DF aa ms cs):∃rk b,Good aa rk b:=by
 obtain⟨b,hb,hm6⟩:=g.bd;refine⟨qd cs,b,λgg st se h hh=>?_,Ib g.mo λh hh=>g.ma h (me.mpr hh),C6 λru ix j z ez hz Tb=>?_,hb,hm6⟩
 .exact g.ub h (me.mpr hh) gg st se
 exact sZ cs z _ (g.co _ _ (xN cs ru.1 (g.ca _ (iB ix))) ru ix rfl j z ⟨ez,me.mpr hz,λk y nk ey=>tP (Tb k y nk ey)⟩)
structure Chn (aa:88) (cC ws:z0t):Prop where
 nd:cC.Nodup
 qe:cC.length<=9
 dj:∀x∈cC,x∉ws
 first:∀je,aa[0]?=some je->cC[0]?=some je.1
 Lq:∀ru∈aa,ru.1∈cC
 on:∀(a:Nat)(h:Str),cC[a]?=some h->∃dq,(h,dq)∈aa/\((∃n' us vs,cC[a+1]?=some n'/\dq=us++n'::vs/\(∀p∈us,p∈ws)/\∀p∈vs,p∈ws)\/(cC.length=a+1/\∀p∈dq,p∈ws))
 sh:∀ru∈aa,(∃p∈ru.2,p∈ws)\/ru.2=[]\/∃n',cC[qd cC ru.1+1]?=some n'/\ru.2=[n']
theorem BG:∀{l:z0t},l.Nodup->∀{a:Nat}{x:Str},l[a]?=some x->qd l x=a
 | y::l,nd,0,x,e=>by
  cases e;unfold qd;rw [aw rfl]
 | y::l,nd,a+1,x,e=>by
  have e':l[a]?=some x:=e;have ne:y≠x:=λz=>(hU.mp nd).1 (z ▸ cE e');unfold qd;rw [au ne,BG (hU.mp nd).2 e']
theorem nE {f:Str->Int}:∀(ps:z0t),(∀x∈ps,f x=0)->(ps.map f).sum=0
 | [],_=>rfl
 | a::r,h=>by
  rw [cI,lQ,h a cS,nE r λx hx=>h x (cT _ hx)];rfl
def Chn.good {aa:88}{cC ws:z0t}(c:Chn aa cC ws):∃rk b,Good aa rk b:=by
 have hN:∀x,x∈hd aa->x∈cC:=λx hx=>by
  obtain⟨ru,a,b⟩:=MV hx;exact b ▸ c.Lq ru a
 have wN:∀x∈ws,x∉hd aa:=λx hx h=>c.dj x (hN x h) hx;have nEm:∀x∈ws,¬Em aa x:=λx hx h=>wN x hx (TU h);have ub:∀(n a:Nat)(h:Str),a+n=cC.length->cC[a]?=some h->UB aa h (n:Int):=by
  intro n
  induction n with
  | zero =>
   intro a h l e;have:=(bu.mp e).1;omega
  | succ n ih =>
   intro a h l e;obtain⟨dq,hm,hp⟩:=c.on a h e;have wd:∀p∈ws,p∈dq->UB aa p 0:=λp hpw jW=>Cp (wN p hpw) hm jW;rcases hp with ⟨n',us,vs,en,rfl,BM,hvs⟩ | ⟨_,hw⟩
   .have Dc:=ih (a+1) n' ∅ en;have ne:∀p∈ws,p≠n':=λp hp z=>c.dj n' (cE en) (z ▸ hp);have h1:=wU hm (f:=λp=>if p=n' then (n:Int) else 0) λp hp=>by
     by_cases cc:p=n'
     .rw [aw cc,cc];exact Dc
     rw [au cc];refine wd p ?_ hp;rcases bP.mp hp with q | q
     .exact BM p q
     rcases b8.mp q with q | q
     .exact absurd q cc
     exact hvs p q
    refine h1.le ?_;rw [ba,List.sum_append,cI,lQ,aw rfl,nE us λx hx=>au (ne x (BM x hx)),nE vs λx hx=>au (ne x (hvs x hx))];push_cast;omega
   have h1:=wU hm (f:=λ_=>0) λp hp=>wd p (hw p hp) hp;refine h1.le ?_;rw [nE dq λ_ _=>rfl];push_cast;omega
 refine⟨λx=>cC.length - qd cC x,λx=>if x∈cC then ((cC.length - qd cC x:Nat):Int) else 0,λgg st se h hh=>?_,Ib (M:=cC) (λi h e=>?_) λh hh=>hN h hh,C6 λru ix j z ez hz Tb=>?_,⟨λz=>?_,λru ix Tb=>?_⟩,λh hh=>?_⟩
 .obtain⟨a,e⟩:=gR (hN h hh);have la:=(bu.mp e).1;have:=c.qe;exact((ub (cC.length - a) a h ∅ e).le (show ((cC.length - a:Nat):Int)<=60 by omega)) gg st se
 .match i,e with
  | 0,e =>
   obtain⟨dq,hm,_⟩:=c.on 0 h e;obtain⟨k,ek⟩:=gR hm;have l0:0 < aa.length:=by have:=(bu.mp ek).1;omega
   refine .inl ⟨aa[0],cZ l0,?_⟩;have:=c.first _ (cZ l0);rw [e] at this;exact gJ this
  | i+1,e =>
   have li:=(bu.mp e).1;have e5:cC[i]?=some (cC[i]'∅):=cZ ∅;obtain⟨dq,hm,hp⟩:=c.on i _ e5;refine .inr ⟨_,hm,?_,?_⟩
   .refine cE (i:=i) ?_;rw [yo ∅];exact e5
   rcases hp with ⟨n',us,vs,en,rfl,_⟩ | ⟨l,_⟩
   .rw [e] at en;cases en;exact dJ _ cS
   omega
 .rcases c.sh ru ix with ⟨p,hp,hw⟩ | h | ⟨n',en,h⟩
  .exfalso;obtain⟨k,ek⟩:=gR hp;by_cases ck:k=j
   .subst ck;rw [ez] at ek;cases ek;exact wN _ hw hz
   exact nEm p hw (Tb k p ck ek)
  .rw [h] at ez;cases ez
  rw [h] at ez;have M5:z=n':=by
   match j,ez with
   | 0,e=>exact(gJ e).symm
   | _+1,e=>cases e
  subst M5;have i1:=BG c.nd en;have:=(bu.mp en).1;show cC.length - qd cC z < cC.length - qd cC ru.1;omega
 .show (0:Int)<=if z∈cC then _ else 0
  split
  .omega
  exact j4 _
 .have hn:=c.Lq ru ix;show 1+(ru.2.map λx=>if x∈cC then ((cC.length - qd cC x:Nat):Int) else 0).sum<=if ru.1∈cC then ((cC.length - qd cC ru.1:Nat):Int) else 0;rw [aw hn];have li:=Im cC ru.1 hn;rcases c.sh ru ix with ⟨p,hp,hw⟩ | h | ⟨n',en,h⟩
  .exact absurd (Tb p hp) (nEm p hw)
  .rw [h];show 1+0<=_;omega
  rw [h];have i1:=BG c.nd en;have:=(bu.mp en).1;rw [cI,lQ,aw (cE en),i1];show 1+(_+0)<=_;omega
 show (if h∈cC then ((cC.length - qd cC h:Nat):Int) else 0)<=60;have:=c.qe
 split
 .omega
 decide
structure DS (hs:z0t)(H5:Hp)(d:Addr)(kvs:93) (ks:z0t)(g:G):Prop where
 hd:H5 d=188
 keys:kvs.map 87=ks.map Sum.inr
 nd:ks.Nodup
 sub:∀x∈ks,x∈hs
 val:∀z,a0 kvs 150=(g z).map V.int
def DS.len {hs:z0t}{H5:Hp}{d:Addr}{kvs:93}{ks:z0t}{g:G}(h:DS hs H5 d kvs ks g):kvs.length<=hs.length:=by
 have h1:=congrArg List.length h.keys;have h2:=iW ks _ h.nd h.sub;rw [ar,ar] at h1;omega
def DS.same {hs:z0t}{H5 H6:Hp}{d:Addr}{kvs:93}{ks:z0t}{g:G}(h:DS hs H5 d kvs ks g)(s:aD H5 H6):DS hs H6 d kvs ks g:=⟨s _ _ h.hd,h.keys,h.nd,h.sub,h.val⟩
def DS.other {hs:z0t}{H5:Hp}{d e:Addr}{o:HO}{kvs:93}{ks:z0t}{g:G}(h:DS hs H5 d kvs ks g)(n:d≠e):DS hs (upd H5 e o) d kvs ks g:=⟨by rw [aj n];exact h.hd,h.keys,h.nd,h.sub,h.val⟩
def DS.get {hs:z0t}{H5:Hp}{d:Addr}{kvs:93}{ks:z0t}{g:G}(h:DS hs H5 d kvs ks g)(z:Str):cu H5 d (.str z) ((g z).map V.int):=by
 have:=cu.k (k:=140) h.hd;rw [h.val] at this;exact this
def DS.put {hs:z0t}{H5:Hp}{d:Addr}{kvs:93}{ks:z0t}{g:G}(h:DS hs H5 d kvs ks g){x:Str}(hr:x∈hs) (n:Int) :
  DS hs (upd H5 d (.dK (bS kvs (Sum.inr x) (.int n)))) d (bS kvs (Sum.inr x) (.int n)) (gP ks x) (dO g x n):=by
 refine⟨ae,iX h.keys x,qW x h.nd,λy hy=>?_,λz=>?_⟩
 .rcases (jJ ks x y).mp hy with z | z
  .exact h.sub y z
  rw [z];exact hr
 rw [rV];unfold dO;by_cases c:z=x
 .rw [aw c,aw (by rw [c])];rfl
 rw [au c,au (λe=>c (kr e)),h.val]
def getD_map (o:z0p) (n:Int):(o.map V.int).getD (.int n)=.int (o.getD n):=by cases o <;> rfl
def vP {K:bp}{H:Hp}{p D d:Addr}{zs hs:z0t}{kvs:93}{ks:z0t}{g:G}{σ:St}{js:z0j}{Qp:Hp->Prop}(hσ:dP ["_law_part"] js σ=[none,aE d])(hp:aZ K H p 203)(hz:zs.length<=1000)
  (hg:DS hs H d kvs ks g)(hD:H D=none)(q:∀H2,aD H H2->H2 D=some (.lst ((zs.map λz=>(g z).getD 0).map V.int))->Qp H2) :
  ∃W:241,(∃m,W 0 m [] (dP ["_law_part"] js σ) 227) /\
 ∀i m ys σ' H,W i m ys σ' H->((ox K p).stop i H/\Qp H)\/((ox K p).go i H/\∃m',m' < m/\∀x H',(ox K p).lV i H x H'->dF 0 x σ' H' λσ2 H2=>hX σ2 H2 λb H3 =>
  if b=true then FV (gN 1) (gN 0) (tC (.int 0)) σ2 H3 239 else 257):=by
 refine gL (xs:=154) (λi ys σ2 H2=>ys=(((zs.take i).map λz=>(g z).getD 0).map V.int)/\(∃y0,σ2=[y0,aE d])/\370)
  ⟨rfl,⟨none,hσ⟩,af hD _,ae⟩ (λi ys σ2 H2 _ h=>h.2.2.1.tup hp) (λi x ys σ2 H2 ex h=>?_) (λys σ2 H2 h=>?_)
 .obtain⟨rfl,⟨y0,rfl⟩,sm,hd2⟩:=h;rw [aX] at ex;obtain⟨z,ez,rfl⟩:=bT.mp ex;have li:=(bu.mp ez).1;refine goN (uJ ?_);refine⟨_,rfl,d,rfl,.inl ⟨_,.inl (sm _ _ hg.hd)⟩,_,rfl,_,(hg.same sm).get z,?_⟩;rw [getD_map];refine⟨hd2,br (by rw [ar,ar,du];omega),?_,157,?_,ae⟩
  .rw [cK,ez,ba,ba];rfl
  intro b o hb;rw [330];exact sm b o hb
 obtain⟨rfl,_,sm,hd2⟩:=h;rw [ar,b0] at hd2;exact q H2 sm hd2
section
def LJ (aa:88)(l:G):Prop:=∀z n,l z=some n->UB aa z n
def F3 (K:bp):Sp:=λvs H Q _=>∃(R N:Addr)(rs:z0q)(aa:88) (ns:z0t),vs=[.ref R,.ref N]/\aI K H R 153/\bM K H rs aa/\Small aa/\H N=some (.lst (ns.map V.str))/\ns.length<=1000 /\
 ∀(b:Bool)(H':Hp),aD H H'->(b=true->(∀z∈hm aa,UB aa z 60)/\∀h∈hm aa,bG (passes (uW ns aa) aa.length λ_=>none) h<=60)->Q (.bl b) H'
abbrev NVs:z0t:=["_law_rules","_law_empty","_law_head","_law_parts_here","_law_heads","_law_greatest","_law_least","_law_again","_law_size"]
def jP:aK NVs ["_law_rules","_law_empty"] (ay Gn):=163
structure PM (K:bp)(aa:88)(H H5:Hp)(D dg dl:Addr)(kg kl:93) (sg sl:z0t)(g l:G):Prop where
 sm:aD H H5
 eD:H5 D=some (.lst ((hm aa).map V.str))
 gs:DS (hm aa) H5 dg kg sg g
 ls:DS (hm aa) H5 dl kl sl l
 lj:LJ aa l
theorem PM.same {aa:88}{H H5 H6:Hp}{D dg dl:Addr}{kg kl:93}{sg sl:z0t}{g l:G}(h:PM K aa H H5 D dg dl kg kl sg sl g l)(s:aD H5 H6):PM K aa H H6 D dg dl kg kl sg sl g l :=
 ⟨h.sm.trans s,s _ _ h.eD,h.gs.same s,h.ls.same s,h.lj⟩
def KH (F:iz K "_law_not_vast" "_law_not_vast" Gn f fd)(T:Txt mg):bR P w K mg base fI 1 f fd ["_law_rules","_law_empty"] (F3 K):=by
 refine F.ok jP 184 186
 .obtain⟨R,N,rs,aa,ns,rfl,_⟩:=h;rfl
 obtain⟨R,N,rs,aa,ns,rfl,hR,cM,qw,hN,hnl,q⟩:=h;have hu:=gh hr;have Iq:=qw.most;refine⟨_,ag (aA (i:=4) jP.nd rfl (Or.inr rfl) (aT ["_law_head","_law_parts_here"] [] rfl (aR 91) 162 nofun rfl nofun
   504 220
   (λ_ _ _ _ _=>pv 0)))
  (ag (aA (i:=5) jP.nd rfl (Or.inr rfl) fX)
  (ag (aA (i:=6) jP.nd rfl (Or.inr rfl) fX)
  (ag (bJ bW rfl (aR 91) (aq (i:=7) jP.nd rfl 90)
   (ao (bJ bW rfl (aR 91) (di (n:=2) K rfl (az (aq (i:=2) jP.nd rfl 90) (az (aq (i:=3) jP.nd rfl 90) bE)))
    (ag (ik (cy (gW (aP (dY rfl) rfl T.all boot_all (ab (aT ["_law_part"] [(1,"_law_empty")] rfl (eV (pv 3)) 162 nofun rfl nofun
       (λ_ _ _ _ _=>aq (i:=0) (show (["_law_part","_law_empty"]:z0t).Nodup by decide +kernel) rfl 90) 220 (λ_ _ _ _ _=>fQ (dQ K) 91 (pv 1) rfl)) ak)))
     (ag (aA (i:=8) jP.nd rfl 90 (aN df av (aP (lJ rfl) rfl T.sum wF (ab (aT ["_law_part"] [(5,"_law_greatest")] rfl (eV (pv 3)) 162 nofun rfl nofun
       (λ_ _ _ _ _=>aq (i:=0) (show (["_law_part","_law_greatest"]:z0t).Nodup by decide +kernel) rfl 90) 220 (λ_ _ _ _ _=>iV hu (pv 1) 91 av ⟨rfl,rfl,rfl,rfl⟩)) ak))))
     (ao (fK hu (pv 5) (pv 2) (aP (vQ rfl) rfl T.max PyProof.Rows.boot_max (ab (iV hu (pv 5) (pv 2) av ⟨rfl,rfl,rfl,rfl⟩) (ab (pv 8) ak))) rfl))) bf))
    (ao (cy (gW (aP (dY rfl) rfl T.all boot_all (ab (aT ["_law_part"] [(6,"_law_least"),(4,"_law_heads")] rfl (eV (pv 3)) 162 nofun rfl nofun
       (λ_ _ _ _ _=>aq (i:=0) (show (["_law_part","_law_least","_law_heads"]:z0t).Nodup by decide +kernel) rfl 90) 220
       (λ_ _ _ _ _=>Mu (xD (kR hu 91 (pv 1))) (o8 (fQ (jf K) 91 (pv 2) rfl)))) ak)))
     (ag (aA (i:=8) jP.nd rfl 90 (aN df av (aP (lJ rfl) rfl T.sum wF (ab (aT ["_law_part"] [(6,"_law_least")] rfl (eV (pv 3)) 162 nofun rfl nofun
       (λ_ _ _ _ _=>aq (i:=0) (show (["_law_part","_law_least"]:z0t).Nodup by decide +kernel) rfl 90) 220 (λ_ _ _ _ _=>iV hu (pv 1) 91 av ⟨rfl,rfl,rfl,rfl⟩)) ak))))
     (ao (fK hu (pv 6) (pv 2) (aP (E3 rfl) rfl T.min PyProof.Rows.boot_min (ab (iV hu (pv 6) (pv 2) (pv 8) ⟨rfl,rfl,rfl,rfl⟩) (ab (pv 8) ak))) rfl))) bf))))))
  (ao (bw (aP (dY rfl) rfl T.all boot_all (ab (aT ["_law_name"] [(5,"_law_greatest"),(6,"_law_least")] rfl (aR (pv 4)) 162 nofun rfl nofun
    (λ_ _ _ _ _=>aq (i:=0) (show (["_law_name","_law_greatest","_law_least"]:z0t).Nodup by decide +kernel) rfl 90) 220
    (λ_ _ _ _ _=>sQ (fQ Mv (iV hu (pv 1) 91 av ⟨rfl,rfl,rfl,rfl⟩) av (cA _)) (o8 (fQ Mv (iV hu (pv 2) 91 av ⟨rfl,rfl,rfl,rfl⟩) av (cA _))))) ak))))))),?_⟩
 have ll:=a7 cM;have Dg:(hm aa).length=aa.length:=by unfold hm;rw [ar]
 refine⟨_,rfl,R,rfl,⟨_,hR⟩,λD hD=>ij hR cM ∅ hD λH1 s1 eD=>?_⟩;refine goN ?_;refine λdg Tg=>?_;have k2:=af Tg (.dK []);have e2:upd H1 dg (.dK []) dg=some (.dK []):=ae;have fdg:H dg=none:=s1.free Tg;have nDg:D≠dg:=λz=>by rw [<-z,eD] at Tg;cases Tg
 generalize upd H1 dg (.dK [])=H2 at k2 e2;have oB:=k2 _ _ eD;refine λdl Dg=>?_;have k3:=af Dg (.dK []);have e3:upd H2 dl (.dK []) dl=some (.dK []):=ae;have fdl:H dl=none:=(s1.trans k2).free Dg;have nDl:D≠dl:=λz=>by rw [<-z,oB] at Dg;cases Dg
 have ngl:dg≠dl:=λz=>by rw [<-z,e2] at Dg;cases Dg
 generalize upd H2 dl (.dK [])=H3 at k3 e3;have S0:PM K aa H H3 D dg dl [] [] [] [] (λ_=>none) (λ_=>none):=⟨(s1.trans k2).trans k3,k3 _ _ oB,⟨k3 _ _ e2,rfl,gI,λ_ h=>(by cases h),λ_=>rfl⟩,⟨e3,rfl,gI,λ_ h=>(by cases h),λ_=>rfl⟩,λ_ _ h=>(by cases h)⟩;clear k3 e3 k2 e2 oB eD s1 hD Tg Dg;refine⟨_,rfl,R,rfl,⟨_,S0.sm.seq hR⟩,?_⟩;refine bQ (xs:=145) (λi σ H5=>∃(kg kl:93) (sg sl:z0t)(g l:G)(y2 y3 y7 y8:Option V),σ=[aE R,aE N,y2,y3,aE D,aE dg,aE dl,y7,y8]/\PM K aa H H5 D dg dl kg kl sg sl g l/\g=passes (uW ns aa) i λ_=>none)
  ⟨[],[],[],[],_,_,_,_,_,_,rfl,S0,rfl⟩ ?_ ?_ ?_
 .rintro i σ H5 _ ⟨kg,kl,sg,sl,g,l,y2,y3,y7,y8,rfl,S5,_⟩;exact S5.sm.seq hR
 .rintro i x σ H5 ex ⟨kg,kl,sg,sl,g,l,y2,y3,y7,y8,rfl,S5,IZ⟩;refine goN ?_;refine⟨_,rfl,R,rfl,⟨_,S5.sm.seq hR⟩,?_⟩;refine bQ (xs:=145) (λj σ H6=>∃(kg kl:93) (sg sl:z0t)(g6 l:G)(y2 y3 y8:Option V),σ=[aE R,aE N,y2,y3,aE D,aE dg,aE dl,some x,y8]/\PM K aa H H6 D dg dl kg kl sg sl g6 l/\g6=(aa.take j).foldl (eI ns) g)
   ⟨kg,kl,sg,sl,_,_,_,_,_,rfl,S5,rfl⟩ ?_ ?_ ?_
  .rintro j σ H6 _ ⟨kg,kl,sg,sl,g6,l,y2,y3,y8,rfl,S6,_⟩;exact S6.sm.seq hR
  .rintro j x2 σ H6 iM ⟨kg,kl,sg,sl,g6,l,y2,y3,y8,rfl,S6,JP⟩;rw [aX] at iM;obtain⟨r,er,rfl⟩:=bT.mp iM;obtain⟨ru,e1,p,v1,v2⟩:=cM.get er;have ix:=cE e1;have h6r:=qw.qe ru ix;have hh:ru.1∈hm aa:=iB ix;have tk:(aa.take (j+1)).foldl (eI ns) g=eI ns g6 ru:=by rw [cK,e1,wj,<-JP];rfl
   refine⟨r,_,rfl,S6.sm.tup v1,rfl,_,_,rfl,_,_,rfl,rfl,?_⟩;refine⟨λσ H7=>∃(kg:93) (sg:z0t)(y8:Option V),σ=[aE R,aE N,some (.str ru.1),aE p,aE D,aE dg,aE dl,some x,y8]/\PM K aa H H7 D dg dl kg kl sg sl (eI ns g6 ru) l,?_,?_⟩
   .refine⟨_,rfl,p,rfl,⟨_,S6.sm.tup v2⟩,λD9 yn=>gK (zs:=ru.2) [aE N] (λz=>decide (z∈ns)) rfl (S6.sm.tup v2) ∅ yn (λz _ HA Qy sA hq=>?_) λH9 s9 e9=>?_⟩
    .refine⟨_,rfl,_,rfl,N,_,rfl,.inl (aI.of (sA _ _ (S6.sm _ _ hN))),rfl,bZ _,?_⟩;rw [dG];exact hq
    have S9:=S6.same s9;refine⟨D9,_,rfl,aI.of e9,_,rfl,?_⟩;rw [all_map];refine b_ (λca=>?_) (λca=>?_)
    .refine⟨_,rfl,p,rfl,⟨_,S9.sm.tup v2⟩,λDA Qt=>vP rfl (S9.sm.tup v2) ∅ S9.gs Qt λHA sA eA=>?_⟩;have SA:=S9.same sA;refine⟨DA,_,rfl,aI.of eA,_,_,rfl,rfl,?_⟩;refine⟨_,rfl,dg,rfl,.inl ⟨_,.inl SA.gs.hd⟩,_,rfl,_,SA.gs.get ru.1,?_⟩;rw [getD_map];refine⟨_,rfl,_,_,rfl,?_⟩;have ln:=SA.gs.len;refine⟨_,rfl,_,rfl,dg,_,rfl,jZ.k (k:=Sum.inr ru.1) SA.gs.hd (br ∅),?_⟩;have ev:eI ns g6 ru=dO g6 ru.1 (if aM g6 ru > bG g6 ru.1 then aM g6 ru else bG g6 ru.1):=by unfold eI;rw [aw ca]
     have P1:=SA.gs.put hh (if aM g6 ru > bG g6 ru.1 then aM g6 ru else bG g6 ru.1);rw [<-ev] at P1;refine⟨_,_,_,rfl,⟨λb o hb=>?_,?_,P1,SA.ls.other (d8 ngl),SA.lj⟩⟩
     .rw [aj (λz=>by rw [z,fdg] at hb;cases hb)];exact SA.sm b o hb
     rw [aj nDg];exact SA.eD
    have ev:eI ns g6 ru=g6:=by unfold eI;rw [au ca]
    refine⟨kg,sg,_,rfl,?_⟩;rw [ev];exact S9
   rintro σ H7 ⟨kg,sg,y8,rfl,S7⟩;generalize hg7:eI ns g6 ru=g7 at *;refine⟨_,rfl,p,rfl,⟨_,S7.sm.tup v2⟩,λD9 yn=>gK (zs:=ru.2) [aE dl,aE D] (λz=>(l z).isSome || !decide (z∈hm aa)) rfl (S7.sm.tup v2) ∅ yn (λz _ HA Qy sA hq=>?_) λH9 s9 e9=>?_⟩
   .refine⟨_,rfl,_,rfl,dl,_,rfl,(S7.ls.same sA).get z,_,rfl,?_⟩;rw [qZ];refine 246
    .rw [c,Bool.true_or] at hq;exact hq
    have c':(l z).isSome=false:=by simpa using c
    rw [c',Bool.false_or] at hq;refine⟨_,rfl,_,rfl,D,_,rfl,.inl (aI.of (sA _ _ S7.eD)),rfl,bZ _,?_⟩;rw [dG];exact hq
   have S9:=S7.same s9;refine⟨D9,_,rfl,aI.of e9,_,rfl,?_⟩;rw [all_map];refine b_ (λca=>?_) (λca=>?_)
   .refine⟨_,rfl,p,rfl,⟨_,S9.sm.tup v2⟩,λDA Qt=>vP rfl (S9.sm.tup v2) ∅ S9.ls Qt λHA sA eA=>?_⟩;have SA:=S9.same sA;refine⟨DA,_,rfl,aI.of eA,_,_,rfl,rfl,?_⟩;refine⟨_,rfl,dl,rfl,.inl ⟨_,.inl SA.ls.hd⟩,_,rfl,_,rfl,_,SA.ls.get ru.1,?_⟩;rw [getD_map];refine⟨_,rfl,_,_,rfl,?_⟩;have ln:=SA.ls.len;refine⟨_,rfl,_,rfl,dl,_,rfl,jZ.k (k:=Sum.inr ru.1) SA.ls.hd (br ∅),?_⟩;have sz:UB aa ru.1 (aM l ru):=wU (h:=ru.1) (ps:=ru.2) ix (f:=λp=>(l p).getD 0) λp hp=>by
     have:=eG.mp ca p hp;cases el:l p with
     | some n=>exact S7.lj p n el
     | none =>
      rw [el] at this;have nn:p∉hm aa:=by simpa using this
      exact Cp (λz=>nn (me.mpr z)) ix hp
    refine⟨kg,_,sg,_,_,_,_,_,_,rfl,⟨λb o hb=>?_,?_,SA.gs.other ngl,SA.ls.put hh _,λz n e=>?_⟩,tk.symm⟩
    .rw [aj (λz=>by rw [z,fdl] at hb;cases hb)];exact SA.sm b o hb
    .rw [aj nDl];exact SA.eD
    unfold dO at e;by_cases c:z=ru.1
    .rw [aw c] at e;cases e;rw [c]
     split
     .exact sz
     cases el:l ru.1 with
     | none=>exact sz
     | some n=>exact S7.lj _ n el
    rw [au c] at e;exact SA.lj z n e
   exact⟨_,_,_,_,_,_,_,_,_,rfl,S9,tk.symm⟩
  rintro σ H6 ⟨kg,kl,sg,sl,g6,l,y2,y3,y8,rfl,S6,JP⟩;refine⟨kg,kl,sg,sl,g6,l,_,_,_,_,rfl,S6,?_⟩;rw [JP,ar,ll,b0,IZ];rfl
 rintro σ H5 ⟨kg,kl,sg,sl,g,l,y2,y3,y7,y8,rfl,S5,IZ⟩;rw [ar,ll] at IZ;refine⟨_,rfl,D,rfl,⟨_,aI.of S5.eD⟩,λD9 yn=>qh (zs:=hm aa) [aE dg,aE dl] (λz=>decide ((g z).getD 0<=60) && decide ((l z).getD 61<=60)) rfl (aI.of S5.eD) ∅ yn (λz _ HA Qy sA hq=>?_) λH9 s9 e9=>?_⟩
 .have SA:=S5.same sA;refine⟨_,rfl,dg,rfl,.inl ⟨_,.inl SA.gs.hd⟩,_,rfl,_,SA.gs.get z,?_⟩;rw [getD_map];refine⟨_,_,rfl,rfl,_,rfl,?_⟩;refine 246
  .rw [c,mq] at hq;refine⟨_,rfl,dl,rfl,.inl ⟨_,.inl SA.ls.hd⟩,_,rfl,_,SA.ls.get z,?_⟩;rw [getD_map];exact⟨_,_,rfl,rfl,hq⟩
  have c':decide ((g z).getD 0<=60)=false:=by simpa using c
  rw [c',rm] at hq;exact hq
 refine⟨D9,_,rfl,aI.of e9,?_⟩;rw [all_map];refine q _ _ (S5.sm.trans s9) λhb=>⟨λz hz=>?_,λz hz=>?_⟩
 .have:=(jo.mp (eG.mp hb z hz)).2;have h6:=cR this;cases el:l z with
  | none=>rw [el] at h6;exact absurd h6 nofun
  | some n=>rw [el] at h6;exact(S5.lj z n el).le h6
 have:=(jo.mp (eG.mp hb z hz)).1;rw [<-IZ];exact cR this
end
def vL (zs:z0t) (j:Nat):g_ 203 none (some (0+(j:Int)))=(zs.take j).map V.str:=by
 rw [jc];unfold g_;rw [HT.nU,HT.lF,ro,Nat.sub_zero,ar,mr]
 conv=>rhs;rw [List.take_eq_take_min,ar]
def vM (zs:z0t) (j:Nat):g_ 203 (some (0+(j:Int)+1)) none=(zs.drop (j+1)).map V.str:=by
 rw [jc,show (j:Int)+1=((j+1:Nat):Int) by push_cast;rfl];unfold g_;rw [HT.nU,HT.lF,ar,List.map_drop];by_cases h:j+1<=zs.length
 .rw [Nat.min_eq_left h,rO (by rw [mC,ar];exact aG _)]
 rw [Nat.min_eq_right ∅,oG,List.take_zero,Ap (by rw [ar];omega)]
def z6.app {aa:88}{ms zs:z0t}{ru:ax}(h:z6 aa ms)(hr:ru∈aa)(h1:ru.1∈ms)(h2:∀z∈zs,z∈ru.2):z6 aa (ms++zs):=by
 intro i x hx;by_cases l:i < ms.length
 .rw [nj l] at hx;rcases h i x hx with a | ⟨r,a,b,c⟩
  .exact .inl a
  exact .inr ⟨r,a,by rw [rg ∅];exact b,c⟩
 rw [lU ∅] at hx;refine .inr ⟨ru,hr,?_,h2 x (cE hx)⟩;rw [List.take_append,rO ∅];exact fg _ h1
def AlO (aa:88)(ri:88)(bq:z0i):Prop:=∀ru∈ri,∀(j:Nat)(z:Str),Ju aa ru j z->(ru.1,z)∈bq
structure QR (aa:88)(bq:z0i) (cs:z0t):Prop where
 cn:cs.Nodup
 ch:∀x∈cs,x∈hm aa
 co:∀(i:Nat)(h:Str),cs[i]?=some h->∀z,(h,z)∈bq->z∈cs.take i
def QR.add {aa:88}{bq:z0i}{cs:z0t}{nm:Str}(h:QR aa bq cs)(n:nm∉cs)(hh:nm∈hm aa)(a:∀z,(nm,z)∈bq->z∈cs):QR aa bq (cs++[nm]):=by
 refine⟨iN.mpr ⟨h.cn,92,λx hx y hy z=>n (by rw [<-bB.mp hy,<-z];exact hx)⟩,λx hx=>?_,λi x hx z hz=>?_⟩
 .rcases bP.mp hx with q | q
  .exact h.ch x q
  rw [bB.mp q];exact hh
 by_cases l:i < cs.length
 .rw [nj l] at hx;rw [rg ∅];exact h.co i x hx z hz
 have li:=(bu.mp hx).1;rw [a8,fU] at li;have:i=cs.length:=by omega
 subst this;rw [lU (aG _),oG] at hx;cases hx;rw [rg (aG _),b0];exact a z hz
section
def F_ (K:bp):Sp:=λvs H Q _=>∃(R:Addr)(rs:z0q)(aa:88),vs=[.ref R]/\aI K H R 153/\bM K H rs aa/\Small aa /\
 ∀(b:Bool)(H':Hp),aD H H'->(b=true->∃ms cs,DF aa ms cs)->Q (.bl b) H'
abbrev NG:z0t:=["_law_rules","_law_head","_law_parts_here","_law_heads","_law_ended_here","_law_met","_law_again","_law_empty","_law_alone","_law_k","_law_others","_law_settled","_law_name","_law_good_here"]
def fw:aK NG ["_law_rules"] (ay Gv):=163
def KQ (F:iz K "_law_good" "_law_good" Gv f fd)(T:Txt mg)(GE:aF P w K mg base 1 "_law_ended" ["_law_rules","_law_words_here"] (qG K))(GV:aF P w K mg base 1 "_law_not_vast" ["_law_rules","_law_empty"] (F3 K)):bR P w K mg base fI 2 f fd ["_law_rules"] (F_ K):=by
 refine F.ok fw 184 186
 .obtain⟨R,rs,aa,rfl,_⟩:=h;rfl
 obtain⟨R,rs,aa,rfl,hR,cM,qw,q⟩:=h;have Ym:=qw.one;have Iq:=qw.most;refine⟨_,ag (aA (i:=3) fw.nd rfl (Or.inr rfl) (aT ["_law_head","_law_parts_here"] [] rfl (aR 91) 162 nofun rfl nofun
   504 220
   (λ_ _ _ _ _=>pv 0)))
  (ag (aA (i:=4) fw.nd rfl (Or.inr rfl) (bC GE hr rfl (ab 91 (ab fY ak))))
  (ag (aA (i:=5) fw.nd rfl (Or.inr rfl) (dX xc (pv 3) gY (eU av)))
  (ag (bJ bW rfl (aR 91) (aq (i:=6) fw.nd rfl 90)
   (ao (bJ bW rfl (aR 91) (di (n:=2) K rfl (az (aq (i:=1) fw.nd rfl 90) (az (aq (i:=2) fw.nd rfl 90) bE)))
    (ao (cy (bc jw (pv 1) (pv 5) rfl)
     (ao (aA (i:=5) fw.nd rfl (Or.inr rfl) (aN jh (pv 5)
      (aT ["_law_part"] [(3,"_law_heads"),(5,"_law_met")] rfl (eV (pv 2)) 162 nofun rfl nofun
       (λ_ _ _ _ _=>aq (i:=0) (show (["_law_part","_law_heads","_law_met"]:z0t).Nodup by decide +kernel) rfl 90)
       (λ_ _ _ _ _=>fM (PW.pt (mI (bc (dQ K) 91 (pv 1) rfl) (jR (bc (jf K) 91 (pv 2) rfl)))))
       (λ_ _ _ _ _=>pv 0))))) bf)))))
  (ag (aA (i:=7) fw.nd rfl (Or.inr rfl) (bC GE hr rfl (ab 91 (ab fY ak))))
  (ag (aA (i:=8) fw.nd rfl 90 (bK ak))
  (ag (bJ bW rfl (aR 91) (di (n:=2) K rfl (az (aq (i:=1) fw.nd rfl 90) (az (aq (i:=2) fw.nd rfl 90) bE)))
   (ao (bJ bW rfl (ie rfl T.Fs (ab (aP aU rfl T.len d_ (ab (pv 2) ak)) ak)) (aq (i:=9) fw.nd rfl 90)
    (ag (aA (i:=10) fw.nd rfl 90 (aN qK (dX i7 (pv 2) gY (eU (pv 9))) (dX i7 (pv 2) (eU (aN df (pv 9) av)) gY)))
    (ao (cy (PW.pt (mI (bc jw (a_ bF (pv 2) (pv 9) 142) (pv 3) rfl) (jR (gW (aP (dY rfl) rfl T.all boot_all (ab
      (aT ["_law_part"] [(7,"_law_empty")] rfl (eV (pv 10)) 162 nofun rfl nofun
       (λ_ _ _ _ _=>aq (i:=0) (show (["_law_part","_law_empty"]:z0t).Nodup by decide +kernel) rfl 90) 220
       (λ_ _ _ _ _=>fQ (dQ K) 91 (pv 1) rfl)) ak))))))
     (ao (cU (gZ gA iD iE cx (pv 8) (ab (bX (ab (pv 1) (ab (a_ bF (pv 2) (pv 9) 142) ak))) ak)))) bf))))))
  (ag (aA (i:=11) fw.nd rfl (Or.inr rfl) (bK ak))
  (ag (bJ bW rfl (aR 91) (aq (i:=6) fw.nd rfl 90)
   (ao (bJ bW rfl (aR (pv 3)) (aq (i:=12) fw.nd rfl (Or.inr rfl))
    (ao (cy (PW.pt (mI (gW (aP (dY rfl) rfl T.all boot_all (ab
      (aT ["_law_head","_law_other"] [(11,"_law_settled"),(12,"_law_name")] rfl (aR (pv 8)) 162 nofun rfl nofun
       (λ_ _ _ _ _=>di (n:=2) K rfl (az (aq (i:=0) (show (["_law_head","_law_other","_law_settled","_law_name"]:z0t).Nodup by decide +kernel) rfl 90) (az (aq (i:=1) (show (["_law_head","_law_other","_law_settled","_law_name"]:z0t).Nodup by decide +kernel) rfl 90) bE)))
       (λ_ _ _ _ _=>fM (bc jx 91 (pv 3) (cA _)))
       (λ_ _ _ _ _=>fQ (dQ K) (pv 1) (pv 2) rfl)) ak))) (jR (bc iF (pv 12) (pv 11) rfl))))
     (ao (cU (gZ gA iD iE cx (pv 11) (ab (pv 12) ak)))) bf)))))
  (ag (aA (i:=13) fw.nd rfl 90 (aP (dY rfl) rfl T.all boot_all (ab
   (aT ["_law_name"] [(4,"_law_ended_here"),(5,"_law_met"),(11,"_law_settled")] rfl (aR (pv 3)) 162 nofun rfl nofun
    (λ_ _ _ _ _=>aq (i:=0) (show (["_law_name","_law_ended_here","_law_met","_law_settled"]:z0t).Nodup by decide +kernel) rfl 90) 220
    (λ_ _ _ _ _=>sQ (fQ (dQ K) 91 (pv 1) rfl) (sQ (fQ (dQ K) 91 (pv 2) rfl) (o8 (fQ (dQ K) 91 (pv 3) rfl))))) ak)))
  (ao (bw (sQ (pv 13) (o8 (bC GV hr rfl (ab 91 (ab (pv 7) ak)))))))))))))))),?_⟩
 nofun
 have ll:=a7 cM;refine⟨_,rfl,R,rfl,⟨_,hR⟩,λD hD=>ij hR cM ∅ hD λH1 s1 eD=>?_⟩;refine goN ?_
 ac_rfl
 refine⟨_,rfl,R,rs,aa,true,rfl,s1.seq hR,cM.same s1,qw,λEn H2 fE s2 eE lE=>?_⟩;refine goN ?_
 ac_rfl
 have Zw:g_ ((hm aa).map V.str) none (some 1)=((hm aa).take 1).map V.str:=vL (hm aa) 1;have Dg:(hm aa).length=aa.length:=by unfold hm;rw [ar]
 refine⟨_,rfl,_,rfl,D,_,rfl,aI.of (s2 _ _ eD),λM0 hM0=>?_⟩;rw [Zw];have lm0:((hm aa).take 1).length<=1:=by rw [du];omega
 have mo0:z6 aa ((hm aa).take 1):=λi h e=>by
  have li:=(bu.mp e).1;have:i=0:=by omega
  subst this;rw [yo ∅] at e;rw [aX] at e;obtain⟨r0,e0,rfl⟩:=bT.mp e;exact .inl ⟨r0,e0,rfl⟩
 generalize (hm aa).take 1=m0 at lm0 mo0;have k3:=af hM0 (.lst (m0.map V.str));have s3:=(s1.trans s2).trans k3;have lL:=k3 _ _ (s2 _ _ eD);have ZO:=k3 _ _ eE;have eM3:upd H2 M0 (.lst (m0.map V.str)) M0=some (.lst (m0.map V.str)):=ae;generalize upd H2 M0 (.lst (m0.map V.str))=H3 at k3 s3 lL ZO eM3;refine goN ?_
 ac_rfl
 let yj:uh:=λi σ H4=>∃(M:Addr) (ms:z0t)(y1 y2 y6:Option V),σ=[aE R,y1,y2,aE D,aE En,aE M,y6,none,none,none,none,none,none,none]/\aD H3 H4/\H4 M=some (.lst (ms.map V.str))/\ms.length<=8+200 * i/\z6 aa ms
 refine⟨_,rfl,R,rfl,⟨_,s3.seq hR⟩,bQ (xs:=145) yj ⟨M0,m0,_,_,_,rfl,λ_ _ h=>h,eM3,∅,mo0⟩ ?_ ?_ ?_⟩
 .rintro i σ H4 _ ⟨M,ms,y1,y2,y6,rfl,s4,_⟩;exact s4.seq (s3.seq hR)
 .intro i x σ H4 ex pG
  ac_nf0
  obtain⟨M,ms,y1,y2,y6,rfl,s4,eM,lM,mO⟩:=pG;have li:=(bu.mp ex).1;rw [ar] at li;refine goN ?_
  ac_nf
  let Fe:uh:=λj σ H5=>∃(M:Addr) (ms:z0t)(y1 y2:Option V),σ=[aE R,y1,y2,aE D,aE En,aE M,some x,none,none,none,none,none,none,none]/\aD H3 H5/\H5 M=some (.lst (ms.map V.str))/\ms.length<=8+200 * i+6 * j/\z6 aa ms
  refine⟨_,rfl,R,rfl,⟨_,s4.seq (s3.seq hR)⟩,bQ (xs:=145) Fe ⟨M,ms,_,_,rfl,s4,eM,∅,mO⟩ ?_ ?_ ?_⟩
  .rintro j σ H5 _ ⟨M,ms,y1,y2,rfl,s5,_⟩;exact s5.seq (s3.seq hR)
  .intro j x2 σ H5 iM pG
   ac_nf0
   obtain⟨M,ms,y1,y2,rfl,s5,eM,lM,mO⟩:=pG;have lj:=(bu.mp iM).1;rw [ar] at lj;rw [aX] at iM;obtain⟨r,er,rfl⟩:=bT.mp iM;obtain⟨ru,e1,p,v1,v2⟩:=cM.get er;have ix:=qw.qe ru (cE e1);have CS:=s3.trans s5;refine⟨r,_,rfl,CS.tup v1,rfl,_,_,rfl,_,_,rfl,rfl,?_⟩;refine⟨_,rfl,_,rfl,M,_,rfl,.inl (aI.of eM),rfl,bZ _,_,rfl,?_⟩;refine 246
   .refine⟨_,rfl,_,rfl,p,rfl,⟨_,CS.tup v2⟩,λD2 jL=>gL (xs:=ru.2.map V.str) (λk ys σ2 H6=>∃zs:z0t,ys=154/\zs.length<=k/\(∃y0,σ2=[y0,aE D,aE M])/\aD H5 H6/\H6 D2=some (.lst ys)/\∀z∈zs,z∈ru.2)
     ⟨[],rfl,aG _,⟨none,rfl⟩,af jL _,ae,λ_ h=>(by cases h)⟩ (λk ys σ2 H6 _ h=>?_) (λk v ys σ2 H6 ex h=>?_) (λys σ2 H6 h=>?_)⟩
    .obtain⟨_,_,_,_,s6,_⟩:=h;exact s6.tup (CS.tup v2)
    .obtain⟨zs,rfl,lz,⟨y0,rfl⟩,s6,oB,zm⟩:=h;have lk:=(bu.mp ex).1;rw [ar] at lk;rw [aX] at ex;obtain⟨z,ez,rfl⟩:=bT.mp ex;refine goN ?_;refine⟨_,rfl,_,rfl,D,_,rfl,.inl (aI.of (s6 _ _ (s5 _ _ lL))),rfl,bZ _,_,rfl,?_⟩;refine b_ (λc1=>?_) (λc1=>?_)
     .refine⟨_,rfl,_,rfl,M,_,rfl,.inl (aI.of (s6 _ _ eM)),rfl,bZ _,_,rfl,?_⟩;refine b_ (λc2=>?_) (λc2=>?_)
      .refine⟨_,rfl,oB,219,zs++[z],by rw [ba];rfl,by rw [a8];simp;omega,157,λb o hb=>?_,ae,λy hy=>(bP.mp hy).elim (zm y) λq=>(bB.mp q) ▸ cE ez⟩;rw [aj (λz=>by rw [z,jL] at hb;cases hb)];exact s6 b o hb
      exact⟨zs,rfl,∅,157,s6,oB,zm⟩
     refine iY ?_;exact⟨zs,rfl,∅,157,s6,oB,zm⟩
    obtain⟨zs,rfl,lz,_,s6,oB,zm⟩:=h;have cm:ru.1∈ms:=cR ((dG _ _).symm.trans c);rw [ar] at lz;refine⟨M,D2,_,_,rfl,rfl,s6 _ _ eM,oB,fits (by rw [ar,ar];omega),λM2 hM2=>?_⟩;rw [<-ba];refine⟨M2,ms++zs,_,_,rfl,(s5.trans s6).trans (af hM2 _),ae,by rw [a8];omega,mO.app (cE e1) cm zm⟩
   exact⟨M,ms,_,_,rfl,s5,eM,∅,mO⟩
  rintro σ H5 ⟨M,ms,y1,y2,rfl,s5,eM,lM,mO⟩;rw [ar,ll] at lM;exact⟨M,ms,_,_,_,rfl,s5,eM,∅,mO⟩
 rintro σ H4 ⟨M,ms,y1,y2,y6,rfl,s4,eM,lM,mO⟩;have yN:=s3.trans s4;refine⟨_,rfl,R,rs,aa,false,rfl,yN.seq hR,cM.same yN,qw,λEm H5 fEm s5 eEm lEm=>?_⟩;refine goN ?_
 ac_rfl
 refine⟨uq,λAl Zf=>?_⟩;have k6:=af Zf 138;have s6:=(yN.trans s5).trans k6;have eD6:=k6 _ _ (s5 _ _ (s4 _ _ lL));have eE6:=k6 _ _ (s5 _ _ (s4 _ _ ZO));have eM6:=k6 _ _ (s5 _ _ eM);have T7:=k6 _ _ eEm;have eA6:upd H5 Al 138 Al=some 138:=ae;have nA:∀b o,H5 b=some o->b≠Al:=λb o h z=>by rw [z,Zf] at h;cases h
 have nAD:=nA _ _ (s5 _ _ (s4 _ _ lL));have nAE:=nA _ _ (s5 _ _ (s4 _ _ ZO));have nAM:=nA _ _ (s5 _ _ eM);have nAm:=nA _ _ eEm;have fAl:H Al=none:=(yN.trans s5).free Zf;generalize upd H5 Al 138=H6 at k6 s6 eD6 eE6 eM6 T7 eA6;refine goN ?_
 ac_rfl
 let Kp:Hp->Prop:=λH7=>aD H H7/\H7 D=some (.lst ((hm aa).map V.str))/\H7 En=some (.lst ((cf true aa).map V.str))/\H7 M=some (.lst (ms.map V.str))/\H7 Em=some (.lst ((cf false aa).map V.str))
 have jV:∀{H7 H8:Hp},Kp H7->aD H7 H8->Kp H8:=λh s=>⟨h.1.trans s,s _ _ h.2.1,s _ _ h.2.2.1,s _ _ h.2.2.2.1,s _ _ h.2.2.2.2⟩;have Si:∀{H7:Hp}{xs:List V},Kp H7->Kp (upd H7 Al (.lst xs)):=λh=>⟨λb o hb=>by rw [aj (λz=>by rw [z,fAl] at hb;cases hb)];exact h.1 b o hb,by rw [aj nAD];exact h.2.1,by rw [aj nAE];exact h.2.2.1,by rw [aj nAM];exact h.2.2.2.1,by rw [aj nAm];exact h.2.2.2.2⟩
 let Nj:Hp->z0q->z0i->Prop:=λH7 as bq=>Paired (λa (pr:Str×Str)=>aZ K H7 a [.str pr.1,.str pr.2]) as bq
 let Uz:uh:=λi σ H7=>∃(as:z0q)(bq:z0i)(y1 y2 y6 y9 pW:Option V),σ=[aE R,y1,y2,aE D,aE En,aE M,y6,aE Em,aE Al,y9,pW,none,none,none]/\Kp H7/\H7 Al=some (.lst (as.map V.ref))/\Nj H7 as bq/\as.length<=6 * i/\AlO aa (aa.take i) bq
 refine⟨_,rfl,R,rfl,⟨_,s6.seq hR⟩,bQ (xs:=145) Uz ⟨[],[],_,_,_,_,_,rfl,⟨s6,eD6,eE6,eM6,T7⟩,eA6,.nil,92,λru h=>(by simp at h)⟩ ?_ ?_ ?_⟩
 .rintro i σ H7 _ ⟨as,bq,y1,y2,y6,y9,pW,rfl,kp,_⟩;exact kp.1.seq hR
 .intro i x2 σ H7 iM pG
  ac_nf0
  obtain⟨as,bq,y1,y2,y6,y9,pW,rfl,kp,eA,pA,lA,aO⟩:=pG;have lj:=(bu.mp iM).1;rw [ar] at lj;rw [aX] at iM;obtain⟨r,er,rfl⟩:=bT.mp iM;obtain⟨ru,e1,p,v1,v2⟩:=cM.get er;have ix:=qw.qe ru (cE e1);refine⟨r,_,rfl,kp.1.tup v1,rfl,_,_,rfl,_,_,rfl,rfl,?_⟩;refine⟨_,rfl,p,_,rfl,.inr (kp.1.tup v2),_,rfl,by rw [ar];omega,by rw [ar];omega,?_⟩;rw [ar,jn]
  let Iz4:uh:=λj σ H8=>∃(as:z0q)(bq:z0i)(y9 pW:Option V),σ=[aE R,some (.str ru.1),aE p,aE D,aE En,aE M,y6,aE Em,aE Al,y9,pW,none,none,none]/\Kp H8/\H8 Al=some (.lst (as.map V.ref))/\Nj H8 as bq/\as.length<=6 * i+j/\AlO aa (aa.take i) bq/\∀(j2:Nat)(z2:Str),j2 < j->Ju aa ru j2 z2->(ru.1,z2)∈bq
  refine jG (n:=ru.2.length) Iz4 ⟨as,bq,_,_,rfl,kp,eA,pA,∅,aO,λj2 _ h=>by omega⟩ ?_ ?_
  .intro j σ H8 hj pG
   ac_nf0
   obtain⟨as,bq,y9,pW,rfl,kp,eA,pA,lA,aO,aJ⟩:=pG;obtain⟨z,ez⟩:∃z,ru.2[j]?=some z:=⟨ru.2[j]'∅,cZ ∅⟩;have atj:pQ (ru.2.map V.str) (0+(j:Int))=some (.str z):=by
    rw [jc];exact cH (by rw [aX,ez];rfl)
   have eq1:=vL ru.2 j;have eq2:=vM ru.2 j;have lq1:(ru.2.take j).length<=ru.2.length:=by rw [du];omega
   have lq2:(ru.2.drop (j+1)).length<=ru.2.length:=by rw [mC];omega
   have Oc:∀y,y∈ru.2.take j++ru.2.drop (j+1)->∃k,k≠j/\ru.2[k]?=some y:=λy hy=>by
    rcases bP.mp hy with h | h
    .obtain⟨k,lk,ek⟩:=wY h;exact⟨k,∅,ek⟩
    obtain⟨k,ek⟩:=gR h;rw [List.getElem?_drop] at ek;exact⟨j+1+k,∅,ek⟩
   generalize ru.2.take j=q1 at eq1 lq1 Oc;generalize ru.2.drop (j+1)=q2 at eq2 lq2 Oc;refine goN ?_
   ac_rfl
   refine⟨_,rfl,_,rfl,_,rfl,p,_,rfl,kp.1.tup v2,λt1 H9 s9 e9=>?_⟩;rw [eq1] at e9;refine⟨_,rfl,_,rfl,_,_,rfl,rfl,_,rfl,p,_,rfl,s9.tup (kp.1.tup v2),λt2 HA sA VX=>?_⟩;rw [eq2] at VX;refine⟨t1,t2,_,_,rfl,rfl,sA.tup e9,VX,fits (by rw [ar,ar];omega),λt3 HB sB eB=>?_⟩;rw [<-ba] at eB;refine goN ?_
   ac_rfl
   have WU:=s9.trans (sA.trans sB);have MK:=jV kp WU;have ZZ:=WU _ _ eA;have pAB:Nj HB as bq:=Paired.b9 pA λa pr z=>WU.tup z;have yZ:∀{HC:Hp},aD HB HC->¬Ju aa ru j z->∃(as:z0q)(bq:z0i)(Wm Ws:Option V),[aE R,some (.str ru.1),aE p,aE D,aE En,aE M,y6,aE Em,aE Al,some (.int (0+(j:Int))),aE t3,none,none,none]=[aE R,some (.str ru.1),aE p,aE D,aE En,aE M,y6,aE Em,aE Al,Wm,Ws,none,none,none]/\Kp HC/\HC Al=some (.lst (as.map V.ref))/\Nj HC as bq/\as.length<=6 * i+(j+1)/\AlO aa (aa.take i) bq/\∀(j2:Nat)(z2:Str),j2 < j+1->Ju aa ru j2 z2->(ru.1,z2)∈bq:=λ{HC} sC nl=>⟨as,bq,_,_,rfl,jV MK sC,sC _ _ ZZ,Paired.b9 pAB λa pr z=>sC.tup z,∅,aO,λj2 z2 h lo=>by
    by_cases c:j2 < j
    .exact aJ j2 z2 c lo
    have:j2=j:=by omega
    subst this;have e2:=lo.1;rw [ez] at e2;cases e2;exact absurd lo nl⟩
   refine⟨_,rfl,_,rfl,p,_,_,_,rfl,rfl,MK.1.tup v2,atj,_,rfl,D,_,rfl,.inl (aI.of MK.2.1),rfl,bZ _,_,rfl,?_⟩;refine b_ (λc1=>?_) (λc1=>?_)
   .refine⟨_,rfl,t3,rfl,⟨_,eB⟩,λD2 jL=>gK (zs:=q1++q2) [aE Em] (λz=>decide (z∈cf false aa)) rfl eB (by rw [a8];omega) jL (λz _ H5 Qy s5 hq=>?_) λHC sC eC=>?_⟩
    .refine⟨_,rfl,_,rfl,Em,_,rfl,.inl (aI.of (s5 _ _ MK.2.2.2.2)),rfl,bZ _,?_⟩;rw [dG];exact hq
    refine⟨D2,_,rfl,aI.of eC,_,rfl,?_⟩;refine b_ (λc2=>?_) (λc2=>?_)
    .have JG:=jV MK sC;refine⟨_,rfl,.inl ⟨rfl,_,aI.of (sC _ _ ZZ)⟩,_,rfl,_,rfl,_,rfl,p,_,_,_,rfl,rfl,JG.1.tup v2,atj,qo,λt ht=>?_⟩;have kD:=af ht (.tup [.str ru.1,.str z]);have sD:=sC.trans kD;have vD:aZ K (upd HC t (.tup [.str ru.1,.str z])) t [.str ru.1,.str z]:=aZ.of ae;generalize upd HC t (.tup [.str ru.1,.str z])=HD at kD sD vD;have ZY:=sD _ _ ZZ;refine⟨Al,_,_,rfl,rfl,ZY,219,?_⟩;exact⟨as++[t],bq++[(ru.1,z)],_,_,rfl,Si (jV MK sD),by rw [ae,ba];rfl,fc (Paired.b9 pAB λa pr z=>bz ZY (sD.tup z)) (bz ZY vD),by rw [a8];simp;omega,λr Ql j2 z2 lo=>fg _ (aO r Ql j2 z2 lo),λj2 z2 h lo=>by
      by_cases c:j2 < j
      .exact fg _ (aJ j2 z2 c lo)
      have:j2=j:=by omega
      subst this;have e2:=lo.1;rw [ez] at e2;cases e2;exact dJ _ cS⟩
    refine yZ sC λlo=>c2 ?_;rw [all_map];refine eG.mpr λy hy=>cv ?_;obtain⟨k,nk,ek⟩:=Oc y hy;exact lo.2.2 k y nk ek
   refine iY ?_;exact yZ (λ_ _ h=>h) λlo=>c1 ((dG _ _).trans (cv lo.2.1))
  rintro σ H8 ⟨as,bq,y9,pW,rfl,kp,eA,pA,lA,aO,aJ⟩;refine⟨as,bq,_,_,_,_,_,rfl,kp,eA,pA,∅,λr Ql j2 z2 lo=>?_⟩;rw [cK,e1] at Ql;rcases bP.mp Ql with h | h
  .exact aO r h j2 z2 lo
  have:r=ru:=bB.mp h;subst this;exact aJ j2 z2 (bu.mp lo.1).1 lo
 rintro σ H7 ⟨as,bq,y1,y2,y6,y9,pW,rfl,kp,eA,pA,lA,aO⟩;rw [ar,ll] at lA aO;rw [b0] at aO;refine⟨uq,λCm Zc=>?_⟩;have k8:=af Zc 138;have X7:=jV kp k8;have eA8:=k8 _ _ eA;have pA8:Nj (upd H7 Cm 138) as bq:=Paired.b9 pA λa pr z=>k8.tup z;have eC8:upd H7 Cm 138 Cm=some 138:=ae;have nC:∀b o,H7 b=some o->b≠Cm:=λb o h z=>by rw [z,Zc] at h;cases h
 have nCA:=nC _ _ eA;have nCD:=nC _ _ kp.2.1;have nCE:=nC _ _ kp.2.2.1;have nCM:=nC _ _ kp.2.2.2.1;have nCm:=nC _ _ kp.2.2.2.2;have fCm:H Cm=none:=kp.1.free Zc;have Sh:∀{H7:Hp}{xs:List V},Kp H7->Kp (upd H7 Cm (.lst xs)):=λh=>⟨λb o hb=>by rw [aj (λz=>by rw [z,fCm] at hb;cases hb)];exact h.1 b o hb,by rw [aj nCD];exact h.2.1,by rw [aj nCE];exact h.2.2.1,by rw [aj nCM];exact h.2.2.2.1,by rw [aj nCm];exact h.2.2.2.2⟩;generalize upd H7 Cm 138=H8 at k8 X7 eA8 pA8 eC8;refine goN ?_
 ac_rfl
 have lap:=a7 pA
 let Iz5:uh:=λi σ H9=>∃(cs:z0t)(y1 y2 y6 y9 pW wM Ac:Option V),σ=[aE R,y1,y2,aE D,aE En,aE M,y6,aE Em,aE Al,y9,pW,aE Cm,wM,Ac]/\Kp H9/\H9 Al=some (.lst (as.map V.ref))/\Nj H9 as bq/\H9 Cm=some (.lst (cs.map V.str))/\cs.length<=32 * i/\QR aa bq cs
 refine⟨_,rfl,R,rfl,⟨_,X7.1.seq hR⟩,bQ (xs:=145) Iz5 ⟨[],_,_,_,_,_,_,_,rfl,X7,eA8,pA8,eC8,92,⟨92,λ_ h=>(by cases h),λi h e=>(by cases e)⟩⟩ ?_ ?_ ?_⟩
 .rintro i σ H9 _ ⟨cs,y1,y2,y6,y9,pW,wM,Ac,rfl,JH,_⟩;exact JH.1.seq hR
 .intro i x σ H9 ex pG
  ac_nf0
  obtain⟨cs,y1,y2,y6,y9,pW,wM,Ac,rfl,JH,eA9,pA9,ZT,lC9,PB⟩:=pG;have li:=(bu.mp ex).1;rw [ar] at li;refine goN ?_
  ac_nf
  let Iz6:uh:=λj σ HA=>∃(cs:z0t)(wM Ac:Option V),σ=[aE R,y1,y2,aE D,aE En,aE M,some x,aE Em,aE Al,y9,pW,aE Cm,wM,Ac]/\Kp HA/\HA Al=some (.lst (as.map V.ref))/\Nj HA as bq/\HA Cm=some (.lst (cs.map V.str))/\cs.length<=32 * i+j/\QR aa bq cs
  refine⟨_,rfl,D,rfl,⟨_,aI.of JH.2.1⟩,bQ (xs:=(hm aa).map V.str) Iz6 ⟨cs,_,_,rfl,JH,eA9,pA9,ZT,∅,PB⟩ ?_ ?_ ?_⟩
  .rintro j σ HA _ ⟨cs,wM,Ac,rfl,Sj,_⟩;exact aI.of Sj.2.1
  .intro j x2 σ HA iM pG
   ac_nf0
   obtain⟨cs,wM,Ac,rfl,Sj,QF,RK,QE,lCA,V0⟩:=pG;have lj:=(bu.mp iM).1;rw [ar] at lj;rw [aX] at iM;obtain⟨nm,enm,rfl⟩:=bT.mp iM;refine goN ?_;refine⟨_,rfl,Al,rfl,⟨_,aI.of QF⟩,λD2 jL=>bL (xs:=as.map V.ref) (λk ys σ2 HB=>∃bs:List Bool,ys=bs.map V.bl/\bs.length<=k/\(∃y0 y1,σ2=[y0,y1,aE Cm,some (.str nm)])/\aD HA HB/\HB D2=some (.lst ys)/\(bs.all id=true->∀pr∈bq.take k,pr.1=nm->pr.2∈cs))
    ⟨[],rfl,aG _,⟨none,none,rfl⟩,af jL _,ae,λ_ _ h=>(by simp at h)⟩ (λk ys σ2 HB _ h=>?_) (λk v ys σ2 HB ex h=>?_) (λys σ2 HB h=>?_)⟩
   .obtain⟨_,_,_,_,sB,_⟩:=h;exact aI.of (sB _ _ QF)
   .obtain⟨bs,rfl,lz,⟨u0,u1,rfl⟩,sB,eB,zA⟩:=h;have lk:=(bu.mp ex).1;rw [ar] at lk;rw [aX] at ex;obtain⟨a,ea,rfl⟩:=bT.mp ex;obtain⟨pr,epr⟩:∃pr,bq[k]?=some pr:=⟨bq[k]'∅,cZ ∅⟩;obtain⟨a',ea',va⟩:=Paired.at_ RK k pr epr;rw [ea] at ea';cases ea';have tk:bq.take (k+1)=bq.take k++[pr]:=by rw [cK,epr];rfl
    refine⟨a,_,rfl,sB.tup va,rfl,_,_,rfl,_,_,rfl,rfl,?_⟩;refine⟨_,rfl,_,rfl,rfl,_,rfl,?_⟩;refine b_ (λc1=>?_) (λc1=>?_)
    .refine⟨_,rfl,_,rfl,Cm,_,rfl,.inl (aI.of (sB _ _ QE)),rfl,bZ _,?_⟩;rw [dG];refine⟨eB,219,bs++[decide (pr.2∈cs)],by rw [ba];rfl,by rw [a8];simp;omega,⟨_,_,rfl⟩,λb o hb=>?_,ae,λEK p2 uF e2=>?_⟩
     .rw [aj (λz=>by rw [z,jL] at hb;cases hb)];exact sB b o hb
     rw [List.all_append,nh] at EK;rw [tk] at uF;rcases bP.mp uF with h | h
     .exact zA EK.1 p2 h e2
     rw [bB.mp h];have:=EK.2;simpa using this
    refine⟨bs,rfl,∅,⟨_,_,rfl⟩,sB,eB,λEK p2 uF e2=>?_⟩;rw [tk] at uF;rcases bP.mp uF with h | h
    .exact zA EK p2 h e2
    have:p2=pr:=bB.mp h;rw [this] at e2;exact absurd (cv (congrArg V.str e2)) c1
   obtain⟨bs,rfl,lz,_,sC,eC,zA⟩:=h;rw [ar] at lz zA;rw [lap,b0] at zA;have JG:=jV Sj sC;have yZ:∃(cs:z0t)(Wr Wq:Option V),[aE R,y1,y2,aE D,aE En,aE M,some x,aE Em,aE Al,y9,pW,aE Cm,some (.str nm),Ac]=[aE R,y1,y2,aE D,aE En,aE M,some x,aE Em,aE Al,y9,pW,aE Cm,Wr,Wq]/\Kp HB/\HB Al=some (.lst (as.map V.ref))/\Nj HB as bq/\HB Cm=some (.lst (cs.map V.str))/\cs.length<=32 * i+(j+1)/\QR aa bq cs:=⟨cs,_,_,rfl,JG,sC _ _ QF,Paired.b9 RK λa pr z=>sC.tup z,sC _ _ QE,∅,V0⟩;refine⟨D2,_,rfl,aI.of eC,_,rfl,?_⟩;refine b_ (λc2=>?_) (λc2=>?_)
   .refine⟨_,rfl,_,rfl,Cm,_,rfl,.inl (aI.of (sC _ _ QE)),rfl,bZ _,_,rfl,?_⟩;refine b_ (λc1=>?_) (λc1=>?_)
    .have ZS:=sC _ _ QE;have nc:nm∉cs:=λh=>by
      have c1':(!OF (V.str nm) (cs.map V.str))=true:=c1;rw [dG,cv h] at c1';cases c1'
     refine⟨_,rfl,.inl ⟨rfl,_,aI.of ZS⟩,_,rfl,Cm,_,_,rfl,rfl,ZS,219,?_⟩;exact⟨cs++[nm],_,_,rfl,Sh JG,by rw [aj nCA];exact sC _ _ QF,Paired.b9 RK λa pr z=>bz ZS (sC.tup z),by rw [ae,ba];rfl,by rw [a8];simp;omega,V0.add nc (cE enm) λz hz=>zA c2 (nm,z) hz rfl⟩
    exact yZ
   refine iY ?_;exact yZ
  rintro σ HA ⟨cs,wM,Ac,rfl,Sj,QF,RK,QE,lCA,V0⟩;rw [ar,Dg] at lCA;exact⟨cs,_,_,_,_,_,_,_,rfl,Sj,QF,RK,QE,∅,V0⟩
 rintro σ H9 ⟨cs,y1,y2,y6,y9,pW,wM,Ac,rfl,JH,eA9,pA9,ZT,lC9,PB⟩;refine⟨_,rfl,D,rfl,⟨_,aI.of JH.2.1⟩,λD3 JM=>qh (zs:=hm aa) [aE En,aE M,aE Cm] (λz=>decide (z∈cf true aa) && (decide (z∈ms) && decide (z∈cs))) rfl (aI.of JH.2.1) ∅ JM (λz _ H5 Qy s5 hq=>?_) λHC sC eC=>?_⟩
 .refine⟨_,rfl,_,rfl,En,_,rfl,.inl (aI.of (s5 _ _ JH.2.2.1)),rfl,bZ _,_,rfl,?_⟩;rw [dG];show if decide (z∈cf true aa)=true then _ else _;refine 246
  .rw [c,mq] at hq;refine⟨_,rfl,_,rfl,M,_,rfl,.inl (aI.of (s5 _ _ JH.2.2.2.1)),rfl,bZ _,_,rfl,?_⟩;rw [dG];show if decide (z∈ms)=true then _ else _;refine 246
   .rw [c,mq] at hq;refine⟨_,rfl,_,rfl,Cm,_,rfl,.inl (aI.of (s5 _ _ ZT)),rfl,bZ _,?_⟩;rw [dG];exact hq
   have c':decide (z∈ms)=false:=by simpa using c
   rw [c',rm] at hq;exact hq
  have c':decide (z∈cf true aa)=false:=by simpa using c
  rw [c',rm] at hq;exact hq
 refine⟨D3,_,rfl,aI.of eC,?_⟩;rw [all_map];refine⟨_,rfl,_,rfl,?_⟩;have JG:=jV JH sC;have coP:PlO aa cs:=λi h e ru ix er j z lo=>PB.co i h e z (er ▸ aO ru ix j z lo);refine b_ (λhb=>?_) (λhb=>q _ _ JG.1 λh=>(by cases h));have al:=λz hz=>jo.mp (eG.mp hb z hz);have ca:∀z∈hm aa,z∈cs:=λz hz=>cR (jo.mp (al z hz).2).2;refine⟨_,rfl,_,rfl,R,Em,rs,aa,cf false aa,rfl,JG.1.seq hR,cM.same JG.1,qw,JG.2.2.2.2,∅,λb HF sF hv=>?_⟩;refine q _ _ (JG.1.trans sF) λIG=>⟨ms,cs,?_⟩;obtain⟨v1,v2⟩:=hv IG;have ahd:PZ aa (cf false aa) cs:=λru ix hp=>by
  have hc:=ca _ (iB ix);refine⟨hc,λp jW=>?_⟩;obtain⟨j,ej⟩:=gR jW;exact sZ cs p _ (coP _ _ (xN cs ru.1 hc) ru ix rfl j p ⟨ej,(ot false aa).sub p (hp p jW),λk y _ ey=>hp y (cE ey)⟩)
 have lcs:=iW cs _ PB.cn PB.ch;refine⟨mO,λz hz=>cR (jo.mp (al z hz).2).1,PB.cn,PB.ch,coP,ca,v1,_,FP (λx hx=>tP hx) ahd (n:=aa.length) ∅,λh hh=>v2 h (me.mpr hh)⟩
end
theorem p_ {α β:Type}{F:α->β->Prop}:∀{xs:List α}{ys:List β}{Fm:List α}{QV:List β},Paired F xs ys->Paired F Fm QV->Paired F (xs++Fm) (ys++QV)
 | _,_,_,_,.nil,h=>h
 | _,_,_,_,.cons a b,h=>.cons a (p_ b h)
def Gf {aa:88}{cC ws:z0t}(nd:cC.Nodup)(n9:cC.length<=9)(dj:∀x∈cC,x∉ws)(hl:aa.length=cC.length)
  (hs:∀(j:Nat)(ru:ax),aa[j]?=some ru->cC[j]?=some ru.1/\yf cC ws j ru.2):Chn aa cC ws:=by
 refine⟨nd,n9,dj,λje e=>(hs 0 je e).1,λru h=>?_,λa h e=>?_,λru h=>?_⟩
 .obtain⟨a,e⟩:=gR h;exact cE (hs a ru e).1
 .have la:=(bu.mp e).1;have e2:aa[a]?=some (aa[a]'∅):=cZ ∅;obtain⟨x1,x2⟩:=hs a _ e2;rw [e] at x1;refine⟨(aa[a]'∅).2,?_,?_⟩
  .rw [show h=(aa[a]'∅).1 from gJ x1];exact cE e2
  rcases x2 with ⟨n',wx,e3,_,hw,_,jW⟩ | ⟨l,hw,_⟩
  .rcases jW with q | q
   .exact .inl ⟨n',wx,[],e3,q,hw,λ_ h=>(by cases h)⟩
   exact .inl ⟨n',[],wx,e3,q,λ_ h=>(by cases h),hw⟩
  exact .inr ⟨∅,hw⟩
 obtain⟨a,e⟩:=gR h;rcases (hs a ru e).2 with ⟨n',wx,_,UN,hw,_,jW⟩ | ⟨_,hw,_⟩
 .obtain⟨y,hy⟩:=List.exists_mem_of_ne_nil wx UN;refine .inl ⟨y,?_,hw y hy⟩;rcases jW with q | q
  .rw [q];exact fg _ hy
  rw [q];exact cT _ hy
 cases hc:ru.2 with
 | nil=>exact .inr (.inl rfl)
 | cons p r=>exact .inl ⟨p,cS,hw p (by rw [hc];exact cS)⟩
def QP (cC ws:z0t)(aa:88):Prop:=∀ru∈aa,ru.1∈cC/\ru.2.length<=6/\∀x∈ru.2,x∈cC++ws
structure Fh (c:Int)(aa:88):Prop where
 one:1<=aa.length
 most:aa.length<=8
 ins:∃cC,PR c cC/\QP cC (eY c) aa
 good:∃rk b,Good aa rk b
 tx:∃cC,PR c cC/\QP cC (eY c) aa/\(aa.length<=4\/∀n∈cC,n∈hm aa)
section
def F7 (K:bp):Sp:=λvs H Q _=>∃(S:Addr)(ns:z0u) (at_:Nat),vs=[.ref S,.int (at_:Int)]/\aI K H S (ns.map V.int)/\ns.length<=1000 /\
 ∀(c:Int)(R:Addr)(rs:z0q)(aa:88)(H':Hp),c=cellAt ns at_->H R=none->aD H H'->H' R=some (.lst 153)->bM K H' rs aa->Fh c aa->Q (.ref R) H'
def mH:aK ["_law_script","_law_at","_law_cell","_law_names_here","_law_words_here","_law_rules","_law_more_here","_law_free"] ["_law_script","_law_at"] (ay Gu):=163
def KP (F:iz K "_law_grammar" "_law_grammar" Gu f fd)(T:Txt mg)(GC:aF P w K mg base 2 "_law_cell_at" ["_law_script","_law_k"] (w6 K))(GN:aF P w K mg base 2 "_law_names" ["_law_cell"] CG)(GW:aF P w K mg base 2 "_law_words" ["_law_cell"] yD)
  (GS:aF P w K mg base 2 "_law_skeleton" ["_law_script","_law_at","_law_names_here","_law_words_here"] (F4 K))(GM:aF P w K mg base 2 "_law_more" ["_law_script","_law_at","_law_names_here","_law_many","_law_words_here"] (F5 K))(GG:aF P w K mg base 2 "_law_good" ["_law_rules"] (F_ K)) :
  bR P w K mg base fI 3 f fd ["_law_script","_law_at"] (F7 K):=by
 refine F.ok mH 184 186
 .obtain⟨S,ns,at_,rfl,_⟩:=h;rfl
 obtain⟨S,ns,at_,rfl,hS,hn,q⟩:=h;refine⟨_,ag (aA (i:=2) mH.nd rfl 90 (bC GC hr rfl (ab 91 (ab (pv 1) ak))))
  (ag (aA (i:=3) mH.nd rfl 90 (bC GN hr rfl (ab (pv 2) ak)))
  (ag (aA (i:=4) mH.nd rfl 90 (bC GW hr rfl (ab (pv 2) ak)))
  (ag (aA (i:=5) mH.nd rfl 90 (bC GS hr rfl (ab 91 (ab (aN df (pv 1) av) (ab (pv 3) (ab (pv 4) ak))))))
  (ag (aA (i:=6) mH.nd rfl 90 (bC GM hr rfl (ab 91 (ab (aN df (pv 1) av) (ab (pv 3) (ab (aN de (aN cY (pv 2) av) av) (ab (pv 4) ak)))))))
  (ag (ik (cy (bc jx (aN de (aN cY (pv 2) av) av) av (cA _))
   (ag (aA (i:=7) mH.nd rfl 90 (bC GM hr rfl (ab 91 (ab (aN df (pv 1) av) (ab (pv 3) (ab (aN df av (aN de (aN cY (pv 2) av) av)) (ab (pv 4) ak)))))))
   (ao (cy (gW (bC GG hr rfl (ab (pv 7) ak))) (ao (bw (pv 7))) bf))) bf))
  (ag (cy (gW (bC GG hr rfl (ab (aN jh (pv 5) (pv 6)) ak))) (ao (bw (aN jh (pv 5) (pv 6)))) bf)
  (ao (bw (pv 5))))))))),?_⟩
 refine⟨_,rfl,_,rfl,S,ns,at_,rfl,hS,hn,λc hc=>?_⟩;have wl:=mV c;refine⟨_,rfl,c,rfl,λN cC H1 fN s1 eN nk=>?_⟩;have gl:1<=cC.length/\cC.length<=5:=⟨nk.one,nk.O8⟩;refine⟨_,rfl,c,rfl,λW H2 fW s2 eW=>?_⟩;have Gz:=s1.trans s2;have M8:=s2 _ _ eN;refine⟨_,rfl,_,rfl,_,_,rfl,rfl,_,rfl,_,rfl,S,N,W,ns,at_+1,cC,eY c,(by show [V.ref S,V.int ((at_:Int)+1),V.ref N,V.ref W]=_;congr 3),Gz.seq hS,hn,M8,eW,∅,∅,∅,∅,λR1 Mq iS H3 f3 s3 e3 Ry l3 UX=>?_⟩;have DQ:=Gz.trans s3;obtain⟨m,Qo⟩:∃m:Nat,c / 9 % 4=(m:Int):=⟨(c / 9 % 4).toNat,∅⟩;refine⟨_,rfl,_,rfl,_,_,rfl,rfl,_,rfl,_,rfl,_,_,rfl,rfl,⟨nofun,nofun⟩,_,_,rfl,rfl,(by show (0:Int) < 4;decide),_,rfl,S,N,W,ns,at_+4,m,cC,eY c,(by show [V.ref S,V.int ((at_:Int)+4),V.ref N,V.int (c / 9 % 4),V.ref W]=_;rw [Qo];congr 3),DQ.seq hS,hn,s3 _ _ M8,s3 _ _ eW,∅,∅,∅,∅,λR2 NW o5 H4 f4 s4 e4 U3 l4 in4=>?_⟩;have yN:=DQ.trans s4;have e34:=s4 _ _ e3;have NX:=Ry.same s4;have O1:=Gf nk.nd ∅ nk.dj l3 UX;have in1:QP cC (eY c) iS:=λru h=>by
  refine⟨O1.Lq ru h,?_,λx hx=>?_⟩
  .obtain⟨a,e⟩:=gR h;rcases (UX a ru e).2 with ⟨n',wx,_,_,_,l2,h | h⟩ | ⟨_,_,l2⟩
   .rw [h,a8];simp;omega
   .rw [h,dI];omega
   omega
  obtain⟨a,e⟩:=gR h;rcases (UX a ru e).2 with ⟨n',wx,en,_,hw,_,jW⟩ | ⟨_,hw,_⟩
  .have cs:x=n'\/x∈wx:=by
    rcases jW with h | h
    .rw [h] at hx;rcases bP.mp hx with q | q
     .exact .inr q
     exact .inl (bB.mp q)
    rw [h] at hx;rcases b8.mp hx with q | q
    .exact .inl q
    exact .inr q
   rcases cs with rfl | q
   .exact fg _ (cE en)
   exact dJ _ (hw x q)
  exact dJ _ (hw x hx)
 have RN:∀{aa:88}{ms cs:z0t},DF aa ms cs->1<=aa.length->aa.length<=8->QP cC (eY c) aa->(aa.length<=4\/∀n∈cC,n∈hm aa)->Fh c aa:=λg a b i x=>⟨a,b,⟨cC,nk,i⟩,g.good,cC,nk,i,x⟩;have Tf:∀n∈cC,n∈hm iS:=λn h=>by
  obtain⟨a,e⟩:=gR h;have la:=(bu.mp e).1;have e2:iS[a]?=some (iS[a]'∅):=cZ ∅;have x1:=(UX a _ e2).1;rw [e] at x1;exact bU.mpr ⟨_,cE e2,(gJ x1).symm⟩
 have Rp:∀{aa:88},1<=aa.length->aa.length<=8->QP cC (eY c) aa->Small aa:=λa b i=>⟨a,∅,λru h=>(i ru h).2.1⟩;refine⟨λσ H5=>∃y7,σ=[aE S,some (.int (at_:Int)),some (.int c),aE N,aE W,aE R1,aE R2,y7]/\aD H4 H5,?_,?_⟩
 .refine⟨_,rfl,_,_,rfl,rfl,⟨nofun,nofun⟩,_,_,rfl,rfl,(by show (0:Int) < 2;decide),rfl,_,rfl,?_⟩;refine b_ (λcc=>?_) (λcc=>?_)
  .have Qn:1+c / 9 % 4=((m+1:Nat):Int):=by omega
   refine⟨_,rfl,_,rfl,_,_,rfl,rfl,_,rfl,_,rfl,_,_,rfl,rfl,⟨nofun,nofun⟩,_,_,rfl,rfl,(by show (0:Int) < 4;decide),_,_,rfl,rfl,_,rfl,S,N,W,ns,at_+4,m+1,cC,eY c,(by show [V.ref S,V.int ((at_:Int)+4),V.ref N,V.int (1+c / 9 % 4),V.ref W]=_;rw [Qn];congr 3),yN.seq hS,hn,s4 _ _ (s3 _ _ M8),s4 _ _ (s3 _ _ eW),∅,∅,∅,∅,λR3 rs3 GO H5 f5 s5 e5 Mr l5 Vf=>?_⟩;have CS:=yN.trans s5;refine⟨_,rfl,R3,rs3,GO,rfl,aI.of e5,Mr,Rp ∅ ∅ Vf,λb H6 s6 hb=>⟨b,rfl,?_⟩⟩;refine b_ (λc2=>?_) (λc2=>?_)
   .obtain⟨ms,cs,g⟩:=hb c2;exact⟨_,rfl,q c R3 rs3 GO H6 hc (yN.free f5) (CS.trans s6) (s6 _ _ e5) (Mr.same s6) (RN g ∅ ∅ Vf (.inl ∅))⟩
   exact⟨_,rfl,s5.trans s6⟩
  exact⟨_,rfl,aD.refl _⟩
 rintro σ H5 ⟨y7,rfl,s5⟩;have CS:=yN.trans s5;have eA:=s5 _ _ e34;have eB:=s5 _ _ e4;have aau:=a7 NX;have aat:=a7 U3;have inB:QP cC (eY c) (iS++o5):=λru h=>(bP.mp h).elim (in1 ru) (in4 ru);have JE:1<=(iS++o5).length/\(iS++o5).length<=8:=by rw [a8];omega
 have rlB:bM K H5 (Mq++NW) (iS++o5):=p_ (NX.same s5) (U3.same s5);refine⟨_,rfl,_,rfl,R1,R2,_,_,rfl,rfl,eA,eB,fits (by rw [ar,ar];omega),λR4 hR4=>?_⟩;rw [<-ba];have k6:=af hR4 (.lst ((Mq++NW).map V.ref));have e6:upd H5 R4 (.lst ((Mq++NW).map V.ref)) R4=some (.lst ((Mq++NW).map V.ref)):=ae;generalize upd H5 R4 (.lst ((Mq++NW).map V.ref))=H6 at k6 e6;have Mp:=CS.trans k6;refine⟨R4,Mq++NW,iS++o5,rfl,aI.of e6,rlB.same k6,Rp JE.1 JE.2 inB,λb H7 s7 hb=>⟨b,rfl,?_⟩⟩;have vf:=k6.trans s7;refine b_ (λc2=>?_) (λc2=>?_)
 .obtain⟨ms,cs,g⟩:=hb c2;refine⟨_,rfl,_,rfl,R1,R2,_,_,rfl,rfl,vf _ _ eA,vf _ _ eB,fits (by rw [ar,ar];omega),λR5 Y6=>?_⟩;rw [<-ba];exact q c R5 (Mq++NW) (iS++o5) _ hc ((Mp.trans s7).free Y6) ((Mp.trans s7).trans (af Y6 _)) ae ((rlB.same vf).same (af Y6 _)) (RN g JE.1 JE.2 inB (.inr λn h=>by unfold hm;rw [ba];exact fg _ (Tf n h)))
 exact⟨_,rfl,q c R1 Mq iS H7 hc (Gz.free f3) (Mp.trans s7) (vf _ _ eA) ((NX.same s5).same vf) ⟨∅,∅,⟨cC,nk,in1⟩,O1.good,cC,nk,in1,.inr Tf⟩⟩
end
end hJ
namespace L2
open PySem PySem.Spec PyProof.Rows
def Pb:List V->List V->Bool
 | [],[]=>true
 | x::xs,y::ys=>vH x y && Pb xs ys
 | _,_=>false
theorem vI:∀(xs ys:List V),((List.range (min xs.length ys.length)).all (λj=>vH (xs.getD j .fu) (ys.getD j .fu)) && (xs.length == ys.length))=Pb xs ys
 | [],[]=>rfl
 | [],y::ys=>by simp [Pb]
 | x::xs,[]=>by simp [Pb]
 | x::xs,y::ys=>by
  have ih:=vI xs ys;show _=(vH x y && Pb xs ys);rw [<-ih,dI,dI,Nat.succ_min_succ,List.range_succ_eq_map,List.all_cons,List.all_map];simp only [Function.comp_def,List.getD_cons_zero,List.getD_cons_succ,Nat.succ_eq_add_one];rw [Bool.and_assoc]
  congr 2
  simp
def B0 {A:Around}{s:Shared}{xs ys:List V}{aV fq:z0n}(r:bH xs aV)(r2:bH ys fq)(fx:xs.all jI=true)(fy:ys.all jI=true) (j:Nat)(h1:j < aV.toArray.size)(h2:j < fq.toArray.size) :
  SeqAt.EqAt A s aV.toArray[j] fq.toArray[j] (vH (xs.getD j .fu) (ys.getD j .fu)):=by
 have l1:=r.length;have l2:=r2.length;have k1:j < aV.length:=by simpa using h1
 have k2:j < fq.length:=by simpa using h2
 have g1:xs[j]?=some (xs[j]'∅):=cZ ∅;have g2:ys[j]?=some (ys[j]'∅):=cZ ∅;obtain⟨u1,e1,q1⟩:=r.get g1;obtain⟨u2,e2,q2⟩:=r2.get g2;have f1:aV.toArray[j]=u1:=by
  have:=(bu.mp e1).2;simpa using this
 have f2:fq.toArray[j]=u2:=by
  have:=(bu.mp e2).2;simpa using this
 rw [f1,f2];have d1:xs.getD j .fu=xs[j]'∅:=by rw [yq,g1];rfl
 have d2:ys.getD j .fu=ys[j]'∅:=by rw [yq,g2];rfl
 rw [d1,d2];exact B5 q1 q2 (eG.mp fx _ (v_ _)) (eG.mp fy _ (v_ _))
section
variable {P:Program}{w:World}{A:Around}{E:z0b}{s:Shared}
end
section
variable {P:Program}{w:World}{A:Around}{R:Result->182}{I:Addr}{fp wr:z0q}{G:Array GenState->Array GenState->Prop}{n:Nat}{Pv:Nat->Value->Prop}{St:Nat->182}
end
section
variable {P:Program}{w:World}{A:Around}{E:z0b}{s:Shared}
end
section
variable {M:Model}{A:Around}{E:z0b}
end
section
variable {P:Program}{w:World}{A:Around}{E:z0b}{s:Shared}
end
def Pa (q pr:Str×Str):Pb [V.str q.1,V.str q.2] [V.str pr.1,V.str pr.2]=decide (q=pr):=by
 obtain⟨a,b⟩:=q;obtain⟨c,d⟩:=pr;show (vH (.str a) (.str c) && (vH (.str b) (.str d) && true))=_;have h:∀x y:Str,vH (.str x) (.str y)=decide (x=y):=λx y=>by
  show (x == y)=_;rw [jl,beq_iff_eq,decide_eq_true_iff]
 rw [h,h,Bool.and_true];by_cases e1:a=c
 .by_cases e2:b=d
  .rw [e1,e2];simp
  simp [e1,e2]
 simp [e1]
def Kr {X:Cx}{ai:z0e}{σ:St}{H:Hp}{s:Shared}(A:Around)(hu:A.units < cLine)(I:141){t a:Addr}{q pr:Str×Str}(ht:aZ X.K H t [.str q.1,.str q.2])(ha:aZ X.K H a [.str pr.1,.str pr.2]):SeqAt.EqAt A s (.ref t) (.ref a) (decide (q=pr)):=by
 by_cases e:t=a
 .subst e;have:=I.jr ht ha;injection this with h1 h2;injection h2 with h2 _;injection h1 with h1;injection h2 with h2;rw [cv (gQ h1 h2)];exact SeqAt.EqAt.same _
 obtain⟨aV,r,pl,hz⟩:=I.tuple ht;obtain⟨fq,r2,DW,hz2⟩:=I.tuple ha;have l1:=r.length;have l2:=r2.length;refine .of_refs e ?_;rw [<-Pa];have h:=SeqAt.RcAt.tuples (A:=A) (e:=λj=>vH ([V.str q.1,V.str q.2].getD j .fu) ([V.str pr.1,V.str pr.2].getD j .fu)) pl DW hu (λj h1 h2=>B0 r r2 rfl rfl j h1 h2);have e2:((List.range (min aV.toArray.size fq.toArray.size)).all (λj=>vH ([V.str q.1,V.str q.2].getD j .fu) ([V.str pr.1,V.str pr.2].getD j .fu)) && aV.toArray.size == fq.toArray.size)=Pb [V.str q.1,V.str q.2] [V.str pr.1,V.str pr.2]:=by
  rw [<-vI];simp only [cJ,<-l1,<-l2]
 rw [e2] at h;exact h
open Classical in
theorem CV {X:Cx}{ai:z0e}{σ:St}{H:Hp}{s:Shared}(I:141){pr:Str×Str}:∀{ts:z0q}{bq:z0i}{aV:z0n},bH (ts.map V.ref) aV->Paired (λt (q:Str×Str)=>aZ X.K H t [.str q.1,.str q.2]) ts bq ->
  (∀y∈aV,∃(t:Addr)(q:Str×Str),y=.ref t/\aZ X.K H t [.str q.1,.str q.2])/\(aV.any λy=>match y with | .ref t=>decide (aZ X.K H t [.str pr.1,.str pr.2]) | _=>false)=decide (pr∈bq)
 | [],_,aV,r,p=>by
  cases p;cases r;exact⟨λy h=>(by cases h),92⟩
 | t::ts,_,aV,r,p=>by
  cases p with
  | @cons _ q _ bq h p2 =>
  cases r with
  | @cons _ u _ us hu r2 =>
  obtain⟨i1,i2⟩:=CV I r2 p2;cases (show u=Value.ref t from hu);refine⟨λy hy=>?_,?_⟩
  .rcases b8.mp hy with e | e
   .exact⟨t,q,e,h⟩
   exact i1 y e
  rw [oK,i2];show (decide (aZ X.K H t [.str pr.1,.str pr.2]) || decide (pr∈bq))=decide (pr∈q::bq)
  have e:aZ X.K H t [.str pr.1,.str pr.2]↔pr=q:=⟨λz=>by
   have:=I.jr z h;injection this with h1 h2;injection h2 with h2 _;injection h1 with h1;injection h2 with h2;exact gQ h1 h2,λz=>by rw [z];exact h⟩
  rw [jl,Bool.or_eq_true_iff,decide_eq_true_iff,decide_eq_true_iff,decide_eq_true_iff,b8,e]
def RC (K:bp)(neg:Bool):R2:=λx y H Q=>∃(a p:Addr)(pr:Str×Str)(ts:z0q)(bq:z0i),x=.ref a/\y=.ref p/\aZ K H a [.str pr.1,.str pr.2]/\aI K H p (ts.map V.ref)/\Paired (λt (q:Str×Str)=>aZ K H t [.str q.1,.str q.2]) ts bq/\Q (.bl (if neg then !decide (pr∈bq) else decide (pr∈bq))) H
open Classical in
def DZ {X:Cx}(hu:X.A.units+1 < cLine):ng X (compareOp .NotIn) (RC X.K true):=by
 intro ai s σ H x y v u Q I rx ry h;obtain⟨a,p,pr,ts,bq,rfl,rfl,ha,hp,SM,q⟩:=h;cases rx;cases ry;obtain⟨aV,r,pl,hz⟩:=I.list hp;obtain⟨i1,i2⟩:=CV I (pr:=pr) r SM;refine SeqAt.notIn_listAt (λy=>match y with | .ref t=>decide (aZ X.K H t [.str pr.1,.str pr.2]) | _=>false) pl.isList (λy hy=>?_) ⟨.bl _,H,I,rfl,?_⟩
 .obtain⟨t,q2,rfl,ht⟩:=i1 y (by simpa using hy);have:=Kr X.A.in1 (by rw [rp];exact hu) I ht ha;have e:decide (q2=pr)=decide (aZ X.K H t [.str pr.1,.str pr.2]):=by
   rw [jl,decide_eq_true_iff,decide_eq_true_iff];refine⟨λz=>by rw [<-z];exact ht,λz=>?_⟩;have:=I.jr ht z;injection this with h1 h2;injection h2 with h2 _;injection h1 with h1;injection h2 with h2;exact gQ h1 h2
  rw [e] at this;exact this
 rw [show aV.toArray.any (λy=>match y with | .ref t=>decide (aZ X.K H t [.str pr.1,.str pr.2]) | _=>false)=aV.any (λy=>match y with | .ref t=>decide (aZ X.K H t [.str pr.1,.str pr.2]) | _=>false) by simp,i2]
 exact q
section
variable {prog:Program}{w:World}{A:Around}{E:z0b}{s:Shared}
def AL {a:Addr}{vs:z0n}{n:Nat}{P:Fin->182}(ho:s.heap.get? a=some (seqObj "list" vs.toArray n))(h1:vs.length < 2)
  (h:P (.done (.ret .none)) { s with heap:=sortedHeap s.heap a vs ((pairsOf vs).map (·.2)) }) :
  wpAny 158 A (Builtin.«list.sort» ⟨[.ref a],[]⟩) P E s:=by
 rw [list_sort_plain];have ha:a < s.heap.objs.size:=bD ho;refine aB (listItems_at ho rfl ?_);refine aB (listUpdate_at ho rfl ?_);obtain⟨e1,MU⟩:∃e1,(s.heap.update a (Obj.mapSeq λ_=>#[])).get? a=some (seqObj "list" #[] e1):=⟨_,get?_update_seq ho (λ_=>#[])⟩;refine aB (seqEpoch_at MU rfl ?_);refine aB (wpAny_newTuple ?_);refine aB (wpAny_newList ?_);refine j5 ?_;have ho6:(((s.heap.update a (Obj.mapSeq λ_=>#[])).push (seqObj "tuple" vs.toArray 0)).push (seqObj "list" #[] 0)).get? a=some (seqObj "list" #[] e1):=by
  rw [Heap.get?_push_ne _ _ _ (by rw [size_push',Heap.size_update];exact bV (rD ha)),Heap.get?_push_ne _ _ _ (by rw [Heap.size_update];exact bV ha)];exact MU
 show wpAny 158 A _ P E { s with heap:=((s.heap.update a (Obj.mapSeq λ_=>#[])).push (seqObj "tuple" vs.toArray 0)).push (seqObj "list" #[] 0) };dsimp only;have h2:vs.toArray.size < 2:=by simpa using h1
 rw [aw h2,aw h2];refine aB (aH ?_);rw [StateT.run_pure];refine aB (aH ?_);dsimp only;refine aB (seqEpoch_at ho6 rfl ?_);refine aB (listUpdate_at ho6 rfl ?_ (hsz2:=by rw [Array.size_map];show (pairsOf vs).size<=_;rw [pairsOf_size,ml];omega));simp only [bne_self_eq_false,wm,if_false];exact aH h
end
def DY:∀(vs:z0n),((pairsOf vs).map (·.2))=vs.toArray:=λvs=>by
 apply Array.toList_inj.mp;rw [Array.toList_map,pairsOf_toList,List.map_snd_zip (aG _)]
end L2
namespace M21
theorem mK {α:Type} [DecidableEq α]:∀(l m:List α),l.Nodup->(∀z∈l,z∈m)->l.length<=m.length
 | [],m,_,_=>gr _
 | a::l,m,hn,h=>by
  have hm:=h a cS;have:=mK l (m.erase a) (hU.mp hn).2 λx hx=>(List.mem_erase_of_ne (λz:x=a=>(hU.mp hn).1 (by rw [<-z];exact hx))).mpr (h x (cT _ hx));rw [Aw hm] at this;have:=Aq hm;rw [dI];omega
end M21
namespace L2
open PySem
def Bh {X:Cx}(K:bp)(hu:X.A.units+1 < cLine)(hK:X.K=K:=by rfl):ng X (compareOp .NotIn) (RC K true):=by
 subst hK;exact DZ hu
end L2
namespace hJ
open PySem L2 M11
abbrev xx:Stmt:=top 55
def PQ (ns:z0t)(ru:ax) (pl:Nat):Prop:=∀x∈ru.2.take pl,x∈ns
inductive iJ (aa:88) (ns:z0t)(w:Str):Str->Prop
 | word {ru:ax}{pl:Nat}:ru∈aa->PQ ns ru pl->ru.2[pl]?=some w->w∉hm aa->iJ aa ns w ru.1
 | name {ru:ax}{pl:Nat}{p:Str}:ru∈aa->PQ ns ru pl->ru.2[pl]?=some p->iJ aa ns w p->iJ aa ns w ru.1
def iJ.head {aa:88}{ns:z0t}{w h:Str}(b:iJ aa ns w h):h∈hm aa:=by
 cases b with
 | word hr _ _ _=>exact bU.mpr ⟨_,hr,rfl⟩
 | name hr _ _ _=>exact bU.mpr ⟨_,hr,rfl⟩
def iJ.text {aa:88}{ns:z0t}{w h:Str}(b:iJ aa ns w h):w∉hm aa/\∃ru∈aa,w∈ru.2:=by
 induction b with
 | word hr _ e n=>exact⟨n,_,hr,cE e⟩
 | name _ _ _ _ ih=>exact ih
def iJ.congr {aa:88}{ns ms:z0t}{w h:Str}(c:∀x,x∈ns->x∈ms)(b:iJ aa ns w h):iJ aa ms w h:=by
 induction b with
 | word hr o e n=>exact .word hr (λx hx=>c x (o x hx)) e n
 | name hr o e _ ih=>exact .name hr (λx hx=>c x (o x hx)) e ih
def ClI (aa:88) (ns:z0t)(P:z0i):Prop:=∀ru∈aa,∀pl p,ru.2[pl]?=some p->PQ ns ru pl->(p∉hm aa->(ru.1,p)∈P)/\(p∈hm aa->∀w,(p,w)∈P->(ru.1,w)∈P)
def iJ.in_ {aa:88}{ns:z0t}{P:z0i}(c:ClI aa ns P){w h:Str}(b:iJ aa ns w h):(h,w)∈P:=by
 induction b with
 | word hr o e n=>exact(c _ hr _ _ e o).1 n
 | name hr o e b ih=>exact(c _ hr _ _ e o).2 b.head _ ih
def Jx (aa:88) (ns:z0t)(ru:ax)(P P':z0i):Prop:=∀pl p,ru.2[pl]?=some p->PQ ns ru pl->(p∉hm aa->(ru.1,p)∈P')/\(p∈hm aa->∀w,(p,w)∈P->(ru.1,w)∈P')
def Jx.mono {aa:88}{ns:z0t}{ru:ax}{P0 P P' P2:z0i}(d:Jx aa ns ru P P')(h1:∀x∈P0,x∈P)(h2:∀x∈P',x∈P2):Jx aa ns ru P0 P2:=λpl p e o=>⟨λn=>h2 _ ((d pl p e o).1 n),λm w hw=>h2 _ ((d pl p e o).2 m w (h1 _ hw))⟩
def UM (aa:88) (ns:z0t)(ru:ax)(P P':z0i) (n:Nat):Prop:=∀pl p,pl < n->ru.2[pl]?=some p->PQ ns ru pl->(p∉hm aa->(ru.1,p)∈P')/\(p∈hm aa->∀w,(p,w)∈P->(ru.1,w)∈P')
def Js (K:bp)(H:Hp)(t:Addr)(p:Str×Str):Prop:=aZ K H t [.str p.1,.str p.2]
theorem Paired.LU {α β:Type}{F:α->β->Prop}:∀{xs:List α}{ys:List β}{Fm:List α}{QV:List β},Paired F xs ys->Paired F Fm QV->Paired F (xs++Fm) (ys++QV)
 | _,_,_,_,.nil,h=>h
 | _,_,_,_,.cons a r,h=>.cons a (Paired.LU r h)
def ip {α:Type}(p:α->Bool){l:List α}{m:Nat}{q:α}(e:l[m]?=some q):(l.take (m+1)).filter p=(l.take m).filter p++if p q=true then [q] else []:=by
 rw [cK,e,pU]
 congr 1
 by_cases cz:p q=true
 .rw [aw cz];show List.filter _ [q]=[q];rw [oQ,aw cz];rfl
 rw [au cz];show List.filter _ [q]=[];rw [oQ,au cz];rfl
def kS (bq:z0i)(h:Str) (oV:z0t):z0i:=(oV.filter λx=>!decide ((h,x)∈bq)).map λx=>(h,x)
def sW {bq:z0i}{h:Str}{oV:z0t}{x:Str×Str}:x∈kS bq h oV↔x.1=h/\x.2∈oV/\x∉bq:=by
 unfold kS;rw [bU];constructor
 .rintro⟨y,hy,rfl⟩;obtain⟨a,b⟩:=gw.mp hy;exact⟨rfl,a,by simpa using b⟩
 rintro⟨e,a,b⟩;have ex:x=(h,x.2):=by rw [<-e]
 exact⟨x.2,gw.mpr ⟨a,by rw [<-ex,dU b];rfl⟩,ex.symm⟩
def K1 {bq:z0i}{h:Str}{oV:z0t}(n:bq.Nodup)(n2:oV.Nodup):(bq++kS bq h oV).Nodup:=by
 refine iN.mpr ⟨n,?_,λa ha b hb z=>(sW.mp hb).2.2 (z ▸ ha)⟩;unfold kS;have:(oV.filter λx=>!decide ((h,x)∈bq)).Nodup:=List.Nodup.sublist List.filter_sublist n2;exact List.Pairwise.map _ (λa b (c:a≠b) z=>c (by injection z)) this
def Oq {bq:z0i}(pt:Str)(n:bq.Nodup):((bq.filter λq=>decide (q.1=pt)).map (·.2)).Nodup:=by
 have h:(bq.filter λq=>decide (q.1=pt)).Nodup:=List.Nodup.sublist List.filter_sublist n;have h2:∀q∈bq.filter (λq=>decide (q.1=pt)),q.1=pt:=λq hq=>cR (gw.mp hq).2;generalize bq.filter (λq=>decide (q.1=pt))=l at h h2
 induction l with
 | nil=>exact gI
 | cons a l ih =>
  obtain⟨n1,n3⟩:=hU.mp h;refine hU.mpr ⟨λz=>?_,ih n3 λq hq=>h2 q (.tail _ hq)⟩;obtain⟨b,hb,eb⟩:=bU.mp z;have e1:=h2 a (.head _);have e2:=h2 b (.tail _ hb);exact n1 ((gQ (e1.trans e2.symm) eb.symm:a=b) ▸ hb)
structure Nl (K:bp)(aa:88) (ns:z0t)(H H5:Hp)(Dh De Lp:Addr)(us:z0q)(bq:z0i):Prop where
 sm:aD H H5
 eH:H5 Dh=some (.lst ((hm aa).map V.str))
 eE:H5 De=some (.lst (ns.map V.str))
 eP:H5 Lp=some (.lst (us.map V.ref))
 fP:H Lp=none
 pP:Paired (Js K H5) us bq
 nd:bq.Nodup
 bg:∀x∈bq,iJ aa ns x.2 x.1
def Js.same {K:bp}{H H':Hp}{t:Addr}{p:Str×Str}(s:aD H H')(h:Js K H t p):Js K H' t p:=s.tup h
theorem Nl.same {K:bp}{aa:88}{ns:z0t}{H H5 H6:Hp}{Dh De Lp:Addr}{us:z0q}{bq:z0i}(h:Nl K aa ns H H5 Dh De Lp us bq)(s:aD H5 H6):Nl K aa ns H H6 Dh De Lp us bq :=
 ⟨h.sm.trans s,s _ _ h.eH,s _ _ h.eE,s _ _ h.eP,h.fP,Paired.b9 h.pP λ_ _ z=>z.same s,h.nd,h.bg⟩
section
def yH (K:bp):Sp:=λvs H Q _=>∃(R:Addr)(rs:z0q)(aa:88),vs=[.ref R]/\aI K H R 153/\bM K H rs aa/\Small aa/\(∀bq:z0i,bq.Nodup->(∀x∈bq,iJ aa (cf false aa) x.2 x.1)->bq.length<=63) /\
 ∀(D:Addr)(us:z0q)(bq:z0i)(H':Hp),H D=none->aD H H'->H' D=some (.lst (us.map V.ref))->Paired (Js K H') us bq->bq.Nodup->(∀x,x∈bq↔iJ aa (cf false aa) x.2 x.1)->Q (.ref D) H'
abbrev NBg:z0t:=["_law_rules","_law_heads","_law_empty","_law_pairs","_law_many","_law_head","_law_parts_here","_law_k","_law_words_here"]
def fk:aK NBg ["_law_rules"] (ay xx):=163
def Eh (F:iz K "_law_begins" "_law_begins" xx f fd)(T:Txt mg)(GE:aF P w K mg base 1 "_law_ended" ["_law_rules","_law_words_here"] (qG K)):bR P w K mg base fI 2 f fd ["_law_rules"] (yH K):=by
 refine F.ok fk 184 186
 .obtain⟨R,rs,aa,rfl,_⟩:=h;rfl
 obtain⟨R,rs,aa,rfl,hR,cM,qw,qe,q⟩:=h;have hu:=gh hr;refine⟨_,ag (gG (iy:=1) ["_law_head","_law_parts_here"] [] fk.nd rfl rfl rfl (aR 91) 162 nofun rfl nofun
   504 220 (λ_ _ _ _ _=>pv 0))
  (ag (aA (i:=2) fk.nd rfl (Or.inr rfl) (bC GE hr rfl (ab 91 (ab fY ak))))
  (ag (aA (i:=3) fk.nd rfl (Or.inr rfl) (bK ak))
  (ag (aA (i:=4) fk.nd rfl 90 (yR rW av))
  (ag (iw bW (bc lX (pv 4) (aP aU rfl T.len d_ (ab (pv 3) ak)) (cA _))
   (ag (aA (i:=4) fk.nd rfl 90 (aP aU rfl T.len d_ (ab (pv 3) ak)))
   (ao (bJ bW rfl (aR 91) (gu rfl (az (aq (i:=5) fk.nd rfl (Or.inr rfl)) (az (aq (i:=6) fk.nd rfl (Or.inr rfl)) bE)))
    (ao (bJ bW rfl (ie rfl T.Fs (ab (aP aU rfl T.len d_ (ab (pv 6) ak)) ak)) (aq (i:=7) fk.nd rfl (Or.inr rfl))
     (ao (cy (gW (aP (dY rfl) rfl T.all boot_all (ab (aT ["_law_part"] [(2,"_law_empty")] rfl (eV (dX i7 (pv 6) gY (eU (pv 7)))) 162 nofun rfl nofun
       (λ_ _ _ _ _=>aq (i:=0) (show (["_law_part","_law_empty"]:z0t).Nodup by decide +kernel) rfl 90) 220 (λ_ _ _ _ _=>fQ (dQ K) 91 (pv 1) rfl)) ak)))
      (ag (aA (i:=8) fk.nd rfl 90 (bK (ab (a_ bF (pv 6) (pv 7) 142) ak)))
      (ag (ik (cy (bc jw (a_ bF (pv 6) (pv 7) 142) (pv 1) rfl)
       (ao (gG (iy:=8) ["_law_name","_law_word"] [(6,"_law_parts_here"),(7,"_law_k")] fk.nd rfl rfl rfl (aR (pv 3)) 162 nofun rfl nofun
        (λ_ _ _ _ _=>di (n:=2) K rfl (az (aq (i:=0) (show (["_law_name","_law_word","_law_parts_here","_law_k"]:z0t).Nodup by decide +kernel) rfl 90) (az (aq (i:=1) (show (["_law_name","_law_word","_law_parts_here","_law_k"]:z0t).Nodup by decide +kernel) rfl 90) bE)))
        (λ_ _ _ _ _=>fM (bc jx 91 (a_ (qQ K) (pv 2) (pv 3) 142) (cA _))) (λ_ _ _ _ _=>pv 1))) bf))
      (ao (aA (i:=3) fk.nd rfl (Or.inr rfl) (aN jh (pv 3) (aT ["_law_word"] [(5,"_law_head"),(3,"_law_pairs")] rfl (aR (pv 8)) 162 nofun rfl nofun
       (λ_ _ _ _ _=>aq (i:=0) (show (["_law_word","_law_head","_law_pairs"]:z0t).Nodup by decide +kernel) rfl 90) (λ_ _ _ _ _=>fM (bc (Bh K hu) (bX (ab (pv 1) (ab 91 ak))) (pv 2) rfl)) (λ_ _ _ _ _=>bX (ab (pv 1) (ab 91 ak))))))))) bf))))))))
  (ao (bw (pv 3))))))),?_⟩
 have ll:=a7 cM;have hn1:=qw.one;have hn8:=qw.most;refine⟨_,rfl,R,rfl,⟨_,hR⟩,λDh Ts=>ij hR cM ∅ Ts λH1 s1 VW=>?_⟩;refine goN ?_;refine⟨_,rfl,R,rs,aa,false,rfl,s1.seq hR,cM.same s1,qw,λDe H2 hDe s2 e2 l2=>?_⟩;have oB:=s2 _ _ VW;generalize uv:cf false aa=ns at *;refine⟨uq,λL0 hL0=>?_⟩;have k3:=af hL0 138;have e3:upd H2 L0 138 L0=some 138:=ae;have fL0:H L0=none:=(s1.trans s2).free hL0;generalize upd H2 L0 138=H3 at k3 e3;have S0:Nl K aa ns H H3 Dh De L0 [] []:=⟨(s1.trans s2).trans k3,k3 _ _ oB,k3 _ _ e2,e3,fL0,.nil,gI,λ_ h=>by cases h⟩;refine⟨1,rfl,?_⟩;refine⟨λm σ H5=>∃(Lp:Addr)(us:z0q)(bq:z0i) (many:Int)(y5 y6 y7 y8:Option V),σ=[aE R,aE Dh,aE De,aE Lp,some (.int many),y5,y6,y7,y8]/\Nl K aa ns H H5 Dh De Lp us bq/\-1<=many/\many<=bq.length/\(many=bq.length->ClI aa ns bq)/\(m:Int)=65 - many,
  ⟨66,L0,[],[],-1,none,none,none,none,rfl,S0,∅,92,92,92⟩,?_⟩
 rintro m σ H5 ⟨Lp,us,bq,many,y5,y6,y7,y8,rfl,S,b1,b2,cl,em⟩;have R7:=a7 S.pP;refine⟨_,rfl,_,rfl,Lp,_,rfl,.inl (aI.of S.eP),_,_,rfl,rfl,_,rfl,?_⟩;refine 246
 .have c':=cR c;rw [ar,R7] at c';refine⟨λσ H6=>∃(Lp:Addr)(h_:z0q)(ext:z0i)(y5 y6 y7 y8:Option V),σ=[aE R,aE Dh,aE De,aE Lp,some (.int (bq.length:Int)),y5,y6,y7,y8]/\Nl K aa ns H H6 Dh De Lp h_ (bq++ext)/\∀ru∈aa,Jx aa ns ru bq (bq++ext),?_,?_⟩
  .rintro σ H6 ⟨QN,h_,ext,y5,y6,y7,y8,rfl,S2,dd⟩;have f2:=qe _ S2.nd S2.bg;rw [a8] at f2;refine⟨(65 - bq.length:Int).toNat,∅,QN,h_,bq++ext,_,_,_,_,_,rfl,S2,∅,by rw [a8];omega,λz=>?_,∅⟩;rw [a8] at z;have:ext=[]:=List.eq_nil_of_length_eq_zero ∅;subst this;rw [dN] at dd ⊢;exact λru ix pl p e o=>dd ru ix pl p e o
  refine⟨_,rfl,Lp,_,rfl,.inl (aI.of S.eP),?_⟩;rw [ar,R7];refine⟨_,rfl,R,rfl,⟨_,S.sm.seq hR⟩,?_⟩;refine bQ (xs:=145) (λi σ H6=>∃(Lp:Addr)(h_:z0q)(ext:z0i)(y5 y6 y7 y8:Option V),σ=[aE R,aE Dh,aE De,aE Lp,some (.int (bq.length:Int)),y5,y6,y7,y8]/\Nl K aa ns H H6 Dh De Lp h_ (bq++ext)/\∀ru∈aa.take i,Jx aa ns ru bq (bq++ext))
   ⟨Lp,us,[],_,_,_,_,rfl,by rw [dN];exact S,λru ix=>by simp at ix⟩ ?_ ?_ ?_
  .rintro i σ H6 _ ⟨QN,h_,ext,y5,y6,y7,y8,rfl,S2,_⟩;exact S2.sm.seq hR
  .rintro i x σ H6 ex ⟨QN,h_,ext,y5,y6,y7,y8,rfl,S6,dd⟩;rw [aX] at ex;obtain⟨r,er,rfl⟩:=bT.mp ex;obtain⟨ru,e1,p,v1,v2⟩:=cM.get er;have ix:=cE e1;have O2:=qw.qe ru ix;have tk:aa.take (i+1)=aa.take i++[ru]:=by rw [cK,e1];rfl
   refine⟨r,_,rfl,S6.sm.tup v1,rfl,_,_,rfl,_,_,rfl,rfl,?_⟩;refine⟨_,rfl,p,_,rfl,.inr (S6.sm.tup v2),_,rfl,by rw [ar];omega,by rw [ar];omega,?_⟩;rw [ar,jn];refine jG (n:=ru.2.length) (λj σ H7=>∃(Lp:Addr)(h_:z0q)(iM:z0i)(y7 y8:Option V),σ=[aE R,aE Dh,aE De,aE Lp,some (.int (bq.length:Int)),some (.str ru.1),aE p,y7,y8]/\Nl K aa ns H H7 Dh De Lp h_ (bq++(ext++iM))/\UM aa ns ru bq (bq++(ext++iM)) j) ⟨QN,h_,[],_,_,rfl,by rw [dN];exact S6,λpl pp l=>absurd l (mz _)⟩ ?_ ?_
   .rintro j σ H7 hj ⟨Nk,wR,iM,y7,y8,rfl,S7,VY⟩;have WM:∀x∈bq,x∈bq++(ext++iM):=λx hx=>fg _ hx;generalize SM:bq++(ext++iM)=o6 at *;obtain⟨pt,VJ⟩:∃pt,ru.2[j]?=some pt:=⟨_,cZ hj⟩;have atp:pQ (ru.2.map V.str) (0+(j:Int))=some (.str pt):=by
     rw [jc];exact cH (by rw [aX,VJ];rfl)
    have cut:g_ (ru.2.map V.str) none (some (0+(j:Int)))=(ru.2.take j).map V.str:=by
     rw [jc];unfold g_;rw [show HT.fR (ru.2.map V.str).length 0 none=0 from rfl,HT.lF,ro,Nat.sub_zero,mr,<-List.take_eq_take_min]
    refine goN ?_;refine⟨_,rfl,_,rfl,_,rfl,p,_,rfl,S7.sm.tup v2,λp2 H8 s8 TR=>?_⟩;rw [cut] at TR;refine⟨p2,rfl,⟨_,TR⟩,λD9 yn=>gK (zs:=ru.2.take j) [aE De] (λz=>decide (z∈ns)) rfl TR (by rw [du];omega) yn (λz _ HA Qy sA hq=>?_) λH9 s9 e9=>?_⟩
    .refine⟨_,rfl,_,rfl,De,_,rfl,.inl (aI.of (sA _ _ (s8 _ _ S7.eE))),rfl,bZ _,?_⟩;rw [dG];exact hq
    have S9:=S7.same (s8.trans s9);refine⟨D9,_,rfl,aI.of e9,_,rfl,?_⟩;rw [all_map];cases ca:(ru.2.take j).all λx=>decide (x∈ns) with
    | false =>
     refine iY ?_;refine⟨Nk,wR,iM,_,_,rfl,by rw [SM];exact S9,?_⟩;rw [SM];intro pl pp l e o;by_cases cj:pl < j
     .exact VY pl pp cj e o
     have:pl=j:=by omega
     subst this;rw [eG.mpr λx hx=>cv (o x hx)] at ca;cases ca
    | true =>
     have opj:PQ ns ru j:=λx hx=>cR (eG.mp ca x hx);refine BI ?_;refine⟨_,rfl,_,rfl,p,_,_,_,rfl,rfl,S9.sm.tup v2,atp,Fl,λDw hDw=>?_⟩;have kA:=af hDw (.lst [V.str pt]);have eA:upd H9 Dw (.lst [V.str pt]) Dw=some (.lst [V.str pt]):=ae;generalize upd H9 Dw (.lst [V.str pt])=HA at kA eA;have SA:=S9.same kA;have lf:=qe o6 SA.nd SA.bg;have XR:=a7 SA.pP;refine⟨λσ HB=>∃(Dv:Addr) (oV:z0t),σ=[aE R,aE Dh,aE De,aE Nk,some (.int (bq.length:Int)),some (.str ru.1),aE p,some (.int (0+(j:Int))),aE Dv]/\aD HA HB/\HB Dv=some (.lst (oV.map V.str))/\oV.Nodup/\oV.length<=64/\(pt∉hm aa->oV=[pt])/\(pt∈hm aa->∀x,x∈oV↔(pt,x)∈o6),?_,?_⟩
     .refine⟨_,rfl,_,rfl,p,_,_,_,rfl,rfl,SA.sm.tup v2,atp,_,rfl,Dh,_,rfl,.inl (aI.of SA.eH),rfl,bZ _,_,rfl,?_⟩;rw [dG];refine b_ (λcc=>?_) (λcc=>?_)
      .have pF:pt∈hm aa:=cR cc;refine⟨_,rfl,Nk,rfl,⟨_,aI.of SA.eP⟩,λDA Qt=>bL (xs:=wR.map V.ref) (λm ys σ2 HC=>ys=(((o6.take m).filter λq=>decide (q.1=pt)).map λq=>V.str q.2)/\(∃y0 y1,σ2=[y0,y1,aE p,some (.int (0+(j:Int)))])/\aD HA HC/\HC DA=some (.lst ys)) ⟨rfl,⟨none,none,rfl⟩,af Qt _,ae⟩ (λm ys σ2 HC _ h=>?_) (λm x ys σ2 HC ex h=>?_) (λys σ2 HC h=>?_)⟩
       .obtain⟨_,_,sm,_⟩:=h;exact aI.of (sm _ _ SA.eP)
       .obtain⟨rfl,⟨y0,y1,rfl⟩,sm,eD⟩:=h;rw [aX] at ex;obtain⟨u,eu,rfl⟩:=bT.mp ex;have lm:=(bu.mp eu).1;obtain⟨qq,TQ⟩:∃qq,o6[m]?=some qq:=⟨_,cZ ∅⟩;obtain⟨u',TK,vu⟩:=Paired.at_ SA.pP m qq TQ;rw [eu] at TK;cases TK;have QY:=ip (λq:Str×Str=>decide (q.1=pt)) TQ;have lfq:((o6.take m).filter λq=>decide (q.1=pt)).length<=64:=fJ (iC _ _) (by rw [du];omega);refine⟨u,_,rfl,sm.tup vu,rfl,_,_,rfl,_,_,rfl,rfl,?_⟩;refine⟨_,rfl,_,rfl,_,rfl,p,_,_,_,rfl,rfl,(SA.sm.trans sm).tup v2,atp,rfl,_,rfl,?_⟩;have dv:decide (V.str qq.1=V.str pt)=decide (qq.1=pt):=by
         by_cases c:qq.1=pt
         .rw [c,cv rfl,cv rfl]
         rw [dU c,dU (λz=>c (by injection z))]
        rw [dv];refine b_ (λc3=>?_) (λc3=>?_)
        .refine⟨_,rfl,eD,219,?_,⟨_,_,rfl⟩,λb o hb=>?_,ae⟩
         .rw [QY,aw c3,ba];rfl
         rw [aj (λz=>by rw [z,Qt] at hb;cases hb)];exact sm b o hb
        exact⟨by rw [QY,au c3,dN],⟨_,_,rfl⟩,sm,eD⟩
       obtain⟨rfl,_,sm,eD⟩:=h;rw [ar,XR,b0] at eD;refine goN ?_;refine⟨DA,(o6.filter λq=>decide (q.1=pt)).map (·.2),rfl,sm,by rw [eD,ff];rfl,Oq pt SA.nd,by rw [ar];exact fJ (iC _ _) (Nat.le_succ_of_le lf),λh=>absurd pF h,λ_ x=>?_⟩;rw [bU];constructor
       .rintro⟨q2,SK,rfl⟩;obtain⟨a1,a2⟩:=gw.mp SK;rw [<-cR a2];exact a1
       exact λhx=>⟨(pt,x),gw.mpr ⟨hx,cv rfl⟩,rfl⟩
      have nin:pt∉hm aa:=λz=>cc (cv z);exact⟨Dw,[pt],rfl,aD.refl _,eA,92,92,λ_=>rfl,λh=>absurd h nin⟩
     rintro σ HB ⟨Dv,oV,rfl,sB,eB,nw,lw,w1,w2⟩;have SB:=SA.same sB;refine⟨_,rfl,_,rfl,Dv,rfl,⟨_,aI.of eB⟩,λDC Qs=>bL (xs:=oV.map V.str) (λm ys σ2 HC=>(∃vs:z0q,ys=vs.map V.ref/\Paired (Js K HC) vs (kS o6 ru.1 (oV.take m)))/\(∃y0,σ2=[y0,some (.str ru.1),aE Nk])/\aD HB HC/\HC DC=some (.lst ys)) ⟨⟨[],rfl,.nil⟩,⟨none,rfl⟩,af Qs _,ae⟩ (λm ys σ2 HC _ h=>?_) (λm x ys σ2 HC ex h=>?_) (λys σ2 HC h=>?_)⟩
     .obtain⟨_,_,sm,_⟩:=h;exact aI.of (sm _ _ eB)
     .obtain⟨⟨vs,rfl,pv⟩,⟨y0,rfl⟩,sm,eD⟩:=h;rw [aX] at ex;obtain⟨wd,VH,rfl⟩:=bT.mp ex;have lvs:=a7 pv;have lnp:(kS o6 ru.1 (oV.take m)).length<=64:=by
       unfold kS;rw [ar];exact fJ (iC _ _) (by rw [du];omega)
      have tkw:kS o6 ru.1 (oV.take (m+1))=kS o6 ru.1 (oV.take m)++if (!decide ((ru.1,wd)∈o6))=true then [(ru.1,wd)] else []:=by
       unfold kS;rw [ip _ VH,ba]
       congr 1
       split <;> rfl
      refine goN ?_;refine⟨_,rfl,_,rfl,qo,λu1 Qk=>?_⟩;have kD:=af Qk (.tup [V.str ru.1,V.str wd]);have eu1:aZ K (upd HC u1 (.tup [V.str ru.1,V.str wd])) u1 [.str ru.1,.str wd]:=aZ.of ae;generalize upd HC u1 (.tup [V.str ru.1,V.str wd])=HD at kD eu1;have SD:=SB.same (sm.trans kD);have eDD:=kD _ _ eD;refine⟨_,rfl,u1,Nk,(ru.1,wd),wR,o6,rfl,rfl,eu1,aI.of SD.eP,SD.pP,_,rfl,?_⟩;show if (!decide ((ru.1,wd)∈o6))=true then _ else _;refine b_ (λcc=>?_) (λcc=>?_)
      .refine⟨_,rfl,_,rfl,qo,λu2 Vi=>?_⟩;have kE:=af Vi (.tup [V.str ru.1,V.str wd]);have eu2:aZ K (upd HD u2 (.tup [V.str ru.1,V.str wd])) u2 [.str ru.1,.str wd]:=aZ.of ae;generalize upd HD u2 (.tup [V.str ru.1,V.str wd])=HE at kE eu2;have ZQ:=kE _ _ eDD;refine⟨ZQ,219,⟨vs++[u2],by rw [ba];rfl,?_⟩,157,λb o hb=>?_,ae⟩
       .rw [tkw,aw cc];exact fc (Paired.b9 pv λa b z=>bz ZQ ((kD.trans kE).tup z)) (bz ZQ eu2)
       rw [aj (λz=>by rw [z,Qs] at hb;cases hb)];exact kE _ _ (kD _ _ (sm b o hb))
      exact⟨⟨vs,rfl,by rw [tkw,au cc,dN];exact Paired.b9 pv λa b z=>kD.tup z⟩,157,sm.trans kD,eDD⟩
     obtain⟨⟨vs,rfl,pv⟩,_,sm,eD⟩:=h;rw [ar,b0] at pv;have SC:=SB.same sm;have lvs:=a7 pv;have lnp:(kS o6 ru.1 oV).length<=64:=by
      unfold kS;rw [ar];exact fJ (iC _ _) lw
     refine⟨Nk,DC,wR.map V.ref,vs.map V.ref,rfl,rfl,SC.eP,eD,fits (by rw [ar,ar];omega),λL4 hL4=>?_⟩;have kF:=af hL4 (.lst (wR.map V.ref++vs.map V.ref));have eF:upd HC L4 (.lst (wR.map V.ref++vs.map V.ref)) L4=some (.lst ((wR++vs).map V.ref)):=by rw [ae,ba]
     generalize upd HC L4 (.lst (wR.map V.ref++vs.map V.ref))=HF at kF eF;have SF:=SC.same kF;have bgn:∀x∈o6++kS o6 ru.1 oV,iJ aa ns x.2 x.1:=λx hx=>by
      rcases bP.mp hx with h | h
      .exact SF.bg x h
      obtain⟨z1,z2,_⟩:=sW.mp h;rw [z1];by_cases hp:pt∈hm aa
      .exact .name ix opj VJ (SF.bg _ ((w2 hp x.2).mp z2))
      have h1:=w1 hp;rw [h1] at z2;rw [bB.mp z2];exact .word ix opj VJ hp
     have gi:∀x∈oV,(ru.1,x)∈o6++kS o6 ru.1 oV:=λx hx=>by
      by_cases hc:(ru.1,x)∈o6
      .exact fg _ hc
      exact dJ _ (sW.mpr ⟨rfl,hx,hc⟩)
     have eap:bq++(ext++(iM++kS o6 ru.1 oV))=o6++kS o6 ru.1 oV:=by rw [<-SM];simp only [iA]
     refine⟨L4,wR++vs,iM++kS o6 ru.1 oV,_,_,rfl,?_,?_⟩
     .rw [eap];exact⟨SF.sm,SF.eH,SF.eE,eF,SC.sm.free hL4,Paired.LU SF.pP (Paired.b9 pv λ_ _ z=>kF.tup z),K1 SF.nd nw,bgn⟩
     rw [eap];intro pl pp l e o;by_cases cj:pl < j
     .obtain⟨a1,a2⟩:=VY pl pp cj e o;exact⟨λn=>fg _ (a1 n),λh w hw=>fg _ (a2 h w hw)⟩
     have:pl=j:=by omega
     subst this;rw [VJ] at e;cases e;refine⟨λn=>gi pt ?_,λh w hw=>gi w ((w2 h w).mpr (WM _ hw))⟩;rw [w1 n];exact bB.mpr rfl
   rintro σ H7 ⟨Nk,wR,iM,y7,y8,rfl,S7,VY⟩;refine⟨Nk,wR,ext++iM,_,_,_,_,rfl,S7,λA9 tq=>?_⟩;rw [tk] at tq;rcases bP.mp tq with h | h
   .exact(dd A9 h).mono (λ_ z=>z) λx hx=>by rw [<-iA];exact fg _ hx
   rw [bB.mp h];exact λpl pp e o=>VY pl pp (bu.mp e).1 e o
  rintro σ H6 ⟨QN,h_,ext,y5,y6,y7,y8,rfl,S6,dd⟩;refine⟨QN,h_,ext,_,_,_,_,rfl,S6,λru ix=>dd ru ?_⟩;rw [ar,ll,b0];exact ix
 have c':¬(many < (us.map V.ref).length):=λz=>c (cv z);rw [ar,R7] at c';have og:=cl ∅;exact⟨_,rfl,q Lp us bq H5 S.fP S.sm S.eP S.pP S.nd (λx=>⟨λh=>S.bg x h,λb=>iJ.in_ og b⟩)⟩
end
theorem xS (b:Str->Bool):∀(zs:z0t) (j:Nat),j < uL b zs↔j < zs.length/\∀x∈zs.take j,b x=true
 | [],j=>⟨λh=>absurd h (mz _),λh=>absurd h.1 (mz _)⟩
 | z::r,0=>⟨λ_=>⟨Nat.succ_pos _,λ_ h=>(by cases h)⟩,λ_=>by unfold uL;split <;> omega⟩
 | z::r,j+1=>by
  have ih:=xS b r j;unfold uL;by_cases c:b z=true
  .rw [aw c,rJ,dI];constructor
   .intro h;obtain⟨h1,h2⟩:=ih.mp ∅;refine⟨∅,λx hx=>?_⟩;rcases b8.mp hx with e | e
    .rw [e];exact c
    exact h2 x e
   intro h;have:=ih.mpr ⟨∅,λx hx=>h.2 x (cT _ hx)⟩;omega
  rw [au c,rJ];exact⟨λh=>by omega,λh=>absurd (h.2 z cS) c⟩
def Mw {ns:z0t}{ru:ax}{j:Nat}{z:Str}(e:ru.2[j]?=some z):j < uL (λx=>decide (x∈ns)) ru.2↔PQ ns ru j:=by
 rw [xS];exact⟨λh x hx=>cR (h.2 x hx),λh=>⟨(bu.mp e).1,λx hx=>cv (h x hx)⟩⟩
section
variable {aa:88}{ns:z0t}{aW:List Be}
def vY (h:ux aa (hd aa) (λz=>decide (z∈ns)) aW):∀x∈bq aW,iJ aa ns x.2 x.1:=by
 induction h with
 | nil=>intro x h;cases h
 | @snoc aW k j ru z w h e1 e2 lj hw n ih =>
  intro x hx;unfold bq at hx;rw [ba] at hx;rcases bP.mp hx with q | q
  .exact ih x q
  rw [bB.mp q];have o:=(Mw e2).mp lj;have hr:=cE e1;unfold jd at hw;by_cases c:z∈hd aa
  .rw [aw c] at hw;exact .name hr o e2 (ih (z,w) (pH.mp hw))
  rw [au c] at hw;have:=bB.mp hw;subst this;exact .word hr o e2 λy=>c (me.mp y)
def E7 (c:Ab aa (hd aa) (λz=>decide (z∈ns)) aa.length aW):ClI aa ns (bq aW):=λru hr pl p e o=>by
 obtain⟨k,ek⟩:=gR hr;have lk:=(bu.mp ek).1;have cc:=c k ru lk ek pl p ((Mw e).mpr o) e;unfold jd at cc;constructor
 .intro n;rw [au (λy=>n (me.mpr y))] at cc;exact cc p (bB.mpr rfl)
 intro m w hw;rw [aw (me.mp m)] at cc;exact cc w (pH.mpr hw)
end
def O9 {aa:88}{ns A B:z0t}(hA:∀ru∈aa,ru.1∈A)(hB:∀ru∈aa,∀x∈ru.2,x∈B)(bq:z0i)(nd:bq.Nodup)(b:∀x∈bq,iJ aa ns x.2 x.1):bq.length<=A.length * B.length:=by
 have h:=M21.mK bq (A.flatMap λa=>B.map λw=>(a,w)) nd λx hx=>by
  have bx:=b x hx;obtain⟨_,ru,hr,hw⟩:=bx.text;obtain⟨P_,Ql,e2⟩:=bU.mp bx.head;exact jm.mpr ⟨x.1,e2 ▸ hA P_ Ql,bU.mpr ⟨x.2,hB ru hr _ hw,rfl⟩⟩
 have l:∀l:z0t,(l.flatMap λa=>B.map λw=>(a,w)).length=l.length * B.length:=λl=>by
  induction l with
  | nil=>simp
  | cons a r ih=>rw [pT,a8,ih,ar,dI,Nat.succ_mul,Nat.add_comm]
 rw [l] at h;exact h
def Fh.O_ {c:Int}{aa:88}(g:Fh c aa) (ns:z0t)(bq:z0i)(nd:bq.Nodup)(b:∀x∈bq,iJ aa ns x.2 x.1):bq.length<=63:=by
 obtain⟨cC,nk,i6⟩:=g.ins;have h1:=O9 (A:=cC) (B:=cC++eY c) (λru h=>(i6 ru h).1) (λru h=>(i6 ru h).2.2) bq nd b;have gl:=mV c;have n5:=nk.O8;have h2:cC.length * (cC++eY c).length<=5 * 8:=Nat.mul_le_mul n5 (by rw [a8];omega);omega
end hJ
namespace L2
open PySem PySem.Spec PyProof.Rows
open PySem
def Kw {X:Cx}{e:Expr}{f:Str}{pos:Pos}{ta:TE}(K:bp)(he:PE X e ta)(hb:attributeBase e f X.env (eval e X.env)=eval e X.env)(hK:X.K=K:=by rfl):PE X (.Attribute e f pos) (Q9 K ta f):=by subst hK;exact dA he hb
end L2
namespace hJ
open PySem L2 M11
abbrev xr:Stmt:=ME sN 3
abbrev Gy:Stmt:=ME sN 4
def L_ (K:bp)(b:Bool)(H:Hp)(p:Addr)(xs:List V):Prop:=if b=true then aZ K H p xs else aI K H p xs
def L_.same {K:bp}{b:Bool}{H H':Hp}{p:Addr}{xs:List V}(s:aD H H')(h:L_ K b H p xs):L_ K b H' p xs:=by
 cases b
 .exact s.seq h
 exact s.tup h
def Xb (K:bp)(b:Bool):R2:=λx y H Q=>V3 (L_ K b H) x y λv=>Q v H
def PU (names:z0t)(aW:List Be)(b:Str->Bool) (zs:z0t)(w:Str):Prop:=∃j z,zs[j]?=some z/\j < uL b zs/\w∈jd names aW z
def M6 (kE:93)(z:Str):Bool:=(a0 kE 150).isSome
def nq (names:z0t)(aW:List Be)(z:Str):(jd names aW z).length<=aW.length+1:=by
 unfold jd
 split
 .have:=IL aW z;omega
 show 1<=_;omega
def ow (a:z0t)(h:Str):(gP a h).length<=a.length+1:=by
 unfold gP
 split
 .omega
 rw [a8];exact aG _
section
def X_ {X:Cx}(b:Bool):QO X (Xb X.K b):=by
 cases b
 .exact cO
 exact bF
def Rn (K:bp)(b:Bool):Sp:=λvs H Q _=>∃(p d:Addr) (zs:z0t)(kvs:93),vs=[.ref p,.ref d]/\L_ K b H p 203/\zs.length<=1000/\H d=188 /\
 ∀D H',H D=none->aD H H'->H' D=some (.lst (cnt (uL (λz=>(a0 kvs 150).isSome) zs)))->Q (.ref D) H'
def CL (K:bp)(C:Addr)(b:Bool):Sp:=λvs H Q _=>∃(H0:Hp)(a e d bg p:Addr)(kE:93)(aL:z0h)(ps:z0f)(aW:List Be) (zs:z0t),vs=[.ref a,.ref p]/\oC K C H0 H a e d bg kE aL ps aW/\L_ K b H p 203/\zs.length<=10/\aW.length<=63 /\
 ∀(D:Addr)(kvs:93) (ks:z0t)(H':Hp),H D=none->aD H H'->H' D=188->kvs.map 87=ks.map Sum.inr->ks.Nodup->(∀w,w∈ks↔PU (ps.map 87) aW (M6 kE) zs w)->ks.length<=1000->Q (.ref D) H'
def qI:aK ["self","parts","words","place","word"] ["self","parts"] (ay xr):=163
def HG (b:Bool){C fW:Addr}{TC:FuncData}(F:iz K "first_words" "BeginTable.first_words" xr f fd)(T:Txt mg)(B:BC K C)(GP:aF P w K mg base 1 "first_places" ["parts","empty"] (Rn K b))(FW:bR P w K mg base fI 1 fW TC ["self","part"] (wZ K C))(MW:Meth K C "words_of_part" fW)(BW:Binds K TC ["self","part"] []) :
  bR P w K mg base fI 2 f fd ["self","parts"] (CL K C b):=by
 refine F.ok qI 184 186
 .obtain⟨H0,a,e,d,bg,p,kE,aL,ps,aW,zs,rfl,_⟩:=h;rfl
 obtain⟨H0,a,e,d,bg,p,kE,aL,ps,aW,zs,rfl,S,hp,hz,aaC,q⟩:=h;have hu:=gh hr;refine⟨_,ag (aA (i:=2) qI.nd rfl 90 fX)
  (ag (bJ bW rfl (aR (bC GP hr rfl (ab (pv 1) (ab (dA 91 rfl) ak)))) (aq (i:=3) qI.nd rfl 90)
   (ao (bJ bW rfl (aR (nY 91 B.cls MW FW hr BW .nil lW (ab (a_ (X_ b) (pv 1) (pv 3) 142) ak))) (aq (i:=4) qI.nd rfl 90)
    (ao (fK hu (pv 2) (pv 4) fY rfl)))))
  (ao (bw (pv 2)))),?_⟩
 refine λW hW=>?_;have k1:=af hW (.dK []);have e1:upd H W (.dK []) W=some (.dK []):=ae;generalize upd H W (.dK [])=H1 at k1 e1;have S1:=S.same k1;obtain⟨dx,fs,ea,f1,f2,f3,f4,f5⟩:=S1.ia;refine⟨_,rfl,_,rfl,a,C,dx,fs,_,rfl,ea,B.cls,B.a2,f1,p,e,zs,kE,rfl,(L_.same k1 hp),∅,S1.he,λD5 H5 f6 s5 e5=>⟨D5,rfl,⟨_,aI.of e5⟩,?_⟩⟩;have nW5:D5≠W:=λz=>by rw [z,e1] at f6;cases f6
 have fle:=BZ (M6 kE) zs;change H5 D5=some (.lst (cnt (uL (M6 kE) zs))) at e5;generalize hn:uL (M6 kE) zs=n at *;refine bQ (xs:=cnt n) (λi σ H6=>∃(kvs:93) (ks:z0t)(y3 y4:Option V),σ=[aE a,aE p,aE W,y3,y4]/\aD H H6/\H6 D5=some (.lst (cnt n))/\H6 W=188/\kvs.map 87=ks.map Sum.inr/\ks.Nodup/\ks.length<=64 * i/\∀w,w∈ks↔∃j z,zs[j]?=some z/\j < i/\w∈jd (ps.map 87) aW z)
  ⟨[],[],none,none,rfl,k1.trans s5,e5,s5 _ _ e1,rfl,gI,gr _,λw=>⟨λh=>(by cases h),λ⟨j,z,_,h,_⟩=>absurd h (mz _)⟩⟩ ?_ ?_ ?_
 .rintro i σ H6 _ ⟨kvs,ks,y3,y4,rfl,s6,e6,_⟩;exact aI.of e6
 .rintro i x σ H6 ex ⟨kvs,ks,y3,y4,rfl,s6,e6,eW,hk,nd,lk,pF⟩;have li:i < n:=by have:=(bu.mp ex).1;rw [qV] at this;exact this
  rw [Je li] at ex;cases ex;have lz:i < zs.length:=by omega
  obtain⟨z,ez⟩:∃z,zs[i]?=some z:=⟨zs[i],cZ lz⟩;have JW:pQ 203 (i:Int)=some (.str z):=cH (by rw [aX,ez];rfl);have S2:=S.same s6;obtain⟨Pt,qR,Pk,g1,g2,g3,g4,g5⟩:=S2.ia;refine goN ?_;refine⟨_,rfl,a,Pt,qR,rfl,Pk,g5.1,_,rfl,_,rfl,p,_,_,_,rfl,rfl,(L_.same s6 hp),JW,H0,a,e,d,bg,kE,aL,ps,aW,z,rfl,S2,λD6 H7 f7 s7 e7=>⟨D6,rfl,⟨_,aI.of e7⟩,?_⟩⟩;have nW6:D6≠W:=λz=>by rw [z,eW] at f7;cases f7
  have lws:=nq (ps.map 87) aW z;generalize Lh:jd (ps.map 87) aW z=ws at *;refine bQ (xs:=ws.map V.str) (λm σ H8=>∃(kvs:93) (Ah:z0t)(y4:Option V),σ=[aE a,aE p,aE W,some (155),y4]/\aD H H8/\H8 D5=some (.lst (cnt n))/\H8 D6=some (.lst (ws.map V.str))/\H8 W=188/\kvs.map 87=Ah.map Sum.inr/\Ah.Nodup/\Ah.length<=64 * i+m/\∀w,w∈Ah↔w∈ks\/w∈ws.take m)
   ⟨kvs,ks,_,rfl,s6.trans s7,s7 _ _ e6,e7,s7 _ _ eW,hk,nd,∅,λw=>⟨.inl,λh=>h.elim id λh=>(by simp at h)⟩⟩ ?_ ?_ ?_
  .rintro m σ H8 _ ⟨kvs,Ah,y4,rfl,s8,e8,e9,_⟩;exact aI.of e9
  .rintro m x σ H8 ex ⟨kvs,Ah,y4,rfl,s8,e8,e9,ZJ,Vr,Xy,Qf,Iy⟩;rw [aX] at ex;obtain⟨wd,VH,rfl⟩:=bT.mp ex;have lm:=(bu.mp VH).1;have ll:kvs.length=Ah.length:=by have:=congrArg List.length Vr;rw [ar,ar] at this;exact this
   refine goN ?_;refine⟨_,rfl,_,rfl,W,_,rfl,jZ.k (k:=Sum.inr wd) ZJ (br ∅),?_⟩;have la:=ow Ah wd;refine⟨_,gP Ah wd,_,rfl,λb o hb=>?_,by rw [aj nW5];exact e8,by rw [aj nW6];exact e9,ae,iX Vr wd,qW wd Xy,∅,λw=>?_⟩
   .rw [aj (λz=>by rw [z,hW] at hb;cases hb)];exact s8 b o hb
   rw [jJ,Iy,cK,VH,bP];constructor
   .rintro((h | h) | h)
    .exact .inl h
    .exact .inr (.inl h)
    exact .inr (.inr (bB.mpr h))
   rintro(h | h | h)
   .exact .inl (.inl h)
   .exact .inl (.inr h)
   exact .inr (bB.mp h)
  rintro σ H8 ⟨kvs,Ah,y4,rfl,s8,e8,e9,ZJ,Vr,Xy,Qf,Iy⟩;rw [ar] at Qf Iy;rw [b0] at Iy;refine⟨kvs,Ah,_,_,rfl,s8,e8,ZJ,Vr,Xy,∅,λw=>?_⟩;rw [Iy,pF];constructor
  .rintro(⟨j,z2,h1,h2,h3⟩ | h)
   .exact⟨j,z2,h1,∅,h3⟩
   exact⟨i,z,ez,lS _,Lh ▸ h⟩
  rintro⟨j,z2,h1,h2,h3⟩;by_cases c:j < i
  .exact .inl ⟨j,z2,h1,c,h3⟩
  have:j=i:=by omega
  subst this;rw [ez] at h1;cases h1;exact .inr (Lh ▸ h3)
 rintro σ H6 ⟨kvs,ks,y3,y4,rfl,s6,e6,eW,hk,nd,lk,pF⟩;rw [qV] at lk pF;refine⟨_,rfl,q W kvs ks H6 hW s6 eW hk nd (λw=>?_) ∅⟩;rw [pF];unfold PU;rw [hn]
def Gb (K:bp)(C:Addr)(b:Bool):Sp:=λvs H Q _=>∃(H0:Hp)(a e d bg p:Addr)(kE:93)(aL:z0h)(ps:z0f)(aW:List Be) (zs:z0t),vs=[.ref a,.ref p]/\oC K C H0 H a e d bg kE aL ps aW/\L_ K b H p 203/\zs.length<=10/\∀H',aD H H'->Q (.bl (zs.all (M6 kE))) H'
def Kk:aK ["self","parts"] ["self","parts"] (ay Gy):=163
def HQ {C:Addr}(F:iz K "all_empty" "BeginTable.all_empty" Gy f fd)(T:Txt mg)(B:BC K C):bR P w K mg base fI 1 f fd ["self","parts"] (Gb K C true):=by
 refine F.ok Kk 184 186
 .obtain⟨H0,a,e,d,bg,p,kE,aL,ps,aW,zs,rfl,_⟩:=h;rfl
 obtain⟨H0,a,e,d,bg,p,kE,aL,ps,aW,zs,rfl,S,hp,hz,q⟩:=h;have hu:=gh hr;refine⟨_,ao (bw (aP (dY rfl) rfl T.all boot_all (ab (aT ["part"] [(0,"self")] rfl (eV (pv 1)) 162 nofun rfl nofun
  (λ_ _ _ _ _=>aq (i:=0) (show (["part","self"]:z0t).Nodup by decide +kernel) rfl 90) 220 (λ_ _ _ _ _=>xD (kR hu 91 (Kw K (pv 1) rfl)))) ak))),?_⟩
 refine⟨_,rfl,p,rfl,⟨_,(show aZ K H p 203 from hp)⟩,λD9 yn=>gK (zs:=zs) [aE a] (M6 kE) rfl (show aZ K H p 203 from hp) ∅ yn (λz _ HA Qy sA hq=>?_) λH9 s9 e9=>?_⟩
 .have SA:=S.same sA;obtain⟨dx,fs,ea,f1,f2,f3,f4,f5⟩:=SA.ia;exact⟨_,rfl,_,rfl,a,C,dx,fs,_,rfl,ea,B.cls,B.a2,f1,e,_,rfl,cu.k (k:=140) SA.he,hq⟩
 refine⟨D9,_,rfl,aI.of e9,?_⟩;rw [all_map];exact q H9 s9
end
end hJ
namespace ST
open PySem PySem.Spec PyProof.Rows L2
theorem mJ {α β:Type}{R R':α->β->Prop}(f:∀a b,R a b->R' a b):∀{l:List α}{m:List β},Paired R l m->Paired R' l m
 | _,_,.nil=>.nil
 | _,_,.cons a b=>.cons (f _ _ a) (mJ f b)
structure Jq {α:Type}(lt:α->α->Bool):Prop where
 yb:∀{a b},lt a b=true->lt b a=false
 total:∀{a b},lt a b=false->lt b a=false->a=b
 Xp:∀{a b c},lt b a=false->lt c b=false->lt c a=false
def Jq.zr {α:Type}{lt:α->α->Bool}(h:Jq lt)(a:α):lt a a=false:=by
 cases e:lt a a with
 | false=>rfl
 | true=>rw [h.yb e] at e;cases e
def lex {α β:Type} [DecidableEq α] (l1:α->α->Bool)(l2:β->β->Bool)(a b:α×β):Bool:=if a.1=b.1 then l2 a.2 b.2 else l1 a.1 b.1
theorem Jq.lex {α β:Type} [DecidableEq α] {l1:α->α->Bool}{l2:β->β->Bool}(h1:Jq l1)(h2:Jq l2):Jq (lex l1 l2):=by
 refine⟨λ{a b} h=>?_,λ{a b} h k=>?_,λ{a b c} h k=>?_⟩
 .unfold ST.lex at *;by_cases e:a.1=b.1
  .rw [aw e] at h;rw [aw e.symm];exact h2.yb h
  rw [au e] at h;rw [au (λz=>e z.symm)];exact h1.yb h
 .unfold ST.lex at *;by_cases e:a.1=b.1
  .rw [aw e] at h;rw [aw e.symm] at k;exact gQ e (h2.total h k)
  rw [au e] at h;rw [au (λz=>e z.symm)] at k;exact absurd (h1.total h k) e
 unfold ST.lex at *;by_cases e1:c.1=a.1
 .rw [aw e1];by_cases e2:b.1=a.1
  .rw [aw e2] at h;rw [aw (e1.trans e2.symm)] at k;exact h2.Xp h k
  rw [au e2] at h;rw [au (λz=>e2 (z.symm.trans e1)),e1] at k;exact absurd (h1.total h k) e2
 rw [au e1];by_cases e2:b.1=a.1
 .rw [au (λz=>e1 (z.trans e2)),e2] at k;exact k
 rw [au e2] at h;by_cases e3:c.1=b.1
 .rw [e3];exact h
 rw [au e3] at k;exact h1.Xp h k
def C5:Jq Ft:=⟨Ie,Es,λ{a b c} h k=>by
 cases e:Ft c a with
 | false=>rfl
 | true=>rcases K3 (b:=b) e with z | z <;> simp_all⟩
def Vg (a b:Int):Bool:=decide (a < b)
def C8:Jq Vg:=by
 refine⟨λ{a b} h=>?_,λ{a b} h k=>?_,λ{a b c} h k=>?_⟩ <;> simp only [Vg,decide_eq_true_eq,decide_eq_false_iff_not] at * <;> omega
def JX {α:Type}(lt:α->α->Bool)(l:List α):Prop:=l.Pairwise λx y=>lt y x=false
theorem r9 {α:Type}{lt:α->α->Bool}(o:Jq lt):∀{l m:List α},JX lt l->JX lt m->l.Perm m->l=m
 | [],m,_,_,p=>by rw [List.nil_perm.mp p]
 | x::r,[],_,_,p=>absurd p.length_eq 144
 | x::r,y::t,h,k,p=>by
  have e:x=y:=by
   have h1:=wu.mp h;have k1:=wu.mp k;rcases b8.mp (p.mem_iff.mp (cS (a:=x) (l:=r))) with e | e
   .exact e
   rcases b8.mp (p.mem_iff.mpr (cS (a:=y) (l:=t))) with e2 | e2
   .exact e2.symm
   exact o.total (k1.1 x e) (h1.1 y e2)
  subst e;rw [r9 o (wu.mp h).2 (wu.mp k).2 (List.perm_cons x |>.mp p)]
section
variable {P:Program}{w:World}{A:Around}{E:z0b}{s:Shared}
structure z5 (P:Program)(w:World)(K:Type) where
 is:Heap->K->Addr->Prop
 lt:K->K->Bool
 ord:Jq lt
 room:Around->Prop
 keeps:∀{h h':Heap}{k:K}{a:Addr},is h k a->(∀b o xs n,o.cls=.type "tuple" -> o.data=.seq xs n->h.get? b=some o->h'.get? b=some o)->is h' k a
 ask:∀{A:Around}{s:Shared}{x y:Addr}{d e:K}{Q:Bool->182},room A->is s.heap d x->is s.heap e y->Q (lt d e) s->wpAny (model P w) A (keyLt' (tuples' true) (.ref x) (.ref y)) Q (λ_ _=>False) s
 ty:String
 U7:(Value.type ty != Value.type "tuple")=true
 first:∀{h:Heap}{k:K}{a:Addr},is h k a->∃o xs n f,h.get? a=some o/\o.cls=.type "tuple" /\ o.data=.seq xs n/\xs[0]?=some f/\PySem.W.Looks (model P w) h (typeOf f) (.type ty)
variable {K:Type}{sk:z5 P w K}
theorem vC {h:Heap}:∀{ts:z0q}{zs:List K},Paired (λt z=>sk.is h z t) ts zs->∃fs,PySem.W.KatTups h (ts.map Value.ref) fs/\fs.length=ts.length/\∀v∈fs,PySem.W.Looks (model P w) h (typeOf v) (.type sk.ty)
 | _,_,.nil=>⟨[],trivial,rfl,λv h=>by cases h⟩
 | _,_,.cons a b=>by
  obtain⟨fs,h1,h2,h3⟩:=vC b;obtain⟨o,xs,n,f,g1,g2,g3,g4,g5⟩:=sk.first a;refine⟨f::fs,⟨⟨_,o,xs,n,rfl,g1,g2,g3,g4⟩,h1⟩,by simp [h2],λv hv=>?_⟩;rcases b8.mp hv with e | e
  .rw [e];exact g5
  exact h3 v e
def DN {a L:Addr}{m:z0c}{n:Nat}{ts:z0q}{zs:List K}{P':PySem.Fin->182}(R:sk.room A)(uv:s.heap.Ns L m)(ho:s.heap.get? a=some (seqObj "list" (ts.map Value.ref).toArray n))(rel:Paired (λt z=>sk.is s.heap z t) ts zs)(VD:ts.length < 64)
  (q:∀(h2:Heap) (c:Nat)(rX:z0q)(uo:List K),(∀b u,b≠L->b≠a->s.heap.get? b=some u->h2.get? b=some u)->h2.Ns L m->h2.get? a=some (seqObj "list" (rX.map Value.ref).toArray c)->(∀t' z',(t',z')∈rX.zip uo->(t',z')∈ts.zip zs)->rX.length=uo.length->uo.Perm zs->JX sk.lt uo->P' (.done (.ret .none)) { s with heap:=h2 }) :
  wpAny (model P w) A (Builtin.«list.sort» ⟨[.ref a],[]⟩) P' E s:=by
 have lp:=a7 rel;have Y2:a≠L:=λz=>by
  obtain⟨o,es,ep,BN,uI,_⟩:=uv;rw [<-z,ho] at BN;cases BN;cases uI
 by_cases h2:ts.length < 2
 .refine AL ho (by simpa using h2) ?_;rw [DY];obtain⟨e,he⟩:=sortedHeap_at (out:=(ts.map Value.ref).toArray) ho;have keep:∀b u,b≠a->s.heap.get? b=some u->(sortedHeap s.heap a (ts.map Value.ref) (ts.map Value.ref).toArray).get? b=some u:=λb u nb hb=>by
   have lb:=bD hb;rw [sortedHeap_old nb lb];exact hb
  refine q _ e ts zs (λb u _ nb hb=>keep b u nb hb) ?_ he (λ_ _ h=>h) lp (.refl _) ?_
  .obtain⟨o,es,ep,h1,h2⟩:=uv;exact⟨o,es,ep,keep L o (d8 Y2) h1,h2⟩
  match zs,lp with
  | [],_=>exact .nil
  | [_],_=>exact List.pairwise_singleton _ _
  | _::_::_,z=>simp at z;omega
 refine PySem.W.kat_list_sort (h₀:=v8.pb s.heap) (L:=L) (m:=m) (news:=v8.ledger s.heap L a) (vs:=ts.map Value.ref) (v8.IP uv) (λp hp=>(v8.qa Y2 ho) p (cT _ hp)) ho Y2 (v8.jS _ _) (λp hp=>?_) (by rw [ar];omega) (by rw [ar];exact VD) λe1 h' F' N'=>?_
 .obtain⟨b,u⟩:=p;exact(v8.f_.mp hp).2.1
 have keep:∀b u,b≠L->b≠a->s.heap.get? b=some u->h'.get? b=some u:=λb u nb na hb=>(N' (b,u) (cT _ (v8.f_.mpr ⟨nb,na,hb⟩))).1;have X5:∀b o xs n,o.cls=.type "tuple" -> o.data=.seq xs n->185->h'.get? b=some o:=λb o xs n c d hb=>by
  refine keep b o ?_ ?_ hb
  .rintro rfl;obtain⟨o',es,ep,BN,uI,hc,_⟩:=uv;rw [hb] at BN;cases BN;rw [d] at uI;cases uI
  rintro rfl;rw [ho] at hb;cases hb;exact absurd (show Value.type "list"=Value.type "tuple" from c) nofun
 have Rz:Paired (λt z=>sk.is h' z t) ts zs:=mJ (λt z i=>sk.keeps i X5) rel;obtain⟨fs,k1,k2,k3⟩:=vC Rz;refine PySem.W.kat_kind (T:=.type sk.ty) k1 ∅ (λv hv=>k3 v hv) 144 ?_;rw [sk.U7,ar];have JW:∀i,i < ts.length->∃t z,ts[i]?=some t/\zs[i]?=some z/\sk.is h' z t:=λi hi=>by
  have e:zs[i]?=some (zs[i]'∅):=cZ ∅;obtain⟨t,e1,e2⟩:=Paired.at_ Rz i _ e;exact⟨t,_,e1,e,e2⟩
 have ne:ts≠[]:=λz=>by rw [z] at h2;simp at h2
 obtain⟨z0,Vh⟩:∃z0,zs[0]?=some z0:=by
  obtain⟨_,z,_,e,_⟩:=JW 0 ∅;exact⟨z,e⟩
 refine Kb (n:=ts.length) (lt:=λi j=>sk.lt (zs.getD i z0) (zs.getD j z0)) ⟨λa b c _ _ _ h1 h2=>sk.ord.Xp h1 h2,λa b _ _ h=>sk.ord.yb h⟩ (λi j C hi hj hC=>?_) ∅ λp PP S=>?_
 .obtain⟨ti,zi,g1,g2,g3⟩:=JW i hi;obtain⟨tj,zj,g4,g5,g6⟩:=JW j hj;show wpAny _ _ (keyLt' _ ((ts.map Value.ref).getD i Value.none) ((ts.map Value.ref).getD j Value.none)) C _ _;have e1:(ts.map Value.ref).getD i Value.none=.ref ti:=by rw [List.getD,aX,g1];rfl
  have e2:(ts.map Value.ref).getD j Value.none=.ref tj:=by rw [List.getD,aX,g4];rfl
  rw [e1,e2];dsimp only at hC;rw [show zs.getD i z0=zi by rw [List.getD,g2];rfl,show zs.getD j z0=zj by rw [List.getD,g5];rfl] at hC;exact sk.ask R g3 g6 hC
 have EC:=PP.size;have pin:∀i∈p.toList,i < ts.length:=λi hi=>by
  have:i∈(List.range ts.length).toArray:=PP.pm.mem_iff.mp (by simpa using hi);simpa using this
 refine⟨(a,seqObj "list" #[] e1)::v8.ledger s.heap L a,λo'=>(a,o')::v8.ledger s.heap L a,F',N',.head λq hq=>?_,λh2 c F2 N2=>?_⟩
 .obtain⟨b,u⟩:=q;exact(v8.f_.mp hq).2.1
 have Zv:(p.toList.map λi=>(ts.map Value.ref).getD i Value.none)=(p.toList.map λi=>ts.getD i 0).map Value.ref:=by
  rw [ff];exact rH λi hi=>IK ts i (pin i hi)
 rw [Zv] at N2;refine q h2 c (p.toList.map λi=>ts.getD i 0) (p.toList.map λi=>zs.getD i z0) (λb u nb na hb=>(N2 (b,u) (cT _ (v8.f_.mpr ⟨nb,na,hb⟩))).1) F2.ns (N2 (a,_) cS).1 (λt' z' hz=>?_) 144 ?_ ?_
 .rw [List.zip_map',bU] at hz;obtain⟨i,hi,e⟩:=hz;have Vs:=pin i hi;obtain⟨t,z,g1,g2,_⟩:=JW i Vs;cases e;rw [List.mem_iff_getElem?];refine⟨i,?_⟩;rw [List.getElem?_zip_eq_some];exact⟨by show ts[i]?=some (ts.getD i 0);rw [List.getD,g1];rfl,by show zs[i]?=some (zs.getD i z0);rw [List.getD,g2];rfl⟩
 .have e:zs=(List.range ts.length).map λi=>zs.getD i z0:=by
   refine List.ext_getElem (by simp [lp]) λi h1 h2=>?_;simp [List.getD,h1]
  have pp:p.toList.Perm (List.range ts.length):=by
   have:=PP.pm.toList;simpa using this
  exact(pp.map _).trans (by rw [<-e])
 unfold JX;rw [List.pairwise_map,List.pairwise_iff_getElem];intro i j hi hj zx;have:=S i j ∅ (by simpa [EC] using hj);have e1:at_ p i=p.toList[i]:=by simp [at_,Array.getD,show i < p.size by simpa using hi]
 have e2:at_ p j=p.toList[j]:=by simp [at_,Array.getD,show j < p.size by simpa using hj]
 rw [e1,e2] at this;exact this
end
section
variable {P:Program}{w:World}{A:Around}{E:z0b}{s:Shared}
def z5.wi {K:Type}(sk:z5 P w K)(G:K->Addr->Prop):z5 P w K where
 is:=λh k a=>sk.is h k a/\G k a
 lt:=sk.lt
 ord:=sk.ord
 room:=sk.room
 keeps:=λx k=>⟨sk.keeps x.1 k,x.2⟩
 ask:=λhu hx hy q=>sk.ask hu hx.1 hy.1 q
 ty:=sk.ty
 U7:=sk.U7
 first:=λx=>sk.first x.1
theorem rP {α β:Type}{R:α->β->Prop}:∀{l:List α}{m:List β},Paired R l m->∀p∈l.zip m,R p.1 p.2
 | _,_,.nil,p,hp=>by cases hp
 | _,_,.cons a b,p,hp=>by
  rw [List.zip_cons_cons] at hp;rcases b8.mp hp with e | e
  .rw [e];exact a
  exact rP b p e
theorem sR {α β:Type}{R:α->β->Prop}:∀{l:List α}{m:List β},l.length=m.length->(∀p∈l.zip m,R p.1 p.2)->Paired R l m
 | [],[],_,_=>.nil
 | [],_::_,e,_=>by cases e
 | _::_,[],e,_=>by cases e
 | x::l,y::m,e,h=>by
  rw [List.zip_cons_cons] at h;exact .cons (h (x,y) cS) (sR (by simpa using e) λp hp=>h p (cT _ hp))
end
def Ww {a b c:V}{aV:z0n}(h:bH [a,b,c] aV):∃u1 u2 u3,aV=[u1,u2,u3]/\RelV a u1/\RelV b u2/\RelV c u3:=by
 cases h with
 | cons r1 h =>
  cases h with
  | cons r2 h =>
   cases h with
   | cons r3 h=>cases h;exact⟨_,_,_,rfl,r1,r2,r3⟩
end ST
namespace L2
open PySem PySem.Spec PyProof.Rows
section
variable {prog:Program}{w:World}{A:Around}{E:z0b}{s:Shared}
end
section
variable {X:Cx}{ai:z0e}{σ:L2.St}{H:Hp}{s:Shared}{a b:Addr}{kvs:List (List aQ×V)}{k:List aQ}{A:Around}{E:z0b}
end
section
variable {X:Cx}{o e f:Expr}{apos g9:Pos}{td ty tx:TE}
end
section
variable {d D:Addr}{o:Obj}{kvs:List (List aQ×V)}{ts:z0t}{js:z0j}{g:TG}{tif:TT}{te:TE}{R:Hp->Prop}{σ:L2.St}{H:Hp}
end
section
variable {prog:Program}{w:World}{A:Around}{E:z0b}{s:Shared}
def BH {d:Addr}{o:Obj}{es:Array DictEntry}{ep:Nat}{Q:z0b}(hd:(d == sysModules)=false)(hT:s.TypeIs (.ref d) "dict")(ho:s.heap.get? d=some o)(Lr:o.data=.dict es ep)
  (hQ:Q (238) { s with heap:=s.heap.push { cls:=.type "dict_keyiterator",data:=.fields #[.ref d,.int 0 0,.int es.size 0,.int ep 0] } }) :
  wpAny 158 A (pyIter (.ref d)) Q E s:=by
 refine wpAny_pyIter_slot hT F.slot_dict_iter (ke F.slot_dict_iter hT F.entry_dict_iter ?_ (F.args_dict_iter_1 _));unfold Builtin.«dict.__iter__»;refine aB ?_;unfold Builtin.Dict.dictSlotNone;refine aB (wC hT ?_);show wpAny _ _ (pure (Value.ref d)) _ _ s;refine aH ?_;show wpAny _ _ (Builtin.Dict.showsAll d >>= _) _ _ s;unfold Builtin.Dict.showsAll;rw [au (by rw [hd];exact cX)];refine aB (aH ?_);refine aB (wpAny_dictEntries ho Lr ?_);refine aB (wpAny_dictEpoch ho Lr ?_);refine aB (j7 (aH ⟨_,rfl,"dict_keyiterator",_,⟨_,dB _ rfl,rfl⟩,yr.lookup,?_⟩));simpa [rawInt] using hQ
def Ep {it d:Addr}{i ep:Nat}{od:Obj}{es:Array DictEntry}{e:DictEntry}{Q:z0k->182}(hit:s.heap.IsKeyIter it d i es.size ep)
  (SQ:s.heap.get? d=some od)(OT:od.data=.dict es ep)(hx:es[i]?=some e)
  (hQ:∀h',h'.IsKeyIter it d (i+1) es.size ep->Heap.SameBut it s.heap h'->Q (some e.key) { s with heap:=h' }) :
  wpAny 158 A (pyNext (.ref it)) Q E s:=by
 obtain⟨o,ho,hc,hd⟩:=id hit;unfold pyNext;refine aB (oF (pV (name:=Str.ofString "__next__") hit.typeIs yr
  (ke yr hit.typeIs F.entry_dict_keyiterator_next ?_ (F.args_dict_keyiterator_next_1 _))))
 refine aB (aH ?_);refine aB ?_;refine aB ?_
 first | refine aB (wL hit.typeIs (aH ?_)) | refine aB (wI hit.typeIs (aH ?_))
 refine aB (wpAny_fieldsOf ho hd ?_);have OL:Builtin.Dict_items.ownsTuple "dict_keyiterator"=false:=by decide
 simp only [OL,wm,if_false];show wpAny _ _ (if (Value.ref d == Value.none)=true then _ else _) _ _ s;rw [au (show ¬((Value.ref d == Value.none)=true) from cX)];refine aB (aH ?_);refine aB (wpAny_dictEntries SQ OT ?_);rw [au 144];refine aB (aH ?_);refine aB (wpAny_dictEpoch SQ OT ?_);rw [au 144];refine aH ?_;have YE:i < es.size:=(AB.mp hx).1;have Vw:es[i]=e:=(AB.mp hx).2;simp only [show ¬((i:Int) < 0) from by omega,if_false,jn,AA YE];refine aB ?_
 first | refine aB (wL hit.typeIs (aH ?_)) | refine aB (wI hit.typeIs (aH ?_))
 refine aB (wpAny_isOneOf_keyiter hit.typeIs ?_);show wpAny _ _ (setField (.ref it) 1 (rawInt ((i:Int)+1)) >>= _) _ _ s;refine aB (wpAny_setField ho hd 144 ?_);have Ln:(s.heap.update it (Obj.mapFields (·.setIfInBounds 1 (rawInt ((i:Int)+1))))).IsKeyIter it d (i+1) es.size ep :=
  ⟨_,rL _ ho (Obj.isFreed_of_fields (wa hd _)),(Obj.cls_mapFields ..).trans hc,by rw [wa hd];simp [rawInt]⟩
 refine aB (j5 ?_);refine aB (wpAny_isOneOf_keyiter (s:={ s with heap:=s.heap.update it (Obj.mapFields (·.setIfInBounds 1 (rawInt ((i:Int)+1)))) }) Ln.typeIs ?_);show wpAny _ _ (pure es[i].key) _ _ _;exact aH (aH ⟨_,rfl,aH (by rw [Vw];exact hQ _ Ln (wg ..))⟩)
def IX {it d:Addr}{i ep:Nat}{od:Obj}{es:Array DictEntry}{Q:z0k->182}(hh:A.handled=none)(hit:s.heap.IsKeyIter it d i es.size ep)
  (SQ:s.heap.get? d=some od)(OT:od.data=.dict es ep)(hx:es.size<=i)
  (hQ:∀h',Heap.ExtBut it s.heap h'->Q none { s with heap:=h' }):wpAny 158 A (pyNext (.ref it)) Q E s:=by
 obtain⟨o,ho,hc,hd⟩:=id hit;unfold pyNext;refine aB (oF (pV (name:=Str.ofString "__next__") hit.typeIs yr
  (ke yr hit.typeIs F.entry_dict_keyiterator_next ?_ (F.args_dict_keyiterator_next_1 _))))
 refine aB (aH ?_);refine aB ?_;refine aB ?_
 first | refine aB (wL hit.typeIs (aH ?_)) | refine aB (wI hit.typeIs (aH ?_))
 refine aB (wpAny_fieldsOf ho hd ?_);have OL:Builtin.Dict_items.ownsTuple "dict_keyiterator"=false:=by decide
 simp only [OL,wm,if_false];show wpAny _ _ (if (Value.ref d == Value.none)=true then _ else _) _ _ s;rw [au (show ¬((Value.ref d == Value.none)=true) from cX)];refine aB (aH ?_);refine aB (wpAny_dictEntries SQ OT ?_);rw [au 144];refine aB (aH ?_);refine aB (wpAny_dictEpoch SQ OT ?_);rw [au 144];refine aH ?_;have Fx:es.size<=i:=hx;simp only [show ¬((i:Int) < 0) from by omega,if_false,jn,Ao Fx];refine aB ?_
 first | refine aB (wL hit.typeIs (aH ?_)) | refine aB (wI hit.typeIs (aH ?_))
 show wpAny _ _ (setField (.ref it) 0 .none >>= _) _ _ s;refine aB (wpAny_setField ho hd 144 ?_);show wpAny _ _ (newExc (.type "StopIteration") [] >>= _) _ _ _;refine aB ?_;simp only [newExc,newTuple];refine aB (j7 ?_ (by size_fits));refine aB (m:=firstArgMember _ _) (wpAny_of_eq (a:=Value.none) (by first | rfl | (simp only [firstArgMember];rfl)) ?_)
 refine j7 ?_ (by size_fits);simp only [raiseNew];refine aB (wpAny_handled ?_);rw [show A.in1.handled=none from hh];refine aB (aH (wpAny_throw ?_));refine aB (wpAny_isInstance (T := "StopIteration") (b:=true) ⟨_,dB _ rfl,rfl⟩ isSubtype_stop ?_);exact aH (hQ _ (((wg ..).extBut.push _).push _))
structure yg (h:Heap)(d:Addr)(es:Array DictEntry) (ep:Nat):Prop where
 ex:Exists λo=>h.get? d=some o/\o.ExactDict/\o.data=.dict es ep
def yg.at {h h':Heap}{d:Addr}{es:Array DictEntry}{ep:Nat}(x:yg h d es ep)(k:∀o,h.get? d=some o->h'.get? d=some o):yg h' d es ep:=let ⟨o,a,b⟩:=x.ex;⟨o,k o a,b⟩
def yg.lt {h:Heap}{d:Addr}{es:Array DictEntry}{ep:Nat}(x:yg h d es ep):d < h.objs.size:=let ⟨_,a,_⟩:=x.ex;bD a
def yg.typeIs {s:Shared}{d:Addr}{es:Array DictEntry}{ep:Nat}(x:yg s.heap d es ep):s.TypeIs (.ref d) "dict" := let ⟨o,a,b,_⟩:=x.ex;⟨o,a,b.1⟩
def yw (hh:A.handled=none)(I d:Addr)(jX:d≠I)(es:Array DictEntry) (ep:Nat):Walks prog w A I [I,d] [I] es.size (λi v=>∃e,es[i]?=some e/\v=e.key) (λi h=>h.IsKeyIter I d i es.size ep/\yg h d es ep) where
 sub:=λb hb=>by simp at hb;simp [hb]
 frame:=λ_ _ _ st hk=>⟨st.1.at λo e=>hk I 144 o e,st.2.at λo e=>hk d 144 o e⟩
 item:=λi s Q E hi st hQ=>by
  have hx:es[i]?=some es[i]:=AA hi;obtain⟨o,h1,_,h3⟩:=st.2.ex;refine Ep st.1 h1 h3 hx λh' Ln Lj=>?_;exact hQ _ h' s.toks ⟨_,hx,rfl⟩ ⟨Ln,st.2.at λo e=>Lj.extBut d o jX e⟩ λb o hb e=>Lj.extBut b o (λh=>hb (by simp [h])) e
 done:=λs Q E st hQ=>by
  obtain⟨o,h1,_,h3⟩:=st.2.ex;exact IX hh st.1 h1 h3 (aG _) λh' Df=>hQ h' s.toks λb o hb e=>Df b o (λh=>hb (by simp [h])) e
 self:=λ_ _ _ _ st hQ=>wpAny_pyIter_keyiter st.1 hQ
def K_ {d:Addr}{es:Array DictEntry}{ep:Nat}(lo:(d == sysModules)=false):PySem.W.KdlSrc prog w "dict" d d es.size (λi v=>∃e,es[i]?=some e/\v=e.key) (λh=>yg h d es ep) where
 type:=λ_ hm=>hm.typeIs
 there:=λ_ hm=>⟨hm.lt,hm.lt⟩
 keep:=λ_ _ hm hk=>hm.at λo e=>hk d (.inl rfl) o e
 notList:=by decide
 notTuple:=by decide
 hint:=λ_ _ _ _ hm hq=>PySem.W.kdl_hint_dict hm.typeIs hq
 iter:=λ_ s hh hm=>⟨_,_,(λ_ _ hq=>by obtain⟨o,h1,_,h3⟩:=hm.ex;exact BH lo hm.typeIs h1 h3 hq),yw hh _ d (bV hm.lt) es ep,⟨⟨_,dB _ rfl,rfl,rfl⟩,hm.at λo e=>cg _ e⟩⟩
end
end L2
namespace ST
open PySem PySem.Spec PyProof.Rows L2
abbrev P3:=Int×Int×Str
def C1 (k:P3):List V:=[.int k.1,.int k.2.1,.str k.2.2]
def Qb (k:P3):List aQ:=[.inl k.1,.inl k.2.1,.inr k.2.2]
def KC {a b:P3}(h:Qb a=Qb b):a=b:=by
 simp only [Qb,List.cons.injEq,Sum.inl.injEq,Sum.inr.injEq] at h;exact gQ h.1 (gQ h.2.1 h.2.2.1)
def V9 (h:Heap)(k:P3)(a:Addr):Prop:=∃o t u v n,h.get? a=some o/\o.cls=.type "tuple" /\ o.data=.seq #[.int k.1 t,.int k.2.1 u,.str k.2.2 v] n
def JC:P3->P3->Bool:=ST.lex Vg (ST.lex Vg Ft)
def C4:Jq JC:=C8.lex (C8.lex C5)
section
variable {P:Program}{w:World}{A:Around}{E:z0b}{s:Shared}
def Uk {x y:Addr}{d e:P3}{Q:Bool->182}(hx:V9 s.heap d x)(hy:V9 s.heap e y)(q:Q (JC d e) s):wpAny (model P w) A (keyLt' (tuples' true) (.ref x) (.ref y)) Q (λ_ _=>False) s:=by
 obtain⟨o,t,u,v,n,h1,h2,h3⟩:=hx;obtain⟨o',t',u',v',n',EL,h2',h3'⟩:=hy;refine PySem.W.kat_lt h1 h3 EL h3' ?_;show PySem.W.KatLex P w A true _ Q [(.int d.1 t,.int e.1 t'),(.int d.2.1 u,.int e.2.1 u'),(.str d.2.2 v,.str e.2.2 v')] 0 s;refine PySem.W.kat_cons (wb _ t _ t' P w _ _ ?_);unfold JC ST.lex at q;by_cases c:d.1=e.1
 .rw [aw c] at q;rw [show (d.1 == e.1)=true by simp [c]];refine PySem.W.kat_yes (PySem.W.kat_cons (wb _ u _ u' P w _ _ ?_));by_cases c2:d.2.1=e.2.1
  .rw [aw c2] at q;rw [show (d.2.1 == e.2.1)=true by simp [c2]];refine PySem.W.kat_yes (PySem.W.kat_cons (SeqAt.EqAt.str_str _ v _ v' P w _ _ ?_));by_cases c3:d.2.2=e.2.2
   .rw [show (d.2.2 == e.2.2)=true by simp [c3]];refine PySem.W.kat_yes (PySem.W.kat_nil ?_);have:Ft d.2.2 e.2.2=false:=by rw [c3];exact C5.zr _
    rw [this] at q;exact q
   rw [show (d.2.2 == e.2.2)=false by simp [c3]];exact PySem.W.kat_no (PySem.W.kat_one _ _ (lt_str q))
  rw [au c2] at q;rw [show (d.2.1 == e.2.1)=false by simp [c2]];exact PySem.W.kat_no (PySem.W.kat_one _ _ (PyProof.Rows.lt_int q))
 rw [au c] at q;rw [show (d.1 == e.1)=false by simp [c]];exact PySem.W.kat_no (oneLt_int q)
def C0 (P:Program)(w:World):z5 P w P3 where
 is:=V9
 lt:=JC
 ord:=C4
 room:=λA=>True
 keeps:=λx k=>by
  obtain⟨o,t,u,v,n,h1,h2,h3⟩:=x;exact⟨o,t,u,v,n,k _ _ _ _ h2 h3 h1,h2,h3⟩
 ask:=λhu hx hy q=>Uk hx hy q
 ty := "int"
 U7:=by decide
 first:=λ{h k a} x=>by
  obtain⟨o,t,u,v,n,h1,h2,h3⟩:=x;exact⟨o,_,n,_,h1,h2,h3,rfl,λA Q E s _ q=>aH q⟩
end
section
variable {X:Cx}{ai:z0e}{σ:L2.St}{H:Hp}{s:Shared}
def RL (I:141){t:Addr}{k:P3}(h:aZ X.K H t (C1 k)):V9 s.heap k t:=by
 obtain⟨aV,rv,⟨o,g1,g2,n,g3⟩,hz⟩:=I.tuple h;obtain⟨u1,u2,u3,e,r1,r2,r3⟩:=Ww rv;obtain⟨t,rfl⟩:=r1;obtain⟨u,rfl⟩:=r2;obtain⟨v,rfl⟩:=r3;subst e;exact⟨o,t,u,v,n,g1,g2,g3⟩
theorem vq (I:141){G:P3->Addr->Prop}(hG:G=λd t=>H t=some (.tup (C1 d))):∀{kvs:List (List aQ×V)}{xs:List (List aQ×Addr×Value)}{zs:List P3},KT H kvs xs->kvs.map 87=zs.map Qb->Paired (λt z=>((C0 X.prog X.w).wi G).is s.heap z t) (xs.map (·.2.1)) zs
 | _,_,[],.nil,_=>.nil
 | _,_,z::zs,.cons a r,e=>by
  rw [cI,cI] at e;obtain⟨e1,e2⟩:=List.cons.inj e;have h2:=a.2.1;rw [e1] at h2;exact .cons ⟨RL I (aZ.of h2),by rw [hG];exact h2⟩ (vq I hG r e2)
 | _,_,[],.cons a r,e=>by cases e
 | _,_,_::_,.nil,e=>by cases e
end
def qk {X:Cx}(hc:X.calm=true):i0 X (.builtin "sorted") (λxs H Q=>∃a kvs zs,xs=[.ref a]/\H a=some (.dT kvs)/\kvs.map 87=zs.map Qb/\zs.length < 64/\∀l rX uo,H l=none->Paired (λt z=>H t=some (.tup (C1 z))) rX uo->uo.Perm zs->JX JC uo->Q (.ref l) (upd H l (.lst (rX.map V.ref)))):=by
 intro ai s σ H xs us Q I r h;obtain⟨a,kvs,zs,rfl,h1,hk,VD,q⟩:=h;obtain⟨u,rfl,rx⟩:=vals1 r;cases (show u=Value.ref a from rx);obtain⟨sl,sm,xs,kt,o,es,ep,g1,g2,g3,g4,_,_⟩:=Na I.cw h1;have lk:xs.length=zs.length:=by have:=congrArg List.length hk;rw [ar,ar] at this;rw [<-a7 kt,this]
 have sz:es.size=xs.length:=by rw [<-q_,g4,ar]
 obtain⟨m,uv,_⟩:=id I.loc
 let G:P3->Addr->Prop:=λd t=>H t=some (.tup (C1 d))
 refine Calls.call_function_entry kind_sorted plain_sorted entry_sorted (args_sorted1 _) ?_;unfold Builtin.«sorted»;refine aB (m:=checkCount "sorted" 1 1 _) (aH ?_);refine aB (PySem.W.kdu_collect (K_ (es:=es) (ep:=ep) sm) (I.ok.hd hc) ⟨o,g1,g2,g3⟩ (by rw [sz];exact fits ∅) λEL tk bY kp mT=>?_);have ea:bY.toList=(xs.map (·.2.1)).map Value.ref:=by
  refine List.ext_getElem? λj=>?_;by_cases c:j < es.size
  .have e1:bY[j]?=some (bY[j]'(by rw [mT.1];exact c)):=AA _;obtain⟨e,e2,e3⟩:=mT.2 j _ e1;rw [rN,e1,e3,aX,aX];rw [<-rN,g4,aX] at e2;obtain⟨y,ey,e4⟩:=bT.mp e2;rw [ey,<-e4];rfl
  rw [kj (by rw [q_,mT.1];omega),kj (by rw [ar,ar];omega)]
 rw [ea];have Kn:Paired (λt z=>((C0 X.prog X.w).wi G).is s.heap z t) (xs.map (·.2.1)) zs:=vq I rfl kt hk;refine aB (wpAny_newList ?_ (by rw [ml];simp;omega));generalize xs.map (·.2.1)=ts at Kn;have lt:ts.length=xs.length:=by rw [a7 Kn,lk]
 have Vm:(EL.push (seqObj "list" (ts.map Value.ref).toArray 0)).get? EL.objs.size=some (seqObj "list" (ts.map Value.ref).toArray 0):=dB _ rfl;have keep:∀b o,185->(EL.push (seqObj "list" (ts.map Value.ref).toArray 0)).get? b=some o:=λb o q=>cg _ (kp _ _ q);have YB:(EL.push (seqObj "list" (ts.map Value.ref).toArray 0)).Ns X.env.locals m:=by
  obtain⟨o,es,ep,g1,g2⟩:=uv;exact⟨o,es,ep,keep _ _ g1,g2⟩
 have hD:s.heap.get? EL.objs.size=none:=by
  cases e:s.heap.get? EL.objs.size with
  | none=>rfl
  | some ob=>exact absurd (bD (kp _ _ e)) (lR _)
 have fD:H EL.objs.size=none:=by
  cases e:H EL.objs.size with
  | none=>rfl
  | some u =>
   obtain⟨ob,g⟩:=yT (I.cw _ u e);rw [hD] at g;cases g
 refine aB (j5 (ke slot_list_sort ⟨_,Vm,rfl⟩ entry_list_sort (DN (sk:=(C0 X.prog X.w).wi G) (s:={ s with heap:=EL.push (seqObj "list" (ts.map Value.ref).toArray 0),toks:=tk }) (True.intro) YB Vm (mJ (λt z i=>((C0 X.prog X.w).wi G).keeps i λb o xs n _ _ g=>keep b o g) Kn) ∅ λh2 c rX uo k2 ns2 g2 sub len pm Rl=>⟨_,rfl,?_⟩) (args_list_sort _)));have l3:=pm.length_eq;refine aH ⟨_,rfl,.ref EL.objs.size,_,I.MI (a:=EL.objs.size) (o:=.lst (rX.map V.ref)) (t':=tk) (λb u nb hb=>k2 b u nb (bV (bD (kp b u hb))) (keep b u hb)) (λm' hm=>?_) hD fD (show cQ X.prog X.w _ _ _ (.lst (rX.map V.ref)) from ⟨?_,rX.map Value.ref,c,uX _,g2⟩),rfl,q _ rX uo fD (sR len λp hp=>(rP Kn p (sub p.1 p.2 hp)).2) pm Rl⟩
 .have e:m'=m:=by
   obtain⟨o,es,ep,ho,uI,_,hf⟩:=hm;obtain⟨o2,es2,TR,ED,IC,_,OS⟩:=uv;rw [ho] at ED;cases ED;rw [uI] at IC;cases IC
   funext x
   rw [<-hf x,<-OS x]
  rw [e];exact ns2
 rw [ar];exact fits ∅
end ST
namespace L2
open PySem PySem.Spec PyProof.Rows
section
variable {prog:Program}{w:World}{A:Around}{E:z0b}{s:Shared}
def EI {Q:Int->182}(h:Q 4238894112 { s with toks:=s.toks+1 }):wpAny 158 A (pyHash .none) Q E s:=by
 have hT:s.TypeIs .none "NoneType" := rfl;unfold pyHash;have hv:[Value.none].any Value.onHeap=false:=rfl;refine aB ?_;rw [cRoomFor,au (by rw [hv];exact cX)];refine aH ?_;refine aB (wpAny_specialOf hT wq.lookup ?_);show wpAny _ _ (if (some (Value.builtin "NoneType.__hash__") == some Value.none)=true then _ else _) Q E s;rw [au (by rw [beq_builtin_none];exact cX)];refine aB (wpAny_specialOf hT wq.lookup ?_);show wpAny _ _ (callSpecialIfBoundUnlessNone? .none "__hash__" _ >>= _) Q E s;refine aB (wpAny_callSpecialIfBoundUnlessNone?_slot hT wq
  (ke wq hT F.entry_NoneType_hash
   (show wpAny _ _ (do ret (<-mkInt 4238894112)) _ _ s from wpAny_ret_mkInt ?_) (F.args_NoneType_hash_1 _)))
 show wpAny _ _ (if (decide (-(2:Int) ^ 63<=4238894112) && decide ((4238894112:Int) < 2 ^ 63))=true then _ else _) Q E _;rw [aw nofun];exact aH h
def Hf:Option aQ->Value->Bool
 | none,.none=>true
 | none,_=>false
 | some k,v=>l_ k v
def fZ {v:Value}(h:Hf none v=true):v=.none:=by cases v <;> first | rfl | (exact nomatch h)
def Ja (a b:aQ):decide ((some a:Option aQ)=some b)=decide (a=b):=by
 by_cases e:a=b
 .rw [cv e,cv (by rw [e])]
 rw [dU e,dU λz=>e (gJ z)]
def optKind (prog:Program)(w:World):PySem.KeyKind prog w (Option aQ) where
 is:=Hf
 hash:=λk=>match k with | none=>4238894112 | some k=>Sl w k
 inj:=λv a b ha hb=>by
  cases a with
  | none =>
   have:=fZ ha;subst this;cases b with
   | none=>rfl
   | some k=>cases k <;> exact nomatch hb
  | some k =>
   cases b with
   | none =>
    have:=fZ hb;subst this;cases k <;> exact nomatch ha
   | some k2=>exact congrArg some ((aY prog w).inj v k k2 ha hb)
 byValue:=λk v h=>by
  cases k with
  | none=>have:=fZ h;subst this;rfl
  | some k=>exact(aY prog w).byValue k v h
 pyHash:=λ{A E s k v Q} hv h=>by
  cases k with
  | none=>have:=fZ hv;subst this;exact EI h
  | some k=>exact(aY prog w).pyHash (k:=k) hv h
 eqBool:=λ{A E s a b u v Q} hu hv h=>by
  cases a with
  | none =>
   have:=fZ hu;subst this;cases b with
   | none =>
    have:=fZ hv;subst this;exact SeqAt.EqAt.same .none _ _ _ _ h
   | some k =>
    rcases cV (show l_ k v=true from hv) with ⟨i,t,rfl,rfl⟩ | ⟨x,t,rfl,rfl⟩
    .exact SeqAt.EqAt.none_int i t _ _ _ _ h
    exact SeqAt.EqAt.none_str x t _ _ _ _ h
  | some k =>
   cases b with
   | none =>
    have:=fZ hv;subst this;rcases cV (show l_ k u=true from hu) with ⟨i,t,rfl,rfl⟩ | ⟨x,t,rfl,rfl⟩
    .exact SeqAt.EqAt.int_none i t _ _ _ _ h
    exact SeqAt.EqAt.str_none x t _ _ _ _ h
   | some k2=>rw [Ja] at h;exact(aY prog w).eqBool (a:=k) (b:=k2) hu hv h
 «strs»:=λk x t v h=>by
  cases k with
  | none=>exact nomatch h
  | some k=>exact(aY prog w).strs k x t v h
def K2 {h:Heap}{d:Addr}{vs:List (aQ×Value)}(hd:h.DictOf (aY prog w) d vs):h.MapOf (optKind prog w) d (λk=>match k with | none=>none | some k=>valueAt vs k):=by
 obtain⟨o,es,ep,ho,hc,Lr,hk,hf⟩:=hd.mapOf;refine⟨o,es,ep,ho,hc,Lr,λe he=>?_,λk=>?_⟩
 .obtain⟨k,h1,h2⟩:=hk e he;exact⟨some k,h1,h2⟩
 cases k with
 | some k=>exact hf k
 | none =>
  unfold findBy;rw [Option.map_eq_none_iff,Array.find?_eq_none];intro e he z;have e1:=fZ (show Hf none e.key=true from z);obtain⟨k,h1,_⟩:=hk e he;rw [e1] at h1;cases k <;> exact nomatch h1
end
def DIn (H:Hp)(a:Addr)(y:V)(b:Bool):Prop:=(∃o,cu H a y o/\b=o.isSome)\/(y=.fu/\b=false/\∃kvs,Rd H a (.dK kvs))
inductive Uq (H:Hp)(Q:Bool->Prop):V->V->Prop where
 | mk (a:Addr)(y:V)(b:Bool)(h:DIn H a y b)(q:Q b):Uq H Q y (.ref a)
def Od {X:Cx}(hu:X.A.units+1 < cLine):ng X (compareOp .In) (λx y H Q=>Uq H (λb=>Q (.bl b) H) x y):=by
 intro ai s σ H x y v u Q I rx ry h;obtain⟨a,_,b,h,q⟩:=h;cases ry;rcases h with ⟨o,g,rfl⟩ | ⟨rfl,rfl,kvs,e⟩
 .exact Ua hu I g rx λs3 I3=>⟨.bl o.isSome,H,I3,rfl,q⟩
 cases rx;obtain⟨z,hd,vs,rel,dd⟩:=mi I.cw e;exact wpAny_in_of (knd:=optKind X.prog X.w) (k:=none) rfl hd (K2 dd) ⟨.bl false,H,I.tok _,rfl,q⟩
open PySem PySem.Spec PyProof.Rows PySem.W
section
variable {prog:Program}{w:World}{A:Around}{E:z0b}{s:Shared}{T:String}{r d:Addr}{n:Nat}{P:Nat->Value->Prop}{OK:z0o}
def yu {I:Addr}{fp wr:z0q}{St:Nat->Heap->Prop}(W:Walks prog w A I fp wr n P St)(pre:z0l) :
  Walks prog w A I fp wr (pre.size+n) (λj v=>if j < pre.size then pre[j]?=some v else P (j - pre.size) v) (λj h=>pre.size<=j/\St (j - pre.size) h) where
 sub:=W.sub
 frame:=λi h h' st k=>⟨st.1,W.frame _ h h' st.2 k⟩
 item:=λi s Q E hi st hQ=>W.item (i - pre.size) s Q E (by have:=st.1;omega) st.2 λv h' tk p u_ k=>hQ v h' tk (by rw [au (by have:=st.1;omega)];exact p) ⟨by have:=st.1;omega,by have:=st.1;rw [show i+1 - pre.size=i - pre.size+1 by omega];exact u_⟩ k
 done:=λs Q E st hQ=>W.done s Q E (by have:=st.2;rwa [Nat.add_sub_cancel_left] at this) hQ
 self:=λi s Q E st q=>W.self (i - pre.size) s Q E st.2 q
def B2 {R:Result->182}(K:KdlSrc prog w T r d n P OK)(hh:A.handled=none)(cw:OK s.heap)(S:Addr)(hSr:S≠r)(hSd:S≠d)(res:Value)(pre:z0l) (c₀:Nat)(hS:s.heap.get? S=some { cls:=.type "list",data:=.seq pre c₀ })
  (hR:∀h' tk LX c',(∀b o,b≠S->185->h'.get? b=some o)->h'.get? S=some { cls:=.type "list",dict:=none,data:=.seq LX c',slots:=#[] }->ItemsOf (λj v=>if j < pre.size then pre[j]?=some v else P (j - pre.size) v) LX (pre.size+n)->R (.ok (.ret res)) { s with heap:=h',toks:=tk })(hn:pre.size+n < sizeLine) :
  wpAny 158 A.in1 (Builtin.List.listExtendWith (.ref S) (.ref r) res)
   (λfin s'=>match fin with | .done f=>R (.ok f) s' | .again c'=>c'.quiet=true/\codeAny 158 A c' R s') (λe s'=>R (.error e) s') s:=by
 have hSI:S≠s.heap.objs.size:=bV (bD hS);have hSf:S∉[s.heap.objs.size,d]:=by simp only [b8,List.not_mem_nil,or_false,not_or];exact⟨hSI,hSd⟩
 obtain⟨oI,St,hit,W,st⟩:=K.iter A.in1 s hh cw;have key:∀(h:Heap) (c₁ tk:Nat),St 0 h->(∀b o,b≠S->185->h.get? b=some o) ->
   h.get? S=some { cls:=.type "list",data:=.seq pre c₁ }->codeAny 158 A (.builtin "list.extend.loop" ⟨[.ref S,238,res],[]⟩) R { s with heap:=h,toks:=tk }:=by
  intro h c₁ tk yl hk Tq;refine codeAny_extend_loopS (yu W pre).toS (lN hn) S hSf res n pre.size _ pre c₁ ∅ ∅ ⟨aG _,by rw [oG];exact yl⟩ Tq ⟨rfl,λj v e=>by dsimp only;rw [aw (AB.mp e).1];exact e⟩ λs' LX c' hm hS' mT=>?_;rw [Moved.eq_with hm];refine hR s'.heap s'.toks LX c' (λb o hb e=>hm.heap b o (λkZ=>?_) (hk b o hb e)) hS' mT;rcases b8.mp kZ with e' | kZ
  .exact hb e'
  exact absurd (bD e) (by rw [bB.mp kZ];exact lR _)
 unfold Builtin.List.listExtendWith;refine aB (jb (T:=T) (K.type s cw) ?_);have h1:Builtin.List.listSameRef (.ref S) (.ref r)=false:=by simp [Builtin.List.listSameRef,hSr]
 simp only [h1,K.notList,K.notTuple,Bool.or_false,wm,if_false];refine aB (hit _ _ ?_);have Tq:=cg oI hS;refine aB (j5 (K.hint _ _ _ _ (K.keep _ _ cw λb _ o e=>cg _ e) ?_));refine wpAny_ite_split (λ_=>?_) (λ_=>aH ⟨kx PySem.F.plain_extend_loop _,key _ c₀ _ st (λb o _ e=>cg _ e) Tq⟩);refine aB (kq ?_);refine aB ?_;show wpAny _ _ (updateSeq S (·.push .none) >>= λ_=>updateSeq S (·.pop)) _ _ _;refine aB (wpAny_updateSeq Tq rfl ?_ ∅ (by rw [Array.size_push];omega));have hS₂:=rL (Obj.mapSeq (·.push Value.none)) Tq rfl;refine wpAny_updateSeq hS₂ rfl ?_ (by rw [Array.size_push];omega) (by rw [Array.size_pop,Array.size_push];omega);have hS₃:=rL (Obj.mapSeq (·.pop)) hS₂ rfl;obtain⟨c1,hc1⟩:∃c1,Obj.mapSeq (·.pop) (Obj.mapSeq (·.push Value.none) ({ cls:=.type "list",data:=.seq pre c₀ }:Obj))={ cls:=.type "list",data:=.seq pre c1 }:=by
  have e:(pre.push Value.none).pop=pre:=Array.pop_push;refine⟨?_,?_⟩
  rotate_left
  simp only [Obj.mapSeq,e];rfl
 refine aH ⟨kx PySem.F.plain_extend_loop _,key _ c1 _ ?_ (λb o hb e=>?_) (by rw [hS₃,hc1])⟩
 .refine W.frame 0 _ _ st λb hb o e=>?_;have hbS:b≠S:=λh=>hSf (h ▸ hb);exact(uU _ _ (d8 hbS)).trans ((uU _ _ (d8 hbS)).trans e)
 exact(uU _ _ (d8 hb)).trans ((uU _ _ (d8 hb)).trans (cg _ e))
end
inductive Us (H:Hp)(Q:VK):V->List V->Prop where
 | mk (l d:Addr)(xs:List V)(kvs:93)(h1:H l=some (.lst xs))(h2:H d=188)(h3:xs.length+kvs.length < sizeLine)(q:Q .fu (upd H l (.lst (xs++kvs.map λp=>kV p.1)))):Us H Q (.ref l) [.ref d]
def Bs {X:Cx}(hc:X.calm=true):V8 X "list.extend" (λx vs H Q=>Us H Q x vs):=by
 intro ai s σ H x vs v us Q I rx rv h;obtain⟨l,d,xs,kvs,hH,hD,hz,q⟩:=h;cases rx;obtain⟨u,rfl,ru⟩:=rv.one;cases ru;obtain⟨z,aV,n,r,hl,e⟩:=I.Bw hH;obtain⟨z2,hs,vs,rel,dd⟩:=vK I.cw hD;obtain⟨o,es,ep,d1,d2,d3,d4⟩:=dd;have l1:=rel.length;have lr:=r.length;have jX:l≠d:=λz=>by rw [z,hD] at hH;cases hH
 refine kn (wy yp.plain PySem.F.entry_list_extend (yp.check _ _ _ _ _ _ _ _ ⟨_,e,rfl⟩ (PySem.F.args_list_extend_2 _ _) ?_));show wpAny _ _ (Builtin.List.listExtendWith (.ref l) (.ref d) .none) _ _ _;refine B2 (R:=λr s'=>match r with | .ok (.ret v)=>EP X ai σ Q v s' | .ok _=>False | .error e=>X.xe e s') (kdl_dict (knd:=aY X.prog X.w) (kvs:=vs) (ep:=ep) hs) (I.ok.hd hc) ⟨o,es,d1,d2,d3,d4⟩ l jX jX .none aV.toArray n e (λh' tk bY c kk hA mT=>?_) (by rw [cJ];omega)
 have keys:=rel.keys;have vals:bH (xs++kvs.map λp=>kV p.1) bY.toList:=by
  refine o9 (by have h1:=mT.1;simp only [a8,ar,q_];rw [h1,cJ];omega) λj x y e1 e2=>?_;rw [rN] at e2;have hp:=mT.2 j y e2;rw [cJ] at hp;by_cases c:j < aV.length
  .rw [aw c] at hp;rw [nj ∅] at e1;obtain⟨u,e3,r3⟩:=bH.get r e1;rw [List.getElem?_toArray,e3] at hp;cases hp;exact r3
  rw [au c] at hp;obtain⟨k,v,e3,e4⟩:=hp;rw [lU ∅,aX,lr] at e1;obtain⟨p,e5,rfl⟩:=bT.mp e1;have e6:(kvs.map 87)[j - aV.length]?=some p.1:=by rw [aX,e5];rfl
  rw [keys,aX,e3] at e6;cases e6;exact Io e4
 have hz3:(xs++kvs.map λp=>kV p.1).length<=sizeLine:=by rw [a8,ar];omega
 have new:cQ X.prog X.w (upd H l (.lst (xs++kvs.map λp=>kV p.1))) h' l (.lst (xs++kvs.map λp=>kV p.1)):=⟨hz3,bY.toList,c,vals,by simpa using hA⟩;exact⟨.fu,_,I.write (x:=l) (e:=l) (by rw [hH];exact True.intro) (.inl rfl) (λb q hb z=>kk b q hb z) ⟨_,hA⟩ new,rfl,q⟩
end L2
namespace hJ
open PySem L2 M11 ST
abbrev sr:Stmt:=top 8
abbrev xn:Stmt:=top 7
abbrev xu:Stmt:=top 9
abbrev xw:Stmt:=top 10
def dM (aa:88) (n:Nat):z0t:=match aa[n]? with | some ru=>ru.2 | none=>match aa[0]? with | some ru=>[ru.1] | none=>[]
def Mc (K:bp)(C Cg:Addr)(H:Hp)(g:Addr)(aa:88)(aL:z0h)(aW:List Be):Prop:=∃(Hg:Hp)(rs ss:z0q)(bt:Addr),GrV Hg H Cg g rs ss bt/\bM K H rs aa/\FI K C H bt aa aL aW
theorem Mc.same {K:bp}{C Cg:Addr}{H H':Hp}{g:Addr}{aa:88}{aL:z0h}{aW:List Be}(h:Mc K C Cg H g aa aL aW)(s:aD H H'):Mc K C Cg H' g aa aL aW:=by
 obtain⟨Hg,rs,ss,bt,⟨gx,fs,R2,S2,e1,e2,e3,e4,e5,e6,e7,e8,Z0⟩,rl,b⟩:=h;exact⟨Hg,rs,ss,bt,⟨gx,fs,R2,S2,s _ _ e1,e2,e3,e4,e5,s _ _ e6,s _ _ e7,e8,Z0⟩,rl.same s,b.same s⟩
section
def oW (K:bp)(C Cg:Addr):Sp:=λvs H Q _=>∃(g:Addr) (n:Nat)(aa:88)(aL:z0h)(aW:List Be),vs=[.ref g,.int (n:Int)]/\Mc K C Cg H g aa aL aW/\aa≠[]/\∀(p:Addr)(H':Hp),aD H H'->aZ K H' p ((dM aa n).map V.str)->Q (.ref p) H'
def DP:aK ["grammar","number"] ["grammar","number"] (ay sr):=163
def Bl {C Cg fS:Addr}{fdS:FuncData}(F:iz K "parts_of" "parts_of" sr f fd)(T:Txt mg)(G:GC K Cg)(MS:Meth K Cg "start" fS)(FS:bR P w K mg base fI 1 fS fdS ["self"] (CD K Cg))(BS:Binds K fdS ["self"] []):bR P w K mg base fI 2 f fd ["grammar","number"] (oW K C Cg):=by
 refine F.ok DP 184 186
 .obtain⟨g,n,aa,aL,aW,rfl,_⟩:=h;rfl
 obtain⟨g,n,aa,aL,aW,rfl,⟨Hg,rs,ss,bt,gv,cM,YX⟩,jX,q⟩:=h;refine⟨_,ao (bw (kQ (bc lX (pv 1) (aP aU rfl T.len d_ (ab (dA 91 rfl) ak)) (cA _))
  (a_ bF (a_ cO (dA 91 rfl) (pv 1) 142) av 142)
  (bX (ab (G9 91 G.cls MS FS hr BS .nil lW) ak)))),?_⟩
 dsimp only [uM];have gv0:=gv;obtain⟨gx,fs,R2,S2,eg,l1,l2,l3,l4,e1,e2,_⟩:=gv;have ll:=a7 cM;refine⟨_,rfl,_,rfl,g,Cg,gx,fs,_,rfl,eg,G.cls,G.a1,l1,R2,_,rfl,.inl (aI.of e1),_,_,rfl,rfl,_,rfl,?_⟩;rw [ar,ll];by_cases c:n < aa.length
 .rw [cv ∅];refine BI ?_;obtain⟨r,er,p,v1,v2⟩:=Paired.at_ cM n _ (cZ c);have ue:pQ 153 ((n:Nat):Int)=some (.ref r):=cH (by rw [aX,er];rfl);refine⟨_,rfl,g,Cg,gx,fs,_,rfl,eg,G.cls,G.a1,l1,_,rfl,R2,_,_,_,rfl,rfl,aI.of e1,ue,r,_,_,_,rfl,rfl,v1,rfl,q p H (aD.refl H) ?_⟩;unfold dM;rw [cZ c];exact v2
 rw [dU ∅];refine iY ?_;have l0:0 < aa.length:=List.length_pos_iff.mpr jX;refine⟨_,rfl,g,gx,fs,rfl,eg,l4,Hg,g,bt,rs,ss,aa,_,rfl,gv0,cM,cZ l0,?_⟩;refine⟨Fl,λp hp=>?_⟩;refine q p _ (af hp _) ?_;unfold dM;rw [kj ∅,cZ l0];exact aZ.of ae
end
abbrev Pl:=Nat×Nat×Str
def pZ (z:Pl):P3:=((z.1:Int),(z.2.1:Int),z.2.2)
def Oa {a b:Pl}(h:pZ a=pZ b):a=b:=by
 simp only [pZ,oM] at h;exact gQ ∅ (gQ ∅ h.2.2)
def i4 (H:Hp)(t:Addr)(z:Pl):Prop:=H t=some (.tup (C1 (pZ z)))
def paV:Option Str->V
 | some z=>.str z
 | none=>.fu
def zZ (B:Addr)(H H':Hp):Prop:=∀y o,y≠B->H y=some o->H' y=some o
def vN (zs:z0t) (j:Nat):g_ 203 (some ((j:Int)+1)) none=(zs.drop (j+1)).map V.str:=by
 have:=vM zs j;rw [jc] at this;exact this
def none_of {H H':Hp}{L:Addr}(s:aD H H')(h:H' L=none):H L=none:=by
 cases e:H L with
 | none=>rfl
 | some o=>rw [s _ _ e] at h;cases h
def u4 {B:Addr}{H H':Hp}{kb:List (List aQ×V)}(sx:zZ B H H')(hB:H B=some (.dT kb)){y:Addr}{o:HO}(hy:H y=some o)(ho:∀k,o≠.dT k):H' y=some o :=
 sx y o (λz=>by rw [z,hB] at hy;cases hy;exact ho _ rfl) hy
def FY {K:bp}{B:Addr}{H H':Hp}{kb:List (List aQ×V)}(sx:zZ B H H')(hB:H B=some (.dT kb)){y:Addr}{xs:List V}(hy:aZ K H y xs):aZ K H' y xs :=
 hy.elim (λh=>.inl (h.elim (λh=>.inl (u4 sx hB h λ_ z=>HO.noConfusion z)) λ⟨o,h⟩=>.inr ⟨o,u4 sx hB h λ_ z=>HO.noConfusion z⟩)) .inr
def Ex {kvs:93}{ks:z0t}(h:kvs.map 87=ks.map Sum.inr):(kvs.map λp=>kV p.1)=ks.map V.str:=by
 have:(kvs.map λp=>kV p.1)=(kvs.map 87).map kV:=by rw [ff];rfl
 rw [this,h,ff];rfl
def e_ (n d:Nat):List aQ:=[.inl (n:Int),.inl (d:Int)]
section
def xB {aa:88}(h8:∀ru∈aa,ru.2.length<=8) (n:Nat):(dM aa n).length<=8:=by
 unfold dM
 split
 .rename_i ru e
  exact h8 ru (cE e)
 split
 .show 1<=8;omega
 show 0<=8;omega
def sj (K:bp)(C Cg:Addr):Sp:=λvs H Q _=>∃(g t:Addr)(z:Pl)(aa:88)(aL:z0h)(aW:List Be),vs=[.ref g,.ref t]/\Mc K C Cg H g aa aL aW/\aa≠[]/\aZ K H t (C1 (pZ z))/\∀(H':Hp),aD H H'->Q (paV ((dM aa z.1)[z.2.1]?)) H'
def yJ:aK ["grammar","place","parts"] ["grammar","place"] (ay xn):=163
def Ec {C Cg:Addr}(F:iz K "part_at" "part_at" xn f fd)(T:Txt mg)(GP:aF P w K mg base 2 "parts_of" ["grammar","number"] (oW K C Cg)):bR P w K mg base fI 3 f fd ["grammar","place"] (sj K C Cg):=by
 refine F.ok yJ 184 186
 .obtain⟨g,t,z,aa,aL,aW,rfl,_⟩:=h;rfl
 obtain⟨g,t,z,aa,aL,aW,rfl,gv,jX,ht,q⟩:=h;refine⟨_,ag (aA (i:=2) yJ.nd rfl 90 (bC GP hr rfl (ab 91 (ab (a_ bF (pv 1) av 142) ak))))
  (ao (bw (kQ (bc lX (a_ bF (pv 1) av 142) (aP aU rfl T.len d_ (ab (pv 2) ak)) (cA _))
   (a_ bF (pv 2) (a_ bF (pv 1) av 142) 142) G8))),?_⟩
 nofun
 refine⟨_,rfl,_,rfl,t,_,_,_,rfl,rfl,ht,rfl,g,z.1,aa,aL,aW,rfl,gv,jX,λp H1 s1 e1=>?_⟩;refine⟨_,rfl,t,_,_,_,rfl,rfl,s1.tup ht,rfl,_,rfl,p,_,rfl,.inr e1,_,_,rfl,rfl,_,rfl,?_⟩;rw [ar];by_cases c:z.2.1 < (dM aa z.1).length
 .rw [cv (show (pZ z).2.1 < ((dM aa z.1).length:Int) from Int.ofNat_lt.mpr c)];refine BI ?_;refine⟨_,rfl,_,rfl,t,_,_,_,rfl,rfl,s1.tup ht,rfl,p,_,_,_,rfl,rfl,e1,cH (by rw [aX,cZ c];rfl),?_⟩;have:=q H1 s1;rw [cZ c] at this;exact this
 rw [dU (show ¬(pZ z).2.1 < ((dM aa z.1).length:Int) from λy=>c (Int.ofNat_lt.mp y))];refine iY ?_;have:=q H1 s1;rw [kj ∅] at this;exact this
def yG (K:bp)(C Cg:Addr):Sp:=λvs H Q _=>∃(g t B:Addr)(z:Pl)(aa:88)(aL:z0h)(aW:List Be)(kb:List (List aQ×V)),vs=[.ref g,.ref t,.ref B]/\Mc K C Cg H g aa aL aW/\aa≠[]/\329/\aW.length<=63/\aZ K H t (C1 (pZ z))/\H B=some (.dT kb)/\kb.length<=100000 /\
 ∀(L:Addr) (nu:z0t)(H':Hp),H L=none->zZ B H H'->H' L=some (.lst (nu.map V.str))->H' B=some (.dT (if (a0 kb (e_ z.1 z.2.1)).isSome=true then kb else kb++[(e_ z.1 z.2.1,.bl true)]))->nu.length<=1001->(∀w,w∈nu↔(w=z.2.2/\((dM aa z.1).drop (z.2.1+1)).all (λy=>decide (y∈aL.map 87))=true)\/((a0 kb (e_ z.1 z.2.1)).isSome=false/\PU (hd aa) aW (λy=>decide (y∈aL.map 87)) ((dM aa z.1).drop (z.2.1+1)) w))->Q (.ref L) H'
def nN:aK ["grammar","place","begun","table","behind","texts"] ["grammar","place","begun"] (ay xw):=163
def Eg {C Cg fF fA:Addr}{TF fdA:FuncData}(F:iz K "texts_behind" "texts_behind" xw f fd)(T:Txt mg)(G:GC K Cg)(B:BC K C)(GP:aF P w K mg base 2 "parts_of" ["grammar","number"] (oW K C Cg))
  (FF:bR P w K mg base fI 2 fF TF ["self","parts"] (CL K C true))(MF:Meth K C "first_words" fF)(BF:Binds K TF ["self","parts"] [])
  (FA:bR P w K mg base fI 2 fA fdA ["self","parts"] (Gb K C true))(MA:Meth K C "all_empty" fA)(BA:Binds K fdA ["self","parts"] []):bR P w K mg base fI 3 f fd ["grammar","place","begun"] (yG K C Cg):=by
 refine F.ok nN 184 186
 .obtain⟨g,t,B,z,aa,aL,aW,kb,rfl,_⟩:=h;rfl
 obtain⟨g,t,Bd,z,aa,aL,aW,kb,rfl,gv,jX,h8,Tv,ht,hB,OO,q⟩:=h;have hu:=gh hr;refine⟨_,ag (aA (i:=3) nN.nd rfl 90 (dA 91 rfl))
  (ag (aA (i:=4) nN.nd rfl 90 (dX i7 (bC GP hr rfl (ab 91 (ab (a_ bF (pv 1) av 142) ak))) (eU (aN df (a_ bF (pv 1) av 142) av)) gY))
  (ag (ik (aA (i:=5) nN.nd rfl 90 (kQ (gW (nY (pv 3) B.cls MA FA hr BA .nil lW (ab (pv 4) ak))) (bK (ab (a_ bF (pv 1) av 142) ak)) (bK ak))))
  (ag (ik (cy (fC (dD hu (dX AM (pv 1) gY (eU av)) (pv 2)))
   (ag (fK hu (pv 2) (dX AM (pv 1) gY (eU av)) fY rfl)
   (ao (cU (gZ gA yp Az (Bs rfl) (pv 5) (ab (nY (pv 3) B.cls MF FF hr BF .nil lW (ab (pv 4) ak)) ak))))) bf))
  (ao (bw (pv 5)))))),?_⟩
 nofun
 have Zh:=gv;obtain⟨Hg,rs,ss,bt,⟨gx,fs,R2,S2,eg,l1,l2,l3,l4,e1,e2,_⟩,cM,YX⟩:=gv;obtain⟨e,d,bg,kE,ps,S,mps,vE⟩:=YX.bs;refine⟨_,rfl,g,Cg,gx,fs,_,rfl,eg,G.cls,G.a3,l3,?_⟩;refine⟨_,rfl,_,rfl,t,_,_,_,rfl,rfl,ht,rfl,g,z.1,aa,aL,aW,rfl,Zh,jX,λp H1 s1 e1=>?_⟩;refine⟨_,rfl,t,_,_,_,rfl,rfl,s1.tup ht,rfl,_,_,rfl,rfl,_,rfl,p,_,rfl,e1,λp2 H2 s2 e2=>?_⟩;have YY:((dM aa z.1).drop (z.2.1+1)).length<=10:=by
  rw [mC];have:(dM aa z.1).length<=8:=xB h8 z.1;omega
 have zG:aZ K H2 p2 (((dM aa z.1).drop (z.2.1+1)).map V.str):=by
  rw [<-vN];exact e2
 have eqE:∀y,M6 kE y=decide (y∈aL.map 87):=vE;have eqF:M6 kE=λy=>decide (y∈aL.map 87):=funext eqE;generalize hbh:(dM aa z.1).drop (z.2.1+1)=bh at YY zG q;clear e2;have A6:=s1.trans s2;have S2:=S.same A6;obtain⟨dx,JN,ea,_,_,_,_,f5⟩:=S2.ia;refine⟨λσ H4=>∃(L:Addr) (Nr:z0t),σ=[aE g,aE t,aE Bd,aE bt,aE p2,aE L]/\H L=none/\aD H2 H4/\H4 L=some (.lst (Nr.map V.str))/\Nr.length<=1/\(∀w,w∈Nr↔w=z.2.2/\bh.all (λy=>decide (y∈aL.map 87))=true),?_,?_⟩
 .refine⟨_,rfl,bt,dx,JN,rfl,ea,f5.2.2.1,_,rfl,(λ_=>none),bt,e,d,bg,p2,kE,aL,ps,aW,bh,rfl,S2,zG,YY,λH3 s3=>?_⟩;rw [eqF];refine⟨_,rfl,?_⟩;have Fq:=A6.trans s3;refine 246
  .refine⟨_,rfl,t,_,_,_,rfl,rfl,Fq.tup ht,rfl,Fl,λL hL=>?_⟩;exact⟨L,[z.2.2],rfl,none_of Fq hL,s3.trans (af hL _),ae,aG 1,λw=>by rw [bB];exact⟨λy=>⟨y,c⟩,λy=>y.1⟩⟩
  refine⟨uq,λL hL=>?_⟩;exact⟨L,[],rfl,none_of Fq hL,s3.trans (af hL _),ae,gr _,λw=>⟨λy=>(nomatch y),λy=>absurd y.2 c⟩⟩
 rintro σ H4 ⟨L,Nr,rfl,hL,s4,eL,l1x,Qh⟩;have qJ:=A6.trans s4;have hB4:=qJ _ _ hB;have nLB:L≠Bd:=λy=>by rw [y,hB] at hL;cases hL
 have RS:¬(HT.fR (C1 (pZ z)).length 0 none=0/\HT.fR (C1 (pZ z)).length (C1 (pZ z)).length (some 2)=(C1 (pZ z)).length):=λy=>absurd y.2 (by show ¬(2:Nat)=3;decide);have Ub:g_ (C1 (pZ z)) none (some 2)=(e_ z.1 z.2.1).map kV:=rfl;refine⟨λσ H5=>∃(nu:z0t),σ=[aE g,aE t,aE Bd,aE bt,aE p2,aE L]/\zZ Bd H H5/\H5 L=some (.lst (nu.map V.str))/\H5 Bd=some (.dT (if (a0 kb (e_ z.1 z.2.1)).isSome=true then kb else kb++[(e_ z.1 z.2.1,.bl true)]))/\nu.length<=1001/\(∀w,w∈nu↔(w=z.2.2/\bh.all (λy=>decide (y∈aL.map 87))=true)\/((a0 kb (e_ z.1 z.2.1)).isSome=false/\PU (hd aa) aW (λy=>decide (y∈aL.map 87)) bh w)),?_,?_⟩
 .refine⟨_,rfl,_,rfl,t,_,rfl,qJ.tup ht,RS,λb hb=>?_⟩;rw [Ub];have k5:=af hb (.tup ((e_ z.1 z.2.1).map kV));have eb:upd H4 b (.tup ((e_ z.1 z.2.1).map kV)) b=some (.tup ((e_ z.1 z.2.1).map kV)):=ae;generalize upd H4 b (.tup ((e_ z.1 z.2.1).map kV))=H5 at k5 eb;have W5:=qJ.trans k5;have Ze:=k5 _ _ hB4;refine⟨_,rfl,Bd,_,rfl,cu.t Ze eb,_,rfl,?_⟩;refine 246
  .have cn:(a0 kb (e_ z.1 z.2.1)).isSome=false:=by
    cases y:(a0 kb (e_ z.1 z.2.1)).isSome with
    | false=>rfl
    | true=>rw [y] at c;cases c
   have vn:a0 kb (e_ z.1 z.2.1)=none:=by
    cases y:a0 kb (e_ z.1 z.2.1) with
    | none=>rfl
    | some _=>rw [y] at cn;cases cn
   refine⟨_,rfl,_,rfl,_,rfl,t,_,rfl,W5.tup ht,RS,λb2 IG=>?_⟩;rw [Ub];have k6:=af IG (.tup ((e_ z.1 z.2.1).map kV));have eb2:upd H5 b2 (.tup ((e_ z.1 z.2.1).map kV)) b2=some (.tup ((e_ z.1 z.2.1).map kV)):=ae;generalize upd H5 b2 (.tup ((e_ z.1 z.2.1).map kV))=H6 at k6 eb2;have s16:=W5.trans k6;have Qv:=k6 _ _ Ze;refine⟨Bd,_,rfl,jZ.t Qv eb2 (br ∅),?_⟩;rw [kP _ vn];have Mi:zZ Bd H6 (upd H6 Bd (.dT (kb++[(e_ z.1 z.2.1,V.bl true)]))):=λy o ny hy=>by rw [aj ny];exact hy
   have Pq:upd H6 Bd (.dT (kb++[(e_ z.1 z.2.1,V.bl true)])) Bd=some (.dT (kb++[(e_ z.1 z.2.1,V.bl true)])):=ae;generalize upd H6 Bd (.dT (kb++[(e_ z.1 z.2.1,V.bl true)]))=H7 at Mi Pq;have T6:H7 L=some (.lst (Nr.map V.str)):=Mi _ _ nLB (k6 _ _ (k5 _ _ eL));have S7:oC K C (λ_=>none) H7 bt e d bg kE aL ps aW:=Cd (S.same s16) (λ_ _ z=>u4 Mi Qv z λ_ y=>by cases y) (λ_ _ z=>u4 Mi Qv z λ_ y=>by cases y) (λ_ _ z=>FY Mi Qv z) λ_ _ z=>u4 Mi Qv z λ_ y=>by cases y
   obtain⟨dx,JN,ea,_,_,_,_,f5⟩:=S7.ia;refine⟨_,rfl,.inl ⟨rfl,_,aI.of T6⟩,_,rfl,bt,dx,JN,rfl,ea,f5.2.1,_,rfl,(λ_=>none),bt,e,d,bg,p2,kE,aL,ps,aW,bh,rfl,S7,FY Mi Qv (k6.tup (k5.tup (s4.tup zG))),YY,Tv,λD kvs ks H8 fD s8 eD kk nd pF aap=>?_⟩;have lk:kvs.length=ks.length:=by have:=congrArg List.length kk;rw [ar,ar] at this;exact this
   have eL8:=s8 _ _ T6;refine⟨L,D,_,_,eL8,eD,219,?_⟩;refine⟨Nr++ks,rfl,λy o ny hy=>?_,by rw [ae,Ex kk,ba],?_,by rw [a8];omega,λw=>?_⟩
   .rw [aj (λy2=>by rw [y2,hL] at hy;cases hy)];exact s8 _ _ (Mi _ _ ny (s16 _ _ hy))
   .rw [aj (d8 nLB),cn];exact s8 _ _ Pq
   rw [bP,Qh,pF,eqF,mps,cn];exact⟨λy=>y.elim Or.inl λy=>.inr ⟨rfl,y⟩,λy=>y.elim Or.inl λy=>.inr y.2⟩
  have cn:(a0 kb (e_ z.1 z.2.1)).isSome=true:=by
   cases y:(a0 kb (e_ z.1 z.2.1)).isSome with
   | true=>rfl
   | false=>rw [y] at c;exact absurd rfl c
  refine⟨Nr,rfl,λy o ny hy=>W5 y o hy,k5 _ _ eL,by rw [aw cn];exact Ze,∅,λw=>?_⟩;rw [Qh,cn];exact⟨Or.inl,λy=>y.elim id λy=>by cases y.1⟩
 rintro σ H5 ⟨nu,rfl,sx,B9,eB5,l5,Vf⟩;exact⟨_,rfl,q L nu H5 hL sx B9 eB5 l5 Vf⟩
end
inductive qX (R:Pl->Pl->Prop)(ps:List Pl):Pl->Prop
 | base {z:Pl}:z∈ps->qX R ps z
 | step {z y:Pl}:qX R ps z->R z y->qX R ps y
def qX.mono {R S:Pl->Pl->Prop}{ps qs:List Pl}(h:∀a b,R a b->S a b)(g:∀z∈ps,qX S qs z){z:Pl}(c:qX R ps z):qX S qs z:=by
 induction c with
 | base h=>exact g _ h
 | step _ r ih=>exact .step ih (h _ _ r)
structure An (R1 R2:Pl->Pl->Prop)(ps fs ws:List Pl)(bs:z0g):Prop where
 nd:fs.Nodup
 snd:∀z,z∈fs\/z∈ws->qX (λa b=>R1 a b\/R2 a b) ps z
 all:∀z∈ps,z∈fs\/z∈ws
 r:∀z∈fs,∀y,R1 z y\/R2 z y->y∈fs\/y∈ws
 bg:∀z:Pl,(z.1,z.2.1)∈bs->∀y,R2 z y->y∈fs\/y∈ws
def An.init (R1 R2:Pl->Pl->Prop)(ps:List Pl):An R1 R2 ps [] ps [] :=
 ⟨gI,λz h=>h.elim (λh=>(nomatch h)) .base,λz h=>.inr h,λz h=>(nomatch h),λz h=>(nomatch h)⟩
def An.old {R1 R2:Pl->Pl->Prop}{ps fs ws:List Pl}{bs:z0g}{z:Pl}(h:An R1 R2 ps fs (ws++[z]) bs)(hz:z∈fs):An R1 R2 ps fs ws bs:=by
 have k:∀y,y∈fs\/y∈ws++[z]->y∈fs\/y∈ws:=λy hy=>hy.elim .inl λhy=>(bP.mp hy).elim .inr λhy=>.inl (bB.mp hy ▸ hz);exact⟨h.nd,λy hy=>h.snd y (hy.imp id λhy=>fg _ hy),λy hy=>k y (h.all y hy),λy hy x hx=>k x (h.r y hy x hx),λy hy x hx=>k x (h.bg y hy x hx)⟩
theorem An.new {R1 R2:Pl->Pl->Prop}{ps fs ws new:List Pl}{bs QJ:z0g}{z:Pl}(h:An R1 R2 ps fs (ws++[z]) bs)(hz:z∉fs)(hn:∀y∈new,R1 z y\/R2 z y)(h1:∀y,R1 z y->y∈new)(h2:∀y,R2 z y->(z.1,z.2.1)∈bs\/y∈new)
  (hb:∀q∈QJ,q∈bs\/(q=(z.1,z.2.1)/\(z.1,z.2.1)∉bs))(dep:∀a b y:Pl,(a.1,a.2.1)=(b.1,b.2.1)->R2 a y->R2 b y):An R1 R2 ps (fs++[z]) (ws++new) QJ:=by
 have k:∀y,y∈fs\/y∈ws++[z]->y∈fs++[z]\/y∈ws++new:=λy hy=>hy.elim (λhy=>.inl (fg _ hy)) λhy=>(bP.mp hy).elim (λhy=>.inr (fg _ hy)) λhy=>.inl (dJ _ hy);have cz:=h.snd z (.inr (dJ _ (bB.mpr rfl)));have r2:∀y,R2 z y->y∈fs++[z]\/y∈ws++new:=λy r=>(h2 y r).elim (λq=>k y (h.bg z q y r)) λq=>.inr (dJ _ q);refine⟨iN.mpr ⟨h.nd,hU.mpr ⟨92,gI⟩,λa ha b hb e=>hz (by rw [<-bB.mp hb,<-e];exact ha)⟩,λy hy=>?_,λy hy=>k y (h.all y hy),λy hy x hx=>?_,λy hy x hx=>?_⟩
 .rcases hy with hy | hy
  .rcases bP.mp hy with hy | hy
   .exact h.snd y (.inl hy)
   rw [bB.mp hy];exact cz
  rcases bP.mp hy with hy | hy
  .exact h.snd y (.inr (fg _ hy))
  exact .step cz (hn y hy)
 .rcases bP.mp hy with hy | hy
  .exact k x (h.r y hy x hx)
  rw [bB.mp hy] at hx;exact hx.elim (λr=>.inr (dJ _ (h1 x r))) (r2 x)
 rcases hb _ hy with q | ⟨q,_⟩
 .exact k x (h.bg y q x hx)
 exact r2 x (dep y z x q hx)
def An.done {R1 R2:Pl->Pl->Prop}{ps fs:List Pl}{bs:z0g}(h:An R1 R2 ps fs [] bs)(z:Pl):z∈fs↔qX (λa b=>R1 a b\/R2 a b) ps z:=by
 refine⟨λhz=>h.snd z (.inl hz),λc=>?_⟩;have k:∀y,y∈fs\/y∈([]:List Pl)->y∈fs:=λy hy=>hy.elim id λhy=>nomatch hy
 induction c with
 | base hz=>exact k _ (h.all _ hz)
 | step _ r ih=>exact k _ (h.r _ ih _ r)
def Ld (aa:88)(z:Pl) (i:Nat):Prop:=∃nm ru,(dM aa z.1)[z.2.1]?=some nm/\aa[i]?=some ru/\ru.1=nm
def J0 (aa:88)(z:Pl):z0t:=(dM aa z.1).drop (z.2.1+1)
def LZ (aa:88)(nl:Str->Bool)(z y:Pl):Prop:=Ld aa z y.1/\y.2.1=0/\y.2.2=z.2.2/\(J0 aa z).all nl=true
def uR (aa:88)(nl:Str->Bool)(aW:List Be)(z y:Pl):Prop:=Ld aa z y.1/\y.2.1=0/\PU (hd aa) aW nl (J0 aa z) y.2.2
def uR.dep {aa:88}{nl:Str->Bool}{aW:List Be}(a b y:Pl)(e:(a.1,a.2.1)=(b.1,b.2.1))(h:uR aa nl aW a y):uR aa nl aW b y:=by
 obtain⟨e1,e2⟩:=Prod.mk.inj e;unfold uR Ld J0 at h ⊢;rw [e1,e2] at h;exact h
def tM {R:Pl->Pl->Prop}{ps:List Pl}{n:Nat}{ts:z0t}(hR:∀a b,R a b->b.1 < n/\b.2.1=0/\(b.2.2=a.2.2\/b.2.2∈ts))(l:List Pl)(nd:l.Nodup)(h:∀z∈l,qX R ps z):l.length<=ps.length+n * (ps.length+ts.length):=by
 have key:∀z,qX R ps z->(z.2.2∈ps.map (·.2.2)++ts)/\(z∈ps\/(z.1 < n/\z.2.1=0)):=λz c=>by
  induction c with
  | base h=>exact⟨fg _ (bU.mpr ⟨_,h,rfl⟩),.inl h⟩
  | step _ r ih =>
   obtain⟨a,b,c⟩:=hR _ _ r;refine⟨?_,.inr ⟨a,b⟩⟩;rcases c with c | c
   .rw [c];exact ih.1
   exact dJ _ c
 have:=M21.mK l (ps++(List.range n).flatMap λi=>(ps.map (·.2.2)++ts).map λw=>(i,0,w)) nd λz hz=>by
  obtain⟨k1,k2⟩:=key z (h z hz);rcases k2 with k2 | ⟨k2,k3⟩
  .exact fg _ k2
  exact dJ _ (jm.mpr ⟨z.1,j6.mpr k2,bU.mpr ⟨z.2.2,k1,by rw [<-k3]⟩⟩)
 rw [a8] at this;have fl:∀l:List Nat,(l.flatMap λi=>(ps.map (·.2.2)++ts).map λw=>((i,0,w):Pl)).length=l.length * (ps.length+ts.length):=λl=>by
  induction l with
  | nil=>simp
  | cons a r ih=>rw [pT,a8,ih,ar,a8,ar,dI,Nat.succ_mul,Nat.add_comm]
 rw [fl,qY] at this;exact this
section
def pY {α β:Type}{F:α->β->Prop}{us:List α}{ts:List β}(p:Paired F us ts)(h:us≠[]):∃jq u rX t,us=jq++[u]/\ts=rX++[t]/\Paired F jq rX/\F u t:=by
 have p2:=Paired.NY p;have hr:us.reverse≠[]:=λz=>h (List.reverse_eq_nil_iff.mp z);generalize e1:us.reverse=h_ at p2 hr;generalize e2:ts.reverse=kK at p2;cases p2 with
 | nil=>exact absurd rfl hr
 | @cons u t wR yz a b =>
  refine⟨wR.reverse,u,yz.reverse,t,?_,?_,Paired.NY b,a⟩
  .rw [<-List.reverse_reverse us,e1,wk]
  rw [<-List.reverse_reverse ts,e2,wk]
def yP {us:List V}{u:V}:(us++[u])[(us++[u]).length - 1]?=some u:=by
 rw [a8];simp
def kC {κ:Type} [DecidableEq κ] (kvs:List (κ×V))(k:κ){ks:List κ}(hk:kvs.map 87=ks):(k∈ks->(a0 kvs k).isSome=true)/\(k∉ks->a0 kvs k=none):=by
 subst hk;have h:(a0 kvs k).isSome=true↔k∈kvs.map 87:=by
  rw [<-iO,List.any_eq_true,bU];refine⟨λbI=>?_,λ⟨x,h,e⟩=>⟨x,h,cv e⟩⟩;obtain⟨x,h,e⟩:=bI;exact⟨x,h,cR e⟩
 refine⟨h.mpr,λn=>?_⟩;cases y:a0 kvs k with
 | none=>rfl
 | some _=>exact absurd (h.mp (by rw [y];rfl)) n
def Jh {a b c d:Nat}(h:e_ a b=e_ c d):(a,b)=(c,d):=by
 simp only [e_,List.cons.injEq,Sum.inl.injEq,and_true] at h;exact gQ ∅ ∅
def ka (z:Pl):List aQ:=Qb (pZ z)
def Lb {a b:Pl}(h:ka a=ka b):a=b:=Oa (KC h)
def qP {fs:List Pl}{z:Pl}:ka z∈fs.map ka↔z∈fs:=⟨λh=>by obtain⟨y,hy,e⟩:=bU.mp h;rw [<-Lb e];exact hy,λh=>iB h⟩
def zV {bs:z0g}{a b:Nat}:e_ a b∈bs.map (λq=>e_ q.1 q.2)↔(a,b)∈bs:=⟨λh=>by obtain⟨y,hy,e⟩:=bU.mp h;rw [<-Jh e];exact hy,λh=>bU.mpr ⟨_,h,rfl⟩⟩
def ft {H H':Hp}{D:Addr}{o:HO}(s:aD H H')(h:H D=none):aD H (upd H' D o):=λb x hb=>by
 rw [aj (λz=>by rw [z,h] at hb;cases hb)];exact s b x hb
structure ClS (H H5:Hp)(F B W:Addr)(us:z0q)(fs ws:List Pl)(bs:z0g):Prop where
 sm:aD H H5
 eF:∃kf,H5 F=some (.dT kf)/\kf.map 87=fs.map ka
 eB:∃kb,H5 B=some (.dT kb)/\kb.map 87=bs.map λq=>e_ q.1 q.2
 eW:H5 W=some (.lst (us.map V.ref))
 pw:Paired (i4 H5) us ws
def cN {H:Hp}{A t:Addr}{z:Pl}{o o2:HO}(hA:H A=some o)(n:∀xs,o≠.tup xs)(h:i4 H t z):i4 (upd H A o2) t z:=by
 unfold i4 at h ⊢;rw [aj (λy=>by rw [y,hA] at h;exact n _ (gJ h))];exact h
def cD (aa:88)(nm w:Str):List Pl:=((List.range aa.length).filter (zq aa nm)).map λk=>(k,0,w)
def pN (k:P3):Pl:=(k.1.toNat,k.2.1.toNat,k.2.2)
def pX {H:Hp}{fs:List Pl}{ts:z0q}{zs:List P3}(pr:Paired (λt z=>H t=some (.tup (C1 z))) ts zs)(pm:zs.Perm (fs.map pZ)):zs=(zs.map pN).map pZ/\Paired (i4 H) ts (zs.map pN)/\(zs.map pN).Perm fs:=by
 have h1:∀x∈zs,pZ (pN x)=x:=λx hx=>by
  obtain⟨y,_,rfl⟩:=bU.mp (pm.mem_iff.mp hx);rfl
 have h2:zs=(zs.map pN).map pZ:=by
  rw [ff]
  conv=>lhs;rw [<-List.map_id zs]
  exact rH λx hx=>(h1 x hx).symm
 refine⟨h2,?_,?_⟩
 .rw [h2] at pr;clear h1 h2 pm;generalize zs.map pN=l at pr
  induction l generalizing ts with
  | nil=>cases pr;exact .nil
  | cons a l ih=>cases pr with | cons x y=>exact .cons x (ih y)
 have:=pm.map pN;rw [ff] at this;rw [show (pN ∘ pZ)=id from rfl,List.map_id] at this;exact this
def xK {aa:88}{z:Pl}{nm:Str}(h:(dM aa z.1)[z.2.1]?=some nm) (i:Nat):Ld aa z i↔i < aa.length/\zq aa nm i=true:=by
 unfold Ld zq;rw [decide_eq_true_iff];constructor
 .rintro⟨nm2,ru,h1,h2,h3⟩;rw [h] at h1;cases h1;exact⟨(bu.mp h2).1,by rw [h2];exact congrArg some h3⟩
 rintro⟨l,e⟩;obtain⟨ru,h2,h3⟩:=bT.mp e;exact⟨nm,ru,h,h2,h3⟩
def ph {aa:88}{z:Pl}{nm:Str}(h:(dM aa z.1)[z.2.1]?=some nm){y:Pl}{w:Str}:y∈cD aa nm w↔y.2=(0,w)/\Ld aa z y.1:=by
 unfold cD;rw [bU];constructor
 .rintro⟨k,hk,rfl⟩;obtain⟨h1,h2⟩:=gw.mp hk;exact⟨rfl,(xK h k).mpr ⟨j6.mp h1,h2⟩⟩
 rintro⟨e,l⟩;obtain⟨h1,h2⟩:=(xK h y.1).mp l;exact⟨y.1,gw.mpr ⟨j6.mpr h1,h2⟩,gQ rfl e.symm⟩
def jy (aa:88)(nm w:Str):(cD aa nm w).length<=aa.length:=by
 unfold cD;rw [ar];have:=iC (zq aa nm) (List.range aa.length);rw [qY] at this;exact this
def K6 {aa:88}{z:Pl}{nm:Str}(h:(dM aa z.1)[z.2.1]?=some nm){i:Nat}(l:Ld aa z i):nm∈hd aa:=by
 obtain⟨nm2,ru,h1,h2,h3⟩:=l;rw [h] at h1;cases h1;exact h3 ▸ Di (cE h2)
def K0 (aL:z0h):Str->Bool:=λy=>decide (y∈aL.map 87)
def zY (aa:88)(aL:z0h)(aW:List Be)(a b:Pl):Prop:=LZ aa (K0 aL) a b\/uR aa (K0 aL) aW a b
def yF (K:bp)(C Cg:Addr):Sp:=λvs H Q _=>∃(g p:Addr)(ts:z0q)(ps:List Pl)(aa:88)(aL:z0h)(aW:List Be),vs=[.ref g,.ref p]/\Mc K C Cg H g aa aL aW/\aa≠[]/\aa.length<=8/\329/\aW.length<=63/\aI K H p (ts.map V.ref)/\Paired (i4 H) ts ps/\ps.length<=100/\(∀l:List Pl,l.Nodup->(∀z∈l,qX (zY aa aL aW) ps z)->l.length < 64) /\
 ∀(L:Addr)(us:z0q)(zs:List Pl)(H':Hp),H L=none->aD H H'->H' L=some (.lst (us.map V.ref))->Paired (i4 H') us zs->JX JC (zs.map pZ)->zs.Nodup->(∀z,z∈zs↔qX (zY aa aL aW) ps z)->Q (.ref L) H'
def iu:aK ["grammar","places","numbers","found","begun","waiting","place","name","text"] ["grammar","places"] (ay xu):=163
def Ef {C Cg:Addr}(F:iz K "closed_list" "closed_list" xu f fd)(T:Txt mg)(jM:mg "sorted"=none)(G:GC K Cg)(GN:aF P w K mg base 3 "numbers_by_name" ["rules"] (AK K))
  (GA:aF P w K mg base 3 "part_at" ["grammar","place"] (sj K C Cg))(GB:aF P w K mg base 3 "texts_behind" ["grammar","place","begun"] (yG K C Cg)):bR P w K mg base fI 4 f fd ["grammar","places"] (yF K C Cg):=by
 refine F.ok iu 184 186
 .obtain⟨g,p,ts,ps,aa,aL,aW,rfl,_⟩:=h;rfl
 obtain⟨g,p,ts,ps,aa,aL,aW,rfl,gv,jX,r8,h8,Tv,hp,EC,R8,qe,q⟩:=h;have hu:=gh hr;refine⟨_,ag (aA (i:=2) iu.nd rfl 90 (bC GN hr rfl (ab (dA 91 rfl) ak)))
  (ag (aA (i:=3) iu.nd rfl 90 sP)
  (ag (aA (i:=4) iu.nd rfl 90 sP)
  (ag (aA (i:=5) iu.nd rfl 90 (bN gq rfl T.lst gB (ab (pv 1) ak)))
  (ag (iw bW (iT (pv 5) (λ_=>rfl))
   (ag (aA (i:=6) iu.nd rfl 90 (Hc gA PySem.F.slot_list_pop PySem.F.type_list_pop Ia (pv 5)))
   (ao (cy (fC (dD hu (pv 6) (pv 3)))
    (ag (fK hu (pv 3) (pv 6) fY rfl)
    (ag (aA (i:=7) iu.nd rfl 90 (bC GA hr rfl (ab 91 (ab (pv 6) ak))))
    (ao (cy (bc (Od hu) (pv 7) (pv 2) rfl)
     (ao (bJ bW rfl (aR (bC GB hr rfl (ab 91 (ab (pv 6) (ab (pv 4) ak))))) (aq (i:=8) iu.nd rfl (Or.inr rfl))
      (ao (cU (gZ gA yp Az vp (pv 5) (ab
       (aT ["number"] [(8,"text")] rfl (aR (fO hu (pv 2) (pv 7) 142)) 162 nofun rfl nofun
        (λ_ _ _ _ _=>aq (i:=0) (show (["number","text"]:z0t).Nodup by decide +kernel) rfl 90) 220
        (λ_ _ _ _ _=>bX (ab 91 (ab av (ab (pv 1) ak))))) ak))))))
     bf))))
    bf))))
  (ao (bw (aP (qk rfl) rfl jM PyProof.Rows.boot_sorted (ab (pv 3) ak)))))))),?_⟩
 nofun
 have Zh:=gv;obtain⟨Hg,rs,ss,bt,⟨gx,fs,R2,S2,eg,l1,l2,l3,l4,e1,e2,_,__1⟩,cM,YX⟩:=gv;refine⟨_,rfl,g,Cg,gx,fs,_,rfl,eg,G.cls,G.a1,l1,R2,rs,aa,rfl,aI.of e1,cM,∅,λd Qc H1 Vx s1 nv SU _=>?_⟩;intro Fa Tr;have k2:=af Tr (.dT []);have M9:upd H1 Fa (.dT []) Fa=some (.dT []):=ae;generalize upd H1 Fa (.dT [])=H2 at k2 M9;intro Ba VC;have k3:=af VC (.dT []);have ZW:upd H2 Ba (.dT []) Ba=some (.dT []):=ae;have nFB:Fa≠Ba:=λy=>by rw [<-y,M9] at VC;cases VC
 generalize upd H2 Ba (.dT [])=H3 at k3 ZW;have s3:=(s1.trans k2).trans k3;refine⟨_,rfl,p,_,rfl,.inl (s3.seq hp),λWa IH=>?_⟩;have k4:=af IH 222;have T4:upd H3 Wa 222 Wa=some 222:=ae;have XH:Ba≠Wa:=λy=>by rw [<-y,ZW] at IH;cases IH
 have Ot:Fa≠Wa:=λy=>by rw [<-y,k3 _ _ M9] at IH;cases IH
 generalize upd H3 Wa 222=H4 at k4 T4;have fF:H1 Fa=none:=Tr;have fB:H1 Ba=none:=none_of k2 VC;have fW:H1 Wa=none:=none_of (k2.trans k3) IH;have qJ:aD H1 H4:=(k2.trans k3).trans k4;have gv1:=Zh.same s1;refine⟨λm σ H5=>∃(us:z0q)(fs ws:List Pl)(bs:z0g)(y6 y7 y8:Option V),σ=[aE g,aE p,aE d,aE Fa,aE Ba,aE Wa,y6,y7,y8]/\ClS H1 H5 Fa Ba Wa us fs ws bs/\An (LZ aa (K0 aL)) (uR aa (K0 aL) aW) ps fs ws bs/\m=(64 - fs.length) * 10000+ws.length/\ws.length<=100+fs.length * 8008/\bs.length<=fs.length,
  ⟨_,ts,[],ps,[],none,none,none,rfl,⟨qJ,⟨_,k4 _ _ (k3 _ _ M9),rfl⟩,⟨_,k4 _ _ ZW,rfl⟩,T4,Paired.b9 EC λ_ _ z=>k4 _ _ (s3 _ _ z)⟩,An.init _ _ _,rfl,∅,aG _⟩,?_⟩
 rintro m σ H5 ⟨us,lH,ws,bs,y6,y7,y8,rfl,cs,ct,em,lw,lb⟩;refine⟨_,rfl,!(us.map V.ref).isEmpty,.inl ⟨_,aI.of cs.eW,rfl⟩,?_⟩;refine 246
 .obtain⟨jq,u,Ad,z,rfl,rfl,Xe,hz⟩:=pY cs.pw (λy=>by rw [y] at c;cases c);refine⟨_,λ_ _ h=>h,?_⟩;obtain⟨kf,eF,Dd⟩:=cs.eF;obtain⟨kb,eB,OO⟩:=cs.eB;have eW:H5 Wa=some (.lst (jq.map V.ref++[V.ref u])):=by have:=cs.eW;rw [ba] at this;exact this
  rw [a8] at em lw;simp only [fU] at em lw;have lkf:kf.length=lH.length:=by have:=congrArg List.length Dd;rw [ar,ar] at this;exact this
  have lkb:kb.length=bs.length:=by have:=congrArg List.length OO;rw [ar,ar] at this;exact this
  have lfs:lH.length < 64:=qe lH ct.nd λy hy=>ct.snd y (.inl hy);refine⟨_,rfl,.inl ⟨rfl,_,aI.of eW⟩,Wa,_,.ref u,rfl,rfl,eW,yP,?_⟩;rw [List.dropLast_concat];have ND:aD H1 (upd H5 Wa (.lst (jq.map V.ref))):=λb o hb=>by rw [aj (λy=>by rw [y,fW] at hb;cases hb)];exact cs.sm b o hb
  have EV:upd H5 Wa (.lst (jq.map V.ref)) Fa=some (.dT kf):=by rw [aj Ot];exact eF
  have ZV:upd H5 Wa (.lst (jq.map V.ref)) Ba=some (.dT kb):=by rw [aj XH];exact eB
  have Pm:upd H5 Wa (.lst (jq.map V.ref)) Wa=some (.lst (jq.map V.ref)):=ae;have N7:Paired (i4 (upd H5 Wa (.lst (jq.map V.ref)))) jq Ad:=Paired.b9 Xe λ_ _ y=>cN eW (λ_ x=>by cases x) y;have JI:i4 (upd H5 Wa (.lst (jq.map V.ref))) u z:=cN eW (λ_ x=>by cases x) hz;generalize upd H5 Wa (.lst (jq.map V.ref))=H6 at ND EV ZV Pm N7 JI;refine⟨_,rfl,_,rfl,Fa,_,rfl,cu.t (k:=ka z) EV JI,_,rfl,?_⟩;by_cases EA:z∈lH
  .rw [(kC kf (ka z) Dd).1 (qP.mpr EA)];refine iY ?_;exact⟨_,∅,jq,lH,Ad,bs,_,_,_,rfl,⟨ND,⟨kf,EV,Dd⟩,⟨kb,ZV,OO⟩,Pm,N7⟩,ct.old EA,rfl,∅,lb⟩
  have vn:=(kC kf (ka z) Dd).2 λy=>EA (qP.mp y);rw [vn];refine BI ?_;refine⟨_,rfl,_,rfl,Fa,_,rfl,jZ.t (k:=ka z) EV JI (br ∅),?_⟩;rw [kP _ vn];have Gd:aD H1 (upd H6 Fa 331):=λb o hb=>by rw [aj (λy=>by rw [y,fF] at hb;cases hb)];exact ND b o hb
  have Pp:upd H6 Fa 331 Fa=some 331:=ae;have Pq:upd H6 Fa 331 Ba=some (.dT kb):=by rw [aj (d8 nFB)];exact ZV
  have JR:upd H6 Fa 331 Wa=some (.lst (jq.map V.ref)):=by rw [aj (d8 Ot)];exact Pm
  have N6:Paired (i4 (upd H6 Fa 331)) jq Ad:=Paired.b9 N7 λ_ _ y=>cN EV (λ_ x=>by cases x) y;have MQ:i4 (upd H6 Fa 331) u z:=cN EV (λ_ x=>by cases x) JI;generalize upd H6 Fa 331=H7 at Gd Pp Pq JR N6 MQ;have Iw:(kf++[(ka z,V.bl true)]).map 87=(lH++[z]).map ka:=by rw [ba,ba,Dd];rfl
  have XW:lH.length+1 < 64:=by
   have:=qe (lH++[z]) (iN.mpr ⟨ct.nd,hU.mpr ⟨92,gI⟩,λa ha b hb e=>EA (by rw [<-bB.mp hb,<-e];exact ha)⟩) λy hy=>by
    rcases bP.mp hy with hy | hy
    .exact ct.snd y (.inl hy)
    exact ct.snd y (.inr (dJ _ hy))
   rw [a8] at this;exact this
  refine⟨_,rfl,_,rfl,g,u,z,aa,aL,aW,rfl,gv1.same Gd,jX,aZ.of MQ,λH8 s8=>?_⟩;have Kl:=Gd.trans s8;have nv8:=nv.same Kl;have stop:∀y7 y8:Option V,(∀i,¬Ld aa z i)->∃m',m' < m/\∃(us:z0q)(fs ws:List Pl)(bs:z0g)(y6 Wo Wn:Option V),[some (V.ref g),aE p,aE d,aE Fa,aE Ba,aE Wa,aE u,y7,y8]=[some (V.ref g),aE p,aE d,aE Fa,aE Ba,aE Wa,y6,Wo,Wn]/\ClS H1 H8 Fa Ba Wa us fs ws bs/\An (LZ aa (K0 aL)) (uR aa (K0 aL) aW) ps fs ws bs/\m'=(64 - fs.length) * 10000+ws.length/\ws.length<=100+fs.length * 8008/\bs.length<=fs.length:=λy7 y8 no=>by
   have cn:=ct.new (new:=[]) (QJ:=bs) EA (λy hy=>nomatch hy) (λy r=>absurd r.1 (no _)) (λy r=>absurd r.1 (no _)) (λq hq=>.inl hq) uR.dep;rw [dN] at cn;exact⟨_,by rw [a8];simp only [fU];omega,jq,lH++[z],Ad,bs,_,_,_,rfl,⟨Kl,⟨_,s8 _ _ Pp,Iw⟩,⟨kb,s8 _ _ Pq,OO⟩,s8 _ _ JR,Paired.b9 N6 λ_ _ y=>s8 _ _ y⟩,cn,rfl,by rw [a8];simp only [fU];omega,by rw [a8];omega⟩
  cases n6:(dM aa z.1)[z.2.1]? with
  | none =>
   refine⟨_,rfl,_,rfl,d,_,false,.inr ⟨rfl,rfl,_,.inl nv8.hd⟩,_,rfl,?_⟩;refine iY ?_;exact stop _ _ λi ⟨nm,ru,h1,_,__1⟩=>by rw [n6] at h1;cases h1
  | some nm =>
   refine⟨_,rfl,_,rfl,d,_,_,.inl ⟨_,cu.k (k:=.inr nm) nv8.hd,rfl⟩,_,rfl,?_⟩;have mem:(a0 (Qc.map jA) (Sum.inr nm)).isSome=true↔nm∈hd aa:=by rw [eQ,lG,SU];exact dr
   refine b_ (λc2=>?_) (λc2=>stop _ _ λi l=>c2 (mem.mpr (K6 n6 l)));obtain⟨pq,hpq,epq⟩:=bU.mp (SU ▸ mem.mp c2);subst epq;refine⟨_,rfl,_,rfl,_,rfl,g,u,Ba,z,aa,aL,aW,kb,rfl,gv1.same Kl,jX,h8,Tv,aZ.of (s8 _ _ MQ),s8 _ _ Pq,∅,λL nu H9 fL sx eL eB9 ltx pF=>?_⟩;have eB8:=s8 _ _ Pq;have UU:aD H1 H9:=λb o hb=>sx b o (λy=>by rw [y,fB] at hb;cases hb) (Kl b o hb);have ZN:=sx _ _ nFB (s8 _ _ Pp);have ZI:=sx _ _ (d8 XH) (s8 _ _ JR);have Xd:Paired (i4 H9) jq Ad:=Paired.b9 N6 λ_ _ y=>u4 sx eB8 (s8 _ _ y) λ_ x=>by cases x
   have nv9:=nv.same UU;have XF:L≠Wa:=λy=>by rw [y,s8 _ _ JR] at fL;cases fL
   obtain⟨QI,hb9,Y1,Y0,lb9⟩:∃QI:z0g,(if (a0 kb (e_ z.1 z.2.1)).isSome=true then kb else kb++[(e_ z.1 z.2.1,V.bl true)]).map 87=QI.map (λq=>e_ q.1 q.2)/\(∀q∈QI,q∈bs\/(q=(z.1,z.2.1)/\(z.1,z.2.1)∉bs))/\((a0 kb (e_ z.1 z.2.1)).isSome=true->(z.1,z.2.1)∈bs)/\QI.length<=bs.length+1:=by
    have vm:=kC kb (e_ z.1 z.2.1) OO;by_cases hb:(z.1,z.2.1)∈bs
    .rw [vm.1 (zV.mpr hb),aw rfl];exact⟨bs,OO,λq hq=>.inl hq,λ_=>hb,∅⟩
    have vn2:=vm.2 λy=>hb (zV.mp y);rw [vn2];refine⟨bs++[(z.1,z.2.1)],?_,λq hq=>?_,(λy=>by cases y),by rw [a8];simp⟩
    .rw [au 144,ba,ba,OO];rfl
    rcases bP.mp hq with hq | hq
    .exact .inl hq
    exact .inr ⟨bB.mp hq,hb⟩
   generalize (if (a0 kb (e_ z.1 z.2.1)).isSome=true then kb else kb++[(e_ z.1 z.2.1,V.bl true)])=kb9 at eB9 hb9;refine⟨L,rfl,⟨_,aI.of eL⟩,?_⟩;refine bQ (xs:=nu.map V.str) (λi σ HA=>∃(y8:Option V)(h_:z0q),σ=[aE g,aE p,aE d,aE Fa,aE Ba,aE Wa,aE u,some (.str pq.1),y8]/\aD H1 HA/\HA Fa=some 331/\HA Ba=some (.dT kb9)/\HA L=some (.lst (nu.map V.str))/\HA Wa=some (.lst ((jq++h_).map V.ref))/\Paired (i4 HA) (jq++h_) (Ad++(nu.take i).flatMap (cD aa pq.1))) ⟨_,[],rfl,UU,ZN,eB9,eL,by rw [dN];exact ZI,by rw [dN];simpa using Xd⟩ ?_ ?_ ?_
   .rintro i σ HA _ ⟨y8,h_,rfl,_,_,_,LF,_⟩;exact aI.of LF
   .intro i x σ HA ex pG
    ac_nf0
    obtain⟨y8,h_,rfl,sA,Po,ZU,LF,JQ,GY⟩:=pG;rw [aX] at ex;obtain⟨w1,ew,rfl⟩:=bT.mp ex;have Xm:=nv.same sA;have YL:cu HA d (.str pq.1) (some (.ref pq.2)):=by
     have:=cu.k (k:=.inr pq.1) Xm.hd;rw [gS Qc Xm.n1 pq hpq] at this;exact this
    have eq0:=Xm.lst pq hpq;refine goN ?_
    ac_nf
    refine⟨_,rfl,.inl ⟨rfl,_,aI.of JQ⟩,_,rfl,_,rfl,d,_,rfl,YL,pq.2,rfl,⟨_,aI.of eq0⟩,λD hD=>?_⟩;have lnk:=jy aa pq.1 w1;have XT:(nums aa pq.1 aa.length).length=(cD aa pq.1 w1).length:=by unfold nums cD;rw [ar,ar]
    have nDW:D≠Wa:=λy=>by rw [y,JQ] at hD;cases hD
    refine bL (xs:=(nums aa pq.1 aa.length).map V.int) (λj ys σ2 H2=>∃vs:z0q,ys=vs.map V.ref/\Paired (i4 H2) vs ((cD aa pq.1 w1).take j)/\(∃y0,σ2=[y0,some (.str w1)])/\aD HA H2/\H2 D=some (.lst ys)) ⟨[],rfl,.nil,⟨none,rfl⟩,af hD _,ae⟩ ?_ ?_ ?_
    .rintro j ys σ2 H2 _ ⟨vs,_,_,_,jt,_⟩;exact aI.of (jt _ _ eq0)
    .rintro j x ys σ2 H2 iM ⟨vs,rfl,DT,⟨y0,rfl⟩,jt,oB⟩;obtain⟨k,ek,en⟩:∃k:Nat,x=V.int (k:Int)/\(cD aa pq.1 w1)[j]?=some (k,0,w1):=by
      unfold nums at iM;rw [ff,aX] at iM;obtain⟨k,hk,e⟩:=bT.mp iM;exact⟨k,e.symm,by unfold cD;rw [aX,hk];rfl⟩
     subst ek;have lv:=a7 DT;rw [du] at lv;refine goN (uJ ?_);refine⟨_,rfl,_,rfl,Jy,λt ht=>?_⟩;have k3:=af ht (.tup [V.int (k:Int),V.int 0,V.str w1]);have et:i4 (upd H2 t (.tup [V.int (k:Int),V.int 0,V.str w1])) t (k,0,w1):=ae;generalize upd H2 t (.tup [V.int (k:Int),V.int 0,V.str w1])=H3 at k3 et;have lL:=k3 _ _ oB;refine⟨lL,219,vs++[t],by rw [ba];rfl,?_,157,ft (jt.trans k3) hD,ae⟩;rw [cK,en];exact fc (Paired.b9 DT λ_ _ y=>cN lL (λ_ x=>by cases x) (k3 _ _ y)) (cN lL (λ_ x=>by cases x) et)
    rintro ys σ2 H2 ⟨vs,rfl,DT,_,jt,oB⟩;rw [ar,XT,b0] at DT;have lv:=a7 DT;have XS:=a7 GY;have Pn:=jt _ _ JQ;have lfl:((nu.take i).flatMap (cD aa pq.1)).length<=8008:=by
     have h:∀l:z0t,(l.flatMap (cD aa pq.1)).length<=l.length * 8:=λl=>by
      induction l with
      | nil=>simp
      | cons a r ih=>rw [pT,a8,dI];have:=jy aa pq.1 a;omega
     have h2:=h (nu.take i);rw [du] at h2;omega
    rw [a8,a8] at XS;refine⟨Wa,D,_,_,rfl,rfl,Pn,oB,fits (by rw [ar,ar,a8];omega),?_⟩;have kW:∀y o,y≠Wa->H2 y=some o->upd H2 Wa (.lst ((jq++h_).map V.ref++vs.map V.ref)) y=some o:=λy o ny hy=>by rw [aj ny];exact hy
    refine⟨_,h_++vs,rfl,λb o hb=>kW b o (λy=>by rw [y,fW] at hb;cases hb) (jt _ _ (sA b o hb)),kW _ _ Ot (jt _ _ Po),kW _ _ XH (jt _ _ ZU),kW _ _ XF (jt _ _ LF),by rw [ae,<-ba,iA],?_⟩;rw [<-iA,cK,ew,rG,<-iA];refine Paired.LU (Paired.b9 GY λ_ _ y=>cN Pn (λ_ x=>by cases x) (jt _ _ y)) ?_;have:(some w1).toList.flatMap (cD aa pq.1)=cD aa pq.1 w1:=92
    rw [this];exact Paired.b9 DT λ_ _ y=>cN Pn (λ_ x=>by cases x) y
   rintro σ HA ⟨y8,h_,rfl,sA,Po,ZU,LF,JQ,GY⟩;rw [ar,b0] at GY;have ln:((nu.flatMap (cD aa pq.1))).length<=8008:=by
    have:∀l:z0t,(l.flatMap (cD aa pq.1)).length<=l.length * 8:=λl=>by
     induction l with
     | nil=>simp
     | cons a r ih=>rw [pT,a8,dI];have:=jy aa pq.1 a;omega
    have:=this nu;omega
   have cn:=ct.new (new:=nu.flatMap (cD aa pq.1)) (QJ:=QI) EA (λy hy=>?_) (λy r=>?_) (λy r=>?_) Y1 uR.dep
   .refine⟨_,?_,jq++h_,lH++[z],Ad++nu.flatMap (cD aa pq.1),QI,_,_,_,rfl,⟨sA,⟨_,Po,Iw⟩,⟨_,ZU,hb9⟩,JQ,GY⟩,cn,rfl,?_,?_⟩
    .rw [a8,a8];simp only [fU];omega
    .rw [a8,a8];simp only [fU];omega
    rw [a8];simp only [fU];omega
   .obtain⟨w,hw,h2⟩:=jm.mp hy;obtain⟨e,l⟩:=(ph n6).mp h2;rcases (pF w).mp hw with ⟨h3,h4⟩ | ⟨_,h4⟩
    .exact .inl ⟨l,by rw [e],by rw [e];exact h3,h4⟩
    exact .inr ⟨l,by rw [e],by rw [e];exact h4⟩
   .exact jm.mpr ⟨y.2.2,(pF _).mpr (.inl ⟨r.2.2.1,r.2.2.2⟩),(ph n6).mpr ⟨gQ r.2.1 rfl,r.1⟩⟩
   cases hv:(a0 kb (e_ z.1 z.2.1)).isSome with
   | true=>exact .inl (Y0 hv)
   | false=>exact .inr (jm.mpr ⟨y.2.2,(pF _).mpr (.inr ⟨hv,r.2.2⟩),(ph n6).mpr ⟨gQ r.2.1 rfl,r.1⟩⟩)
 have BM:us=[]:=by
  cases us with
  | nil=>rfl
  | cons a l=>exact absurd rfl c
 have Lh:ws=[]:=by
  have:=cs.pw;rw [BM] at this;cases this;rfl
 subst BM Lh;obtain⟨kf,eF,Dd⟩:=cs.eF;refine⟨_,rfl,Fa,kf,lH.map pZ,rfl,eF,by rw [Dd,ff];rfl,?_,λL rX uo fL pr pm Rl=>?_⟩
 .rw [ar];exact qe lH ct.nd λy hy=>ct.snd y (.inl hy)
 obtain⟨h2,o6,RI⟩:=pX pr pm;have sL:=af fL (.lst (rX.map V.ref));refine q L rX (uo.map pN) _ (none_of (s1.trans cs.sm) fL) ((s1.trans cs.sm).trans sL) ae (Paired.b9 o6 λ_ _ y=>sL _ _ y) (by rw [<-h2];exact Rl) (RI.nodup_iff.mpr ct.nd) λy=>?_;rw [RI.mem_iff,ct.done];rfl
end
abbrev xo:Stmt:=top 56
abbrev A4:Stmt:=top 57
abbrev sE:Stmt:=top 58
abbrev AW:Stmt:=top 59
def uD (bq:z0i)(z:Str):z0t:=(bq.filter λq=>decide (q.1=z)).map (·.2)
def zg {bq:z0i}{z w:Str}:w∈uD bq z↔(z,w)∈bq:=by
 unfold uD;rw [bU];constructor
 .rintro⟨q2,SK,rfl⟩;obtain⟨a1,a2⟩:=gw.mp SK;rw [<-cR a2];exact a1
 exact λhx=>⟨(z,w),gw.mpr ⟨hx,cv rfl⟩,rfl⟩
def Fo (aa:88)(bq:z0i)(z:Str):z0t:=if z∈hm aa then uD bq z else [z]
def Gg (bq:z0i)(z:Str):(uD bq z).length<=bq.length:=by
 unfold uD;rw [ar];exact iC _ _
section
def nH (K:bp):Sp:=λvs H Q _=>∃(R:Addr) (n:Nat)(rs:z0q)(aa:88),vs=[.ref R,.int (n:Int)]/\aI K H R 153/\bM K H rs aa/\aa≠[]/\n<=aa.length/\∀(p:Addr)(H':Hp),aD H H'->aZ K H' p ((dM aa n).map V.str)->Q (.ref p) H'
def Gk:aK ["_law_rules","_law_number"] ["_law_rules","_law_number"] (ay xo):=163
def Ed (F:iz K "_law_parts" "_law_parts" xo f fd)(T:Txt mg):bR P w K mg base fI 1 f fd ["_law_rules","_law_number"] (nH K):=by
 refine F.ok Gk 184 186
 .obtain⟨R,n,rs,aa,rfl,_⟩:=h;rfl
 obtain⟨R,n,rs,aa,rfl,hR,cM,jX,hn,q⟩:=h;refine⟨_,ag (cy (bc jx (pv 1) (aP aU rfl T.len d_ (ab 91 ak)) (cA _)) (ao (bw (bX (ab (a_ bF (a_ cO 91 av 142) av 142) ak)))) bf)
  (ao (bw (a_ bF (a_ cO 91 (pv 1) 142) av 142))),?_⟩
 nofun
 have ll:=a7 cM;have l0:0 < aa.length:=List.length_pos_iff.mpr jX;refine⟨_,rfl,_,rfl,R,_,rfl,.inl hR,rfl,_,rfl,?_⟩;rw [ar,ll];refine 246
 .have e:V.int (n:Int)=V.int (aa.length:Int):=cR c;injection e with e;have en:n=aa.length:=by omega
  obtain⟨r,er,p,v1,v2⟩:=Paired.at_ cM 0 _ (cZ l0);have ue:pQ 153 ((0:Nat):Int)=some (.ref r):=cH (by rw [aX,er];rfl);refine⟨_,rfl,R,_,_,_,rfl,rfl,hR,ue,r,_,_,_,rfl,rfl,v1,rfl,Fl,λp hp=>?_⟩;refine q p _ (af hp _) ?_;unfold dM;rw [kj ∅,cZ l0];exact aZ.of ae
 have lt:n < aa.length:=by
  apply Nat.lt_of_le_of_ne hn;intro y;exact c (by rw [y];exact cv rfl)
 obtain⟨r,er,p,v1,v2⟩:=Paired.at_ cM n _ (cZ lt);have ue:pQ 153 ((n:Nat):Int)=some (.ref r):=cH (by rw [aX,er];rfl);refine⟨_,rfl,_,rfl,R,_,_,_,rfl,rfl,hR,ue,r,_,_,_,rfl,rfl,v1,rfl,q p H (aD.refl H) ?_⟩;unfold dM;rw [cZ lt];exact v2
def CN (K:bp):Sp:=λvs H Q _=>∃(R L De p:Addr)(rs us:z0q)(aa:88)(bq:z0i) (ns zs:z0t)(ah:Str),vs=[.ref R,.ref L,.ref De,.ref p,.str ah]/\aI K H R 153/\bM K H rs aa/\aa.length<=1000/\aI K H L (us.map V.ref)/\Paired (Js K H) us bq/\bq.length<=63/\aI K H De (ns.map V.str)/\aZ K H p 203/\zs.length<=8 /\
 ∀(l:Addr) (out:z0t)(H':Hp),H l=none->aD H H'->H' l=some (.lst (out.map V.str))->out.length<=1000->(∀w,w∈out↔(∃j z,zs[j]?=some z/\(∀x∈zs.take j,x∈ns)/\w∈Fo aa bq z)\/(w=ah/\∀x∈zs,x∈ns))->Q (.ref l) H'
def nP:aK ["_law_rules","_law_pairs","_law_empty","_law_parts_here","_law_ahead_here","_law_heads","_law_found","_law_part"] ["_law_rules","_law_pairs","_law_empty","_law_parts_here","_law_ahead_here"] (ay A4):=163
def zM {H:Hp}{R D:Addr}{rs:z0q}{aa:88}{σ:St}{Qp:Hp->Prop}(hR:aI K H R 153)(cM:bM K H rs aa)(bO:aa.length<=1000)(hD:H D=none)
  (q:∀H2,aD H H2->H2 D=some (.lst ((hm aa).map V.str))->Qp H2) :
  ∃W:241,(∃m,W 0 m [] (dP ["_law_head","_law_some"] [] σ) 227) /\
 ∀i m ys σ' H,W i m ys σ' H->((jK K R).stop i H/\Qp H)\/((jK K R).go i H/\∃m',m' < m/\∀x H',(jK K R).lV i H x H'->zz K 2 (iZ (dF 0) (iZ (dF 1) BV)) x σ' H' λσ2 H2=>hX σ2 H2 λb H3 =>
  if b=true then gN 0 σ2 H3 239 else 257):=ij (σ:=σ) hR cM bO hD q
def HR (F:iz K "_law_ahead" "_law_ahead" A4 f fd)(T:Txt mg):bR P w K mg base fI 1 f fd ["_law_rules","_law_pairs","_law_empty","_law_parts_here","_law_ahead_here"] (CN K):=by
 refine F.ok nP 184 186
 .obtain⟨R,L,De,p,rs,us,aa,bq,ns,zs,ah,rfl,_⟩:=h;rfl
 obtain⟨R,L,De,p,rs,us,aa,bq,ns,zs,ah,rfl,hR,cM,bO,hL,BM,SN,hE,hp,JI,q⟩:=h;refine⟨_,ag (gG (iy:=5) ["_law_head","_law_some"] [] nP.nd rfl rfl rfl (aR 91) 162 nofun rfl nofun
   (λ_ _ _ _ _=>di (n:=2) K rfl (az (aq (i:=0) (show (["_law_head","_law_some"]:z0t).Nodup by decide +kernel) rfl 90) (az (aq (i:=1) (show (["_law_head","_law_some"]:z0t).Nodup by decide +kernel) rfl 90) bE))) 220 (λ_ _ _ _ _=>pv 0))
  (ag (aA (i:=6) nP.nd rfl 90 (bK ak))
  (ag (bJ bW rfl (eV (pv 3)) (aq (i:=7) nP.nd rfl (Or.inr rfl))
   (ag (ik (cy (bc jw (pv 7) (pv 5) rfl) (ao (aA (i:=6) nP.nd rfl 90 (aN jh (pv 6)
    (aT ["_law_name","_law_word"] [(7,"_law_part")] rfl (aR (pv 1)) 162 nofun rfl nofun
     (λ_ _ _ _ _=>di (n:=2) K rfl (az (aq (i:=0) (show (["_law_name","_law_word","_law_part"]:z0t).Nodup by decide +kernel) rfl 90) (az (aq (i:=1) (show (["_law_name","_law_word","_law_part"]:z0t).Nodup by decide +kernel) rfl 90) bE)))
     (λ_ _ _ _ _=>fM (bc jx 91 (pv 2) (cA _))) (λ_ _ _ _ _=>pv 1)))))
    (ao (cU (gZ gA iD iE cx (pv 6) (ab (pv 7) ak))))))
   (ao (cy (bc iF (pv 7) (pv 2) rfl) (ao (bw (pv 6))) bf))))
  (ao (bw (aN jh (pv 6) (bK (ab (pv 4) ak))))))),?_⟩
 nofun
 have R7:=a7 BM;refine⟨_,rfl,R,rfl,⟨_,hR⟩,λDh Ts=>zM hR cM ∅ Ts λH1 s1 VW=>?_⟩;refine goN ?_
 ac_rfl
 refine⟨uq,λF0 VB=>?_⟩;have k3:=af VB 138;have e3:upd H1 F0 138 F0=some 138:=ae;have fF0:H F0=none:=s1.free VB;have nDF:Dh≠F0:=λz=>by rw [<-z,VW] at VB;cases VB
 generalize upd H1 F0 138=H3 at k3 e3;have s3:=s1.trans k3;have lL:=k3 _ _ VW;refine⟨_,rfl,p,rfl,⟨_,s3.tup hp⟩,?_⟩;refine xT (xs:=154) (λi σ H6=>∃(Fd:Addr) (fs:z0t)(y7:Option V),σ=[aE R,aE L,aE De,aE p,some (.str ah),aE Dh,aE Fd,y7]/\aD H H6/\H6 Dh=some (.lst ((hm aa).map V.str))/\H6 Fd=some (.lst (fs.map V.str))/\H Fd=none/\Dh≠Fd/\fs.length<=64 * i/\(∀x∈zs.take i,x∈ns)/\∀w,w∈fs↔∃j z,zs[j]?=some z/\j < i/\w∈Fo aa bq z)
  ⟨F0,[],none,rfl,s3,lL,e3,fF0,nDF,gr _,λ_ h=>(by simp at h),λw=>⟨λh=>(by cases h),λ⟨j,z,_,h,_⟩=>absurd h (mz _)⟩⟩ ?_ ?_ ?_
 .rintro i σ H6 _ ⟨Fd,fs,y7,rfl,s6,_⟩;exact s6.tup hp
 .intro i x σ H6 ex pG
  ac_nf0
  obtain⟨Fd,fs,y7,rfl,s6,eD,eF,fF,nD,lf,EK,pF⟩:=pG;rw [aX] at ex;obtain⟨z,ez,rfl⟩:=bT.mp ex;have li:=(bu.mp ez).1;have lw:=Gg bq z;refine goN ?_
  ac_rfl
  have RX:∀gs:z0t,(∀w,w∈gs↔w∈fs\/w∈Fo aa bq z)->∀w,w∈gs↔∃j z,zs[j]?=some z/\j < i+1/\w∈Fo aa bq z:=λgs h w=>by
   rw [h,pF];constructor
   .rintro(⟨j,z2,h1,h2,h3⟩ | h)
    .exact⟨j,z2,h1,∅,h3⟩
    exact⟨i,z,ez,lS _,h⟩
   rintro⟨j,z2,h1,h2,h3⟩;by_cases c:j < i
   .exact .inl ⟨j,z2,h1,c,h3⟩
   have:j=i:=by omega
   subst this;rw [ez] at h1;cases h1;exact .inr h3
  refine⟨λσ H8=>∃(Fd:Addr) (gs:z0t),σ=[aE R,aE L,aE De,aE p,some (.str ah),aE Dh,aE Fd,some (.str z)]/\aD H H8/\H8 Dh=some (.lst ((hm aa).map V.str))/\H8 Fd=some (.lst (gs.map V.str))/\H Fd=none/\Dh≠Fd/\gs.length<=64 * (i+1)/\∀w,w∈gs↔w∈fs\/w∈Fo aa bq z,?_,?_⟩
  .refine⟨_,rfl,_,rfl,Dh,_,rfl,.inl (aI.of eD),rfl,bZ _,_,rfl,?_⟩;rw [au cX,dG];refine b_ (λcc=>?_) (λcc=>?_)
   .have hzh:z∈hm aa:=cR cc;have sA:=s6;have Yj:Paired (Js K H6) us bq:=Paired.b9 BM λ_ _ y=>sA.tup y;refine⟨_,rfl,_,rfl,L,rfl,⟨_,sA.seq hL⟩,λDB hDB=>bL (xs:=us.map V.ref) (λm ys σ2 HC=>ys=(((bq.take m).filter λq=>decide (q.1=z)).map λq=>V.str q.2)/\(∃y0 y1,σ2=[y0,y1,some (.str z)])/\aD H6 HC/\HC DB=some (.lst ys)) ⟨rfl,⟨none,none,rfl⟩,af hDB _,ae⟩ (λm ys σ2 HC _ h=>?_) (λm x ys σ2 HC ex h=>?_) (λys σ2 HC h=>?_)⟩
    .obtain⟨_,_,sm,_⟩:=h;exact sm.seq (sA.seq hL)
    .obtain⟨rfl,⟨y0,y1,rfl⟩,sm,eB⟩:=h;rw [aX] at ex;obtain⟨u,eu,rfl⟩:=bT.mp ex;have lm:=(bu.mp eu).1;obtain⟨qq,TQ⟩:∃qq,bq[m]?=some qq:=⟨_,cZ ∅⟩;obtain⟨u',TK,vu⟩:=Paired.at_ Yj m qq TQ;rw [eu] at TK;cases TK;have QY:=ip (λq:Str×Str=>decide (q.1=z)) TQ;have lfq:((bq.take m).filter λq=>decide (q.1=z)).length<=64:=fJ (iC _ _) (by rw [du];omega);refine⟨u,_,rfl,sm.tup vu,rfl,_,_,rfl,_,_,rfl,rfl,?_⟩;refine⟨_,rfl,_,rfl,rfl,_,rfl,?_⟩;have dv:decide (V.str qq.1=V.str z)=decide (qq.1=z):=by
      by_cases c:qq.1=z
      .rw [c,cv rfl,cv rfl]
      rw [dU c,dU (λy=>c (by injection y))]
     rw [dv];refine b_ (λc3=>?_) (λc3=>?_)
     .refine⟨_,rfl,eB,219,?_,⟨_,_,rfl⟩,λb o hb=>?_,ae⟩
      .rw [QY,aw c3,ba];rfl
      rw [aj (λy=>by rw [y,hDB] at hb;cases hb)];exact sm b o hb
     exact⟨by rw [QY,au c3,dN],⟨_,_,rfl⟩,sm,eB⟩
    obtain⟨rfl,_,sm,eB⟩:=h;rw [ar,R7,b0] at eB;have ZX:HC DB=some (.lst ((uD bq z).map V.str)):=by rw [eB];unfold uD;rw [ff];rfl
    refine⟨Fd,DB,fs.map V.str,(uD bq z).map V.str,rfl,rfl,sm _ _ eF,ZX,fits (by rw [ar,ar];omega),λFn OZ=>?_⟩;have sC:=s6.trans sm;have kN:=af OZ (.lst (fs.map V.str++(uD bq z).map V.str));have eDC:=sm _ _ eD;refine⟨Fn,fs++uD bq z,rfl,sC.trans kN,kN _ _ eDC,by rw [ae,ba],sC.free OZ,(λy=>by rw [<-y,eDC] at OZ;cases OZ),by rw [a8];omega,λw=>?_⟩;rw [bP];unfold Fo;rw [aw hzh]
   have nz:z∉hm aa:=λy=>cc (cv y);refine⟨_,rfl,.inl ⟨rfl,_,aI.of eF⟩,_,rfl,Fd,_,_,rfl,rfl,eF,219,?_⟩;refine⟨Fd,fs++[z],rfl,ft s6 fF,by rw [aj nD];exact eD,by rw [ae,ba];rfl,fF,nD,by rw [a8,fU];omega,λw=>?_⟩;rw [bP];unfold Fo;rw [au nz]
  rintro σ H8 ⟨F8,gs,rfl,s8,eD8,eF8,fF8,nD8,lg,hg⟩;refine⟨_,rfl,_,rfl,De,_,rfl,.inl (s8.seq hE),rfl,bZ _,_,rfl,?_⟩;rw [aw rfl,dG];refine b_ (λcc=>?_) (λcc=>?_)
  .have nze:z∉ns:=by simpa using cc
   refine⟨_,rfl,q F8 gs H8 fF8 s8 eF8 ∅ λw=>?_⟩;rw [RX gs hg];constructor
   .rintro⟨j,z2,h1,h2,h3⟩;exact .inl ⟨j,z2,h1,λx hx=>EK x (by
     have:zs.take j=(zs.take i).take j:=by rw [List.take_take,Nat.min_eq_left ∅]
     rw [this] at hx;exact uT hx),h3⟩
   rintro(⟨j,z2,h1,h2,h3⟩ | ⟨_,h2⟩)
   .refine⟨j,z2,h1,?_,h3⟩;apply Nat.lt_of_not_le;intro hle;refine nze (h2 z (cE (i:=i) ?_));rw [yo ∅];exact ez
   exact absurd (h2 z (cE ez)) nze
  have hze:z∈ns:=Classical.byContradiction λy=>cc (by rw [dU y];rfl);refine⟨F8,gs,_,rfl,s8,eD8,eF8,fF8,nD8,lg,λx hx=>?_,RX gs hg⟩;rw [cK,ez] at hx;rcases bP.mp hx with h | h
  .exact EK x h
  rw [bB.mp h];exact hze
 rintro σ H6 ⟨Fd,fs,y7,rfl,s6,eD,eF,fF,nD,lf,EK,pF⟩;rw [ar] at lf EK pF;rw [b0] at EK;refine⟨_,rfl,_,rfl,Fl,λLa hLa=>?_⟩;have kA:=af hLa (.lst [V.str ah]);have eA:upd H6 La (.lst [V.str ah]) La=some (.lst [V.str ah]):=ae;generalize upd H6 La (.lst [V.str ah])=HA at kA eA;refine⟨Fd,La,fs.map V.str,[V.str ah],rfl,rfl,kA _ _ eF,eA,fits (by rw [ar];show fs.length+1<=_;omega),λFn OZ=>?_⟩;have kN:=af OZ (.lst (fs.map V.str++[V.str ah]));have M8:upd HA Fn (.lst (fs.map V.str++[V.str ah])) Fn=some (.lst ((fs++[ah]).map V.str)):=by rw [ae,ba];rfl
 refine q Fn (fs++[ah]) _ ((s6.trans kA).free OZ) ((s6.trans kA).trans kN) M8 (by rw [a8,fU];omega) λw=>?_;rw [bP,pF,bB];constructor
 .rintro(⟨j,z,h1,h2,h3⟩ | h)
  .exact .inl ⟨j,z,h1,λx hx=>EK x (uT hx),h3⟩
  exact .inr ⟨h,EK⟩
 rintro(⟨j,z,h1,_,h3⟩ | ⟨h,_⟩)
 .exact .inl ⟨j,z,h1,(bu.mp h1).1,h3⟩
 exact .inr h
end
end hJ
namespace L2
open PySem
def Ge {X:Cx}(K:bp)(hK:X.K=K:=by rfl):Uu X (Mt K):=by
 subst hK;exact i7
end L2
namespace hJ
open PySem L2 M11 ST
section
def LO (zs:z0t) (d:Nat):g_ 203 (some (d:Int)) (some ((d:Int)+1))=(zs[d]?).toList.map V.str:=by
 unfold g_;rw [show ((d:Int)+1)=((d+1:Nat):Int) by omega,HT.lF,HT.lF,ar];by_cases c:d < zs.length
 .rw [Nat.min_eq_left ∅,Nat.min_eq_left ∅,Nat.add_sub_cancel_left,<-List.map_drop,<-mr,List.drop_eq_getElem_cons c,cZ c];rfl
 rw [Nat.min_eq_right (show zs.length<=d by omega),Ap (by rw [ar];exact aG _),kj ∅,List.take_nil];rfl
def OU (aa:88) (k:Nat):Str:=match aa[k]? with | some ru=>ru.1 | none => ""
def yW (aa:88)(o:Option Str) (i:Nat):List Nat:=(List.range i).filter λk=>decide (OU aa k∈o.toList)
def El (aa:88)(nm:Str):yW aa (some nm) aa.length=(List.range aa.length).filter (zq aa nm):=by
 refine List.filter_congr λk hk=>?_;have l:=j6.mp hk;unfold zq OU;rw [cZ l];by_cases c:aa[k].1=nm
 .rw [cv (by simp [c]),cv (by simp [c])]
 rw [dU (by simp [c]),dU (by simp [c])]
def Eo (aa:88) (i:Nat):yW aa none i=[]:=by
 unfold yW;rw [List.filter_eq_nil_iff];intro k _;simp
def Ek (aa:88)(o:Option Str) (i:Nat):yW aa o (i+1)=yW aa o i++if decide (OU aa i∈o.toList)=true then [i] else []:=by
 unfold yW;rw [List.range_succ,pU]
 congr 1
 by_cases h:decide (OU aa i∈o.toList)=true
 .rw [aw h,oQ,aw h];rfl
 rw [au h,oQ,au h];rfl
def HS (aa:88)(o:Option Str) (i:Nat):(yW aa o i).length<=i:=by
 have:=iC (λk=>decide (OU aa k∈o.toList)) (List.range i);rw [qY] at this;exact this
def AhL (aa:88)(bq:z0i) (ns zs:z0t)(ah w:Str):Prop:=(∃j z,zs[j]?=some z/\(∀x∈zs.take j,x∈ns)/\w∈Fo aa bq z)\/(w=ah/\∀x∈zs,x∈ns)
def qC (aa:88)(bq:z0i) (ns:z0t)(z y:Pl):Prop:=Ld aa z y.1/\y.2.1=0/\AhL aa bq ns (J0 aa z) z.2.2 y.2.2
def Xs (_ _:Pl):Prop:=False
def vb (K:bp):Sp:=λvs H Q _=>∃(R L De p:Addr)(rs us ts:z0q)(ps:List Pl)(aa:88)(bq:z0i) (ns:z0t),vs=[.ref R,.ref L,.ref De,.ref p]/\aI K H R 153/\bM K H rs aa/\aa≠[]/\aa.length<=8/\329/\aI K H L (us.map V.ref)/\Paired (Js K H) us bq/\bq.length<=63/\aI K H De (ns.map V.str)/\aI K H p (ts.map V.ref)/\Paired (i4 H) ts ps/\ps.length<=100/\(∀z∈ps,z.1<=aa.length)/\(∀l:List Pl,l.Nodup->(∀z∈l,qX (qC aa bq ns) ps z)->l.length < 64) /\
 ∀(l:Addr)(us:z0q)(zs:List Pl)(H':Hp),H l=none->aD H H'->H' l=some (.lst (us.map V.ref))->Paired (i4 H') us zs->JX JC (zs.map pZ)->zs.Nodup->(∀z,z∈zs↔qX (qC aa bq ns) ps z)->Q (.ref l) H'
def ib:aK ["_law_rules","_law_pairs","_law_empty","_law_places","_law_kept","_law_todo","_law_place_here","_law_parts_here","_law_numbers","_law_word"] ["_law_rules","_law_pairs","_law_empty","_law_places"] (ay sE):=163
def Bn (F:iz K "_law_closed" "_law_closed" sE f fd)(T:Txt mg)(jM:mg "sorted"=none)(GP:aF P w K mg base 1 "_law_parts" ["_law_rules","_law_number"] (nH K))(GA:aF P w K mg base 1 "_law_ahead" ["_law_rules","_law_pairs","_law_empty","_law_parts_here","_law_ahead_here"] (CN K)):bR P w K mg base fI 2 f fd ["_law_rules","_law_pairs","_law_empty","_law_places"] (vb K):=by
 refine F.ok ib 184 186
 .obtain⟨R,L,De,p,rs,us,ts,ps,aa,bq,ns,rfl,_,__1⟩:=h;rfl
 obtain⟨R,L,De,p,rs,us,ts,ps,aa,bq,ns,rfl,hR,cM,jX,r8,h8,hL,BM,SN,hE,hp,EC,R8,Yx,qe,q⟩:=h;have hu:=gh hr;have hu0:=Nat.lt_of_succ_lt hu;refine⟨_,ag (aA (i:=4) ib.nd rfl 90 sP)
  (ag (aA (i:=5) ib.nd rfl 90 (bN gq rfl T.lst gB (ab (pv 3) ak)))
  (ag (iw bW (bc (vk hu0) (pv 5) (bK ak) (cA _))
   (ag (aA (i:=6) ib.nd rfl (Or.inr rfl) (Hc gA PySem.F.slot_list_pop PySem.F.type_list_pop Ia (pv 5)))
   (ao (cy (fC (dD hu (pv 6) (pv 4)))
    (ag (fK hu (pv 4) (pv 6) fY rfl)
    (ag (aA (i:=7) ib.nd rfl (Or.inr rfl) (bC GP hr rfl (ab 91 (ab (a_ bF (pv 6) av 142) ak))))
    (ag (gG (iy:=8) ["_law_number"] [(0,"_law_rules"),(7,"_law_parts_here"),(6,"_law_place_here")] ib.nd rfl rfl rfl (ie rfl T.Fs (ab (aP aU rfl T.len d_ (ab 91 ak)) ak)) 162 nofun rfl nofun
     (λ_ _ _ _ _=>aq (i:=0) (show (["_law_number","_law_rules","_law_parts_here","_law_place_here"]:z0t).Nodup by decide +kernel) rfl 90)
     (λ_ _ _ _ _=>fM (bc (dQ K) (a_ (qQ K) (a_ (zp K) (pv 1) 91 142) av 142) (dX (Ge K) (pv 2) (eU (a_ (qQ K) (pv 3) av 142)) (eU (aN df (a_ (qQ K) (pv 3) av 142) av))) rfl))
     (λ_ _ _ _ _=>pv 0))
    (ao (cy (bc (vk hu0) (pv 8) (bK ak) (cA _))
     (ao (bJ bW rfl (aR (bC GA hr rfl (ab 91 (ab (pv 1) (ab (pv 2) (ab (dX i7 (pv 7) (eU (aN df (a_ bF (pv 6) av 142) av)) gY) (ab (a_ bF (pv 6) av 142) ak))))))) (aq (i:=9) ib.nd rfl (Or.inr rfl))
      (ao (cU (gZ gA yp Az vp (pv 5) (ab
       (aT ["_law_number"] [(9,"_law_word")] rfl (aR (pv 8)) 162 nofun rfl nofun
        (λ_ _ _ _ _=>aq (i:=0) (show (["_law_number","_law_word"]:z0t).Nodup by decide +kernel) rfl 90) 220
        (λ_ _ _ _ _=>bX (ab 91 (ab av (ab (pv 1) ak))))) ak))))))
     bf)))))
    bf))))
  (ao (bw (aP (qk rfl) rfl jM PyProof.Rows.boot_sorted (ab (pv 4) ak)))))),?_⟩
 nofun
 intro Fa Tr;have k2:=af Tr (.dT []);have M9:upd H Fa (.dT []) Fa=some (.dT []):=ae;generalize upd H Fa (.dT [])=H2 at k2 M9;refine⟨_,rfl,p,_,rfl,.inl (k2.seq hp),λWa IH=>?_⟩;have k4:=af IH 222;have T4:upd H2 Wa 222 Wa=some 222:=ae;have Ot:Fa≠Wa:=λy=>by rw [<-y,M9] at IH;cases IH
 generalize upd H2 Wa 222=H4 at k4 T4;have fF:H Fa=none:=Tr;have fW:H Wa=none:=none_of k2 IH;have qJ:aD H H4:=k2.trans k4;refine⟨λm σ H5=>∃(Fp:z0q)(fs ws:List Pl)(y6 y7 y8 y9:Option V),σ=[aE R,aE L,aE De,aE p,aE Fa,aE Wa,y6,y7,y8,y9]/\aD H H5/\(∃kf,H5 Fa=some (.dT kf)/\kf.map 87=fs.map ka)/\H5 Wa=some (.lst (Fp.map V.ref))/\Paired (i4 H5) Fp ws/\(∀z∈ws,z.1<=aa.length)/\An (qC aa bq ns) Xs ps fs ws []/\m=(64 - fs.length) * 10000+ws.length/\ws.length<=100+fs.length * 8008,
  ⟨_,ts,[],ps,none,none,none,none,rfl,qJ,⟨_,k4 _ _ M9,rfl⟩,T4,Paired.b9 EC λ_ _ z=>qJ _ _ z,Yx,An.init _ _ _,rfl,∅⟩,?_⟩
 rintro m σ H50 ⟨Fp,lH,ws,y6,y7,y8,y9,rfl,WO,⟨kf,eF0,Dd⟩,eW0,pw0,w1,ct,em,lw⟩;have Uc:∀z,qX (λa b=>qC aa bq ns a b\/Xs a b) ps z->qX (qC aa bq ns) ps z:=λz c=>c.mono (λa b h=>h.elim id λh=>h.elim) λz hz=>.base hz;refine⟨_,rfl,uq,λN hN=>?_⟩;have k5:=af hN 138;have eN:upd H50 N 138 N=some 138:=ae;generalize upd H50 N 138=H5 at k5 eN;have WQ:=WO.trans k5;have eF:=k5 _ _ eF0;have eW1:=k5 _ _ eW0;have pw:Paired (i4 H5) Fp ws:=Paired.b9 pw0 λ_ _ y=>k5 _ _ y;refine⟨Wa,N,_,rfl,rfl,aI.of eW1,aI.of eN,_,rfl,?_⟩;refine 246
 .obtain⟨jq,u,Ad,z,rfl,rfl,Xe,hz⟩:=pY pw (λy=>by rw [y] at c;cases c);refine⟨_,λ_ _ h=>h,?_⟩;have eW:H5 Wa=some (.lst (jq.map V.ref++[V.ref u])):=by have:=eW1;rw [ba] at this;exact this
  rw [a8] at em lw;simp only [fU] at em lw;have zl:z.1<=aa.length:=w1 z (dJ _ (bB.mpr rfl));have Wv:∀z∈Ad,z.1<=aa.length:=λy hy=>w1 y (fg _ hy);have lkf:kf.length=lH.length:=by have:=congrArg List.length Dd;rw [ar,ar] at this;exact this
  have lfs:lH.length < 64:=qe lH ct.nd λy hy=>Uc _ (ct.snd y (.inl hy));refine⟨_,rfl,.inl ⟨rfl,_,aI.of eW⟩,Wa,_,.ref u,rfl,rfl,eW,yP,?_⟩;rw [List.dropLast_concat];have ND:aD H (upd H5 Wa (.lst (jq.map V.ref))):=ft WQ fW;have EV:upd H5 Wa (.lst (jq.map V.ref)) Fa=some (.dT kf):=by rw [aj Ot];exact eF
  have Pm:upd H5 Wa (.lst (jq.map V.ref)) Wa=some (.lst (jq.map V.ref)):=ae;have N7:Paired (i4 (upd H5 Wa (.lst (jq.map V.ref)))) jq Ad:=Paired.b9 Xe λ_ _ y=>cN eW (λ_ x=>by cases x) y;have JI:i4 (upd H5 Wa (.lst (jq.map V.ref))) u z:=cN eW (λ_ x=>by cases x) hz;generalize upd H5 Wa (.lst (jq.map V.ref))=H6 at ND EV Pm N7 JI;refine⟨_,rfl,_,rfl,Fa,_,rfl,cu.t (k:=ka z) EV JI,_,rfl,?_⟩;by_cases EA:z∈lH
  .rw [(kC kf (ka z) Dd).1 (qP.mpr EA)];refine iY ?_;exact⟨_,∅,jq,lH,Ad,_,_,_,_,rfl,ND,⟨kf,EV,Dd⟩,Pm,N7,Wv,ct.old EA,rfl,∅⟩
  have vn:=(kC kf (ka z) Dd).2 λy=>EA (qP.mp y);rw [vn];refine BI ?_;refine⟨_,rfl,_,rfl,Fa,_,rfl,jZ.t (k:=ka z) EV JI (br ∅),?_⟩;rw [kP _ vn];have Gd:aD H (upd H6 Fa 331):=ft ND fF;have Pp:upd H6 Fa 331 Fa=some 331:=ae;have JR:upd H6 Fa 331 Wa=some (.lst (jq.map V.ref)):=by rw [aj (d8 Ot)];exact Pm
  have N6:Paired (i4 (upd H6 Fa 331)) jq Ad:=Paired.b9 N7 λ_ _ y=>cN EV (λ_ x=>by cases x) y;have MQ:i4 (upd H6 Fa 331) u z:=cN EV (λ_ x=>by cases x) JI;generalize upd H6 Fa 331=H7 at Gd Pp JR N6 MQ;have Iw:(kf++[(ka z,V.bl true)]).map 87=(lH++[z]).map ka:=by rw [ba,ba,Dd];rfl
  have XW:lH.length+1 < 64:=by
   have:=qe (lH++[z]) (iN.mpr ⟨ct.nd,hU.mpr ⟨92,gI⟩,λa ha b hb e=>EA (by rw [<-bB.mp hb,<-e];exact ha)⟩) λy hy=>by
    rcases bP.mp hy with hy | hy
    .exact Uc _ (ct.snd y (.inl hy))
    exact Uc _ (ct.snd y (.inr (dJ _ hy)))
   rw [a8] at this;exact this
  refine⟨_,rfl,_,rfl,u,_,_,_,rfl,rfl,aZ.of MQ,rfl,R,z.1,rs,aa,rfl,Gd.seq hR,cM.same Gd,jX,zl,λpp H8 s8 ep=>?_⟩;have Kl:=Gd.trans s8;have Qi:aZ K H8 u (C1 (pZ z)):=aZ.of (s8 _ _ MQ);have ll:=a7 cM;have stop:∀(H9:Hp)(y7 y8 y9:Option V),aD H8 H9->(∀i,¬Ld aa z i)->∃m',m' < m/\∃(Fp:z0q)(fs ws:List Pl)(y6 Wo Wn Wm:Option V),[some (V.ref R),aE L,aE De,aE p,aE Fa,aE Wa,aE u,y7,y8,y9]=[some (V.ref R),aE L,aE De,aE p,aE Fa,aE Wa,y6,Wo,Wn,Wm]/\aD H H9/\(∃kf,H9 Fa=some (.dT kf)/\kf.map 87=fs.map ka)/\H9 Wa=some (.lst (Fp.map V.ref))/\Paired (i4 H9) Fp ws/\(∀z∈ws,z.1<=aa.length)/\An (qC aa bq ns) Xs ps fs ws []/\m'=(64 - fs.length) * 10000+ws.length/\ws.length<=100+fs.length * 8008:=λH9 y7 y8 y9 s9 no=>by
   have cn:=ct.new (new:=[]) (QJ:=[]) EA (λy hy=>nomatch hy) (λy r=>absurd r.1 (no _)) (λy r=>r.elim) (λq hq=>.inl hq) (λ_ _ _ _ r=>r);rw [dN] at cn;have Rv:=s8.trans s9;exact⟨_,by rw [a8];simp only [fU];omega,jq,lH++[z],Ad,_,_,_,_,rfl,Kl.trans s9,⟨_,Rv _ _ Pp,Iw⟩,Rv _ _ JR,Paired.b9 N6 λ_ _ y=>Rv _ _ y,Wv,cn,rfl,by rw [a8];simp only [fU];omega⟩
  refine⟨_,rfl,R,_,rfl,.inl (Kl.seq hR),(aa.length:Int),(by rw [ar,ll]),∅,∅,λD hD=>?_⟩;have tn:((aa.length:Int)).toNat=aa.length:=by omega
  refine qj (lo:=0) (λi ys σ2 H9=>ys=(yW aa ((dM aa z.1)[z.2.1]?) i).map (λk:Nat=>V.int (k:Int))/\(∃y0,σ2=[y0,aE R,aE pp,aE u])/\aD H8 H9/\H9 D=some (.lst ys)) ⟨rfl,⟨none,rfl⟩,af hD _,ae⟩ (λi ys σ2 H9 hi h=>?_) (λys σ2 H9 h=>?_)
  .obtain⟨rfl,⟨y0,rfl⟩,s9,T8⟩:=h;rw [tn] at hi;have U2:=Kl.trans s9;obtain⟨r,er,pr,v1,v2⟩:=Paired.at_ cM i _ (cZ hi);have ati:pQ 153 (0+(i:Int))=some (.ref r):=by rw [jc];exact cH (by rw [aX,er];rfl)
   have ln:=HS aa ((dM aa z.1)[z.2.1]?) i;refine goN ?_;refine⟨_,rfl,_,rfl,R,_,_,_,rfl,rfl,U2.seq hR,ati,r,_,_,_,rfl,rfl,U2.tup v1,rfl,?_⟩;refine⟨_,rfl,_,rfl,u,_,_,_,rfl,rfl,s9.tup Qi,rfl,_,rfl,_,rfl,u,_,_,_,rfl,rfl,s9.tup Qi,rfl,_,_,rfl,rfl,_,rfl,pp,_,rfl,s9.tup ep,λp2 HA sA eA=>?_⟩;have VX:aZ K HA p2 (((dM aa z.1)[z.2.1]?).toList.map V.str):=by
    rw [<-LO];exact eA
   refine⟨p2,_,rfl,.inr VX,rfl,bZ _,_,rfl,?_⟩;rw [au cX,dG];have eh:OU aa i=aa[i].1:=by unfold OU;rw [cZ hi]
   have RP:=Ek aa ((dM aa z.1)[z.2.1]?) i;rw [eh] at RP;have s9A:=s9.trans sA;refine b_ (λcc=>?_) (λcc=>?_)
   .rw [aw cc] at RP;refine⟨_,rfl,sA _ _ T8,219,by rw [RP,ba,jc];rfl,157,ft s9A hD,ae⟩
   rw [au cc,dN] at RP;exact⟨by rw [RP],157,s9A,sA _ _ T8⟩
  obtain⟨rfl,_,s9,T8⟩:=h;rw [tn] at T8;have Rv:=s8.trans s9;have U2:=Kl.trans s9;refine goN ?_
  ac_rfl
  refine⟨_,rfl,uq,λN2 hN2=>?_⟩;have kA:=af hN2 138;have M8:upd H9 N2 138 N2=some 138:=ae;generalize upd H9 N2 138=HA at kA M8;have I0:=kA _ _ T8;have s1A:=U2.trans kA;have WV:=s9.trans kA;have s7A:=Rv.trans kA;refine⟨D,N2,_,rfl,rfl,aI.of I0,aI.of M8,_,rfl,?_⟩;cases n6:(dM aa z.1)[z.2.1]? with
  | none =>
   rw [n6] at I0;rw [Eo] at I0 ⊢;refine iY ?_;exact stop HA _ _ _ WV λi ⟨nm,ru,h1,_,__1⟩=>by rw [n6] at h1;cases h1
  | some nm =>
   rw [n6] at I0;rw [El] at I0 ⊢;refine b_ (λcc=>?_) (λcc=>?_)
   .have Vh:i4 HA u z:=s7A _ _ MQ;refine⟨_,rfl,_,rfl,_,rfl,_,rfl,_,rfl,u,_,_,_,rfl,rfl,aZ.of Vh,rfl,_,_,rfl,rfl,_,rfl,pp,_,rfl,WV.tup ep,λp2 HB sB eB=>?_⟩;have ZX:aZ K HB p2 ((J0 aa z).map V.str):=by
     unfold J0;rw [<-vN];exact eB
    have P9:=s1A.trans sB;have U0:=s7A.trans sB;refine⟨_,rfl,u,_,_,_,rfl,rfl,aZ.of (sB _ _ Vh),rfl,R,L,De,p2,rs,us,aa,bq,ns,J0 aa z,z.2.2,rfl,P9.seq hR,cM.same P9,∅,P9.seq hL,Paired.b9 BM λ_ _ y=>P9.tup y,SN,P9.seq hE,ZX,?_,λL3 nu z8 fL qt eL ltx pF=>?_⟩
    .unfold J0;rw [mC];have:=xB h8 z.1;omega
    have UU:=P9.trans qt;have ZN:=qt _ _ (U0 _ _ Pp);have ZI:=qt _ _ (U0 _ _ JR);have ZR:=qt _ _ (sB _ _ I0);have Xd:Paired (i4 z8) jq Ad:=Paired.b9 N6 λ_ _ y=>qt _ _ (U0 _ _ y);have XF:L3≠Wa:=λy=>by rw [y,U0 _ _ JR] at fL;cases fL
    have nDW:D≠Wa:=λy=>by rw [y,s8 _ _ JR] at hD;cases hD
    refine⟨L3,rfl,⟨_,aI.of eL⟩,?_⟩;refine bQ (xs:=nu.map V.str) (λi σ HA=>∃(y9:Option V)(h_:z0q),σ=[aE R,aE L,aE De,aE p,aE Fa,aE Wa,aE u,aE pp,aE D,y9]/\aD H HA/\HA Fa=some 331/\HA D=some (.lst (((List.range aa.length).filter (zq aa nm)).map λk:Nat=>V.int (k:Int)))/\HA L3=some (.lst (nu.map V.str))/\HA Wa=some (.lst ((jq++h_).map V.ref))/\Paired (i4 HA) (jq++h_) (Ad++(nu.take i).flatMap (cD aa nm))) ⟨_,[],rfl,UU,ZN,ZR,eL,by rw [dN];exact ZI,by rw [dN];simpa using Xd⟩ ?_ ?_ ?_
    .rintro i σ HA _ ⟨y8,h_,rfl,_,_,_,LF,_⟩;exact aI.of LF
    .intro i x σ HA ex pG
     ac_nf0
     obtain⟨y8,h_,rfl,sA,Po,I0,LF,JQ,GY⟩:=pG;rw [aX] at ex;obtain⟨w1,ew,rfl⟩:=bT.mp ex;refine goN ?_
     ac_nf
     refine⟨_,rfl,.inl ⟨rfl,_,aI.of JQ⟩,_,rfl,D,rfl,⟨_,aI.of I0⟩,λD2 jL=>?_⟩;have lnk:=jy aa nm w1;have XT:((List.range aa.length).filter (zq aa nm)).length=(cD aa nm w1).length:=by unfold cD;rw [ar]
     refine bL (xs:=((List.range aa.length).filter (zq aa nm)).map λk:Nat=>V.int (k:Int)) (λj ys σ2 H2=>∃vs:z0q,ys=vs.map V.ref/\Paired (i4 H2) vs ((cD aa nm w1).take j)/\(∃y0,σ2=[y0,some (.str w1)])/\aD HA H2/\H2 D2=some (.lst ys)) ⟨[],rfl,.nil,⟨none,rfl⟩,af jL _,ae⟩ ?_ ?_ ?_
     .rintro j ys σ2 H2 _ ⟨vs,_,_,_,jt,_⟩;exact aI.of (jt _ _ I0)
     .rintro j x ys σ2 H2 iM ⟨vs,rfl,DT,⟨y0,rfl⟩,jt,oB⟩;obtain⟨k,ek,en⟩:∃k:Nat,x=V.int (k:Int)/\(cD aa nm w1)[j]?=some (k,0,w1):=by
       rw [aX] at iM;obtain⟨k,hk,e⟩:=bT.mp iM;exact⟨k,e.symm,by unfold cD;rw [aX,hk];rfl⟩
      subst ek;have lv:=a7 DT;rw [du] at lv;refine goN (uJ ?_);refine⟨_,rfl,_,rfl,Jy,λt ht=>?_⟩;have k3:=af ht (.tup [V.int (k:Int),V.int 0,V.str w1]);have et:i4 (upd H2 t (.tup [V.int (k:Int),V.int 0,V.str w1])) t (k,0,w1):=ae;generalize upd H2 t (.tup [V.int (k:Int),V.int 0,V.str w1])=H3 at k3 et;have lL:=k3 _ _ oB;refine⟨lL,219,vs++[t],by rw [ba];rfl,?_,157,ft (jt.trans k3) jL,ae⟩;rw [cK,en];exact fc (Paired.b9 DT λ_ _ y=>cN lL (λ_ x=>by cases x) (k3 _ _ y)) (cN lL (λ_ x=>by cases x) et)
     rintro ys σ2 H2 ⟨vs,rfl,DT,_,jt,oB⟩;rw [ar,XT,b0] at DT;have lv:=a7 DT;have XS:=a7 GY;have Pn:=jt _ _ JQ;have lfl:((nu.take i).flatMap (cD aa nm)).length<=8000:=by
      have h:∀l:z0t,(l.flatMap (cD aa nm)).length<=l.length * 8:=λl=>by
       induction l with
       | nil=>simp
       | cons a r ih=>rw [pT,a8,dI];have:=jy aa nm a;omega
      have h2:=h (nu.take i);rw [du] at h2;omega
     rw [a8,a8] at XS;refine⟨Wa,D2,_,_,rfl,rfl,Pn,oB,fits (by rw [ar,ar,a8];omega),?_⟩;have kW:∀y o,y≠Wa->H2 y=some o->upd H2 Wa (.lst ((jq++h_).map V.ref++vs.map V.ref)) y=some o:=λy o ny hy=>by rw [aj ny];exact hy
     refine⟨_,h_++vs,rfl,λb o hb=>kW b o (λy=>by rw [y,fW] at hb;cases hb) (jt _ _ (sA b o hb)),kW _ _ Ot (jt _ _ Po),kW _ _ nDW (jt _ _ I0),kW _ _ XF (jt _ _ LF),by rw [ae,<-ba,iA],?_⟩;rw [<-iA,cK,ew,rG,<-iA];refine Paired.LU (Paired.b9 GY λ_ _ y=>cN Pn (λ_ x=>by cases x) (jt _ _ y)) ?_;have:(some w1).toList.flatMap (cD aa nm)=cD aa nm w1:=92
     rw [this];exact Paired.b9 DT λ_ _ y=>cN Pn (λ_ x=>by cases x) y
    rintro σ HA ⟨y8,h_,rfl,sA,Po,I0,LF,JQ,GY⟩;rw [ar,b0] at GY;have ln:((nu.flatMap (cD aa nm))).length<=8000:=by
     have:∀l:z0t,(l.flatMap (cD aa nm)).length<=l.length * 8:=λl=>by
      induction l with
      | nil=>simp
      | cons a r ih=>rw [pT,a8,dI];have:=jy aa nm a;omega
     have:=this nu;omega
    have cn:=ct.new (new:=nu.flatMap (cD aa nm)) (QJ:=[]) EA (λy hy=>?_) (λy r=>?_) (λy r=>r.elim) (λq hq=>.inl hq) (λ_ _ _ _ r=>r)
    .refine⟨_,?_,jq++h_,lH++[z],Ad++nu.flatMap (cD aa nm),_,_,_,_,rfl,sA,⟨_,Po,Iw⟩,JQ,GY,λy hy=>?_,cn,rfl,?_⟩
     .rw [a8,a8];simp only [fU];omega
     .rcases bP.mp hy with hy | hy
      .exact Wv y hy
      obtain⟨w,hw,h2⟩:=jm.mp hy;obtain⟨e,l⟩:=(ph n6).mp h2;exact lN ((xK n6 _).mp l).1
     rw [a8,a8];simp only [fU];omega
    .obtain⟨w,hw,h2⟩:=jm.mp hy;obtain⟨e,l⟩:=(ph n6).mp h2;exact .inl ⟨l,by rw [e],by rw [e];exact(pF w).mp hw⟩
    exact jm.mpr ⟨y.2.2,(pF _).mpr r.2.2,(ph n6).mpr ⟨gQ r.2.1 rfl,r.1⟩⟩
   refine stop HA _ _ _ WV λi l=>cc ?_;obtain⟨h1,h2⟩:=(xK n6 i).mp l;have:i∈(List.range aa.length).filter (zq aa nm):=gw.mpr ⟨j6.mpr h1,h2⟩;cases e:(List.range aa.length).filter (zq aa nm) with
   | nil=>rw [e] at this;cases this
   | cons a r=>rfl
 have BM:Fp=[]:=by
  cases Fp with
  | nil=>rfl
  | cons a l=>exact absurd rfl c
 have Lh:ws=[]:=by
  have:=pw;rw [BM] at this;cases this;rfl
 subst BM Lh;refine⟨_,rfl,Fa,kf,lH.map pZ,rfl,eF,by rw [Dd,ff];rfl,?_,λL2 rX uo fL pr pm Rl=>?_⟩
 .rw [ar];exact qe lH ct.nd λy hy=>Uc _ (ct.snd y (.inl hy))
 obtain⟨h2,o6,RI⟩:=pX pr pm;have sL:=af fL (.lst (rX.map V.ref));refine q L2 rX (uo.map pN) _ (none_of WQ fL) (WQ.trans sL) ae (Paired.b9 o6 λ_ _ y=>sL _ _ y) (by rw [<-h2];exact Rl) (RI.nodup_iff.mpr ct.nd) λy=>?_;rw [RI.mem_iff,ct.done];exact⟨Uc y,λc=>c.mono (λa b h=>.inl h) λz hz=>.base hz⟩
end
def EU {aa:88}{x:Str}(hx:x∈cf false aa):Em aa x:=by
 have all:∀(n i:Nat)(h:Str),i < n->(cf false aa)[i]?=some h->Em aa h:=by
  intro n
  induction n with
  | zero=>intro i h l;omega
  | succ n ih =>
   intro i h l e;obtain⟨dq,a,b⟩:=(ot false aa).ord i h e;exact Em.mk (ru:=(h,dq)) a λp hp=>by
    rcases b p hp with q | q
    .obtain⟨j,lj,ej⟩:=wY q;exact ih j p ∅ ej
    cases q.1
 obtain⟨i,e⟩:=gR hx;exact all (i+1) i x ∅ e
def LD {aa:88}{aL:z0h}(h:uj aa aL)(c:qE aa aa.length aL)(x:Str):x∈aL.map 87↔x∈cf false aa:=by
 constructor
 .exact λhx=>tP (IY h x hx)
 intro hx;have e:=EU hx;clear hx
 induction e with
 | mk hr _ ih=>exact c _ (by rw [b0];exact hr) ih
def Gm {aa:88}{aL:z0h}{aW:List Be}{G3:z0i}(emp:uj aa aL)(mW:qE aa aa.length aL)(Jg:ux aa (hd aa) 328 aW)(zU:Ab aa (hd aa) 328 aa.length aW)
  (pF:∀x,x∈G3↔iJ aa (cf false aa) x.2 x.1)(a b:Pl):zY aa aL aW a b↔qC aa G3 (cf false aa) a b:=by
 have Ph:=LD emp mW;have bin:∀y,y∈bq aW↔y∈G3:=λy=>⟨λh=>(pF y).mpr ((vY Jg y h).congr λz hz=>(Ph z).mp hz),λh=>iJ.in_ (E7 zU) (((pF y).mp h).congr λz hz=>(Ph z).mpr hz)⟩;have eE:K0 aL=λz=>decide (z∈cf false aa):=funext λz=>by
  show decide (z∈aL.map 87)=_;rw [jl,decide_eq_true_iff,decide_eq_true_iff,Ph]
 have ew:∀w z,w∈jd (hd aa) aW z↔w∈Fo aa G3 z:=λw z=>by
  unfold jd Fo;by_cases c:z∈hm aa
  .rw [aw c,aw (me.mp c),pH,zg,bin]
  rw [au c,au (λy=>c (me.mpr y))]
 have lk:∀zs w,PU (hd aa) aW (K0 aL) zs w↔∃j z,zs[j]?=some z/\(∀x∈zs.take j,x∈cf false aa)/\w∈Fo aa G3 z:=λzs w=>by
  rw [eE];unfold PU;constructor
  .rintro⟨j,z,h1,h2,h3⟩;exact⟨j,z,h1,λx hx=>cR (((xS _ zs j).mp h2).2 x hx),(ew w z).mp h3⟩
  rintro⟨j,z,h1,h2,h3⟩;exact⟨j,z,h1,(xS _ zs j).mpr ⟨(bu.mp h1).1,λx hx=>cv (h2 x hx)⟩,(ew w z).mpr h3⟩
 have al:∀zs:z0t,zs.all (K0 aL)=true↔∀x∈zs,x∈cf false aa:=λzs=>by
  rw [eE,eG];exact⟨λh x hx=>cR (h x hx),λh x hx=>cv (h x hx)⟩
 unfold zY LZ uR qC AhL;constructor
 .rintro(⟨h1,h2,h3,h4⟩ | ⟨h1,h2,h3⟩)
  .exact⟨h1,h2,.inr ⟨h3,(al _).mp h4⟩⟩
  exact⟨h1,h2,.inl ((lk _ _).mp h3)⟩
 rintro⟨h1,h2,h3 | ⟨h3,h4⟩⟩
 .exact .inr ⟨h1,h2,(lk _ _).mpr h3⟩
 exact .inl ⟨h1,h2,h3,(al _).mpr h4⟩
def PH {aa:88}{p:Pl}{x:Str}(h:x∈J0 aa p):∃ru∈aa,x∈ru.2:=by
 unfold J0 dM at h
 split at h
 .rename_i ru e
  exact⟨ru,cE e,List.mem_of_mem_drop h⟩
 split at h
 .rw [Ap (by show 1<=_;omega)] at h;cases h
 rw [List.drop_nil] at h;cases h
def yC {aa:88}{bq:z0i}{ns:z0t}(hb:∀x∈bq,iJ aa ns x.2 x.1){a b:Pl}(h:qC aa bq ns a b):b.1 < aa.length/\b.2.1=0/\(b.2.2=a.2.2\/(b.2.2∉hm aa/\∃ru∈aa,b.2.2∈ru.2)):=by
 obtain⟨⟨nm,ru,h1,h2,h3⟩,h4,h5⟩:=h;refine⟨(bu.mp h2).1,h4,?_⟩;rcases h5 with ⟨j,z,e1,_,e3⟩ | ⟨e1,_⟩
 .refine .inr ?_;unfold Fo at e3;by_cases c:z∈hm aa
  .rw [aw c] at e3;exact(hb _ (zg.mp e3)).text
  rw [au c] at e3;rw [bB.mp e3];exact⟨c,PH (cE e1)⟩
 exact .inl e1
def Fh.Zl {c:Int}{aa:88}(g:Fh c aa){bq:z0i}{ns:z0t}(hb:∀x∈bq,iJ aa ns x.2 x.1){ps:List Pl}(lp:ps.length<=4)(l:List Pl)(nd:l.Nodup)(h:∀z∈l,qX (qC aa bq ns) ps z):l.length < 64:=by
 obtain⟨cC,nk,gi,cs⟩:=g.tx;have gl:=mV c;have n5:=nk.O8;have m8:=g.most;rcases cs with cs | cs
 .have:=tM (n:=aa.length) (ts:=cC++eY c) (λa b r=>by
   obtain⟨x1,x2,x3⟩:=yC hb r;exact⟨x1,x2,x3.imp id λ⟨_,ru,hr,hw⟩=>(gi ru hr).2.2 _ hw⟩) l nd h
  have h2:aa.length * (ps.length+(cC++eY c).length)<=4 * 12:=Nat.mul_le_mul cs (by rw [a8];omega);omega
 have:=tM (n:=aa.length) (ts:=eY c) (λa b r=>by
  obtain⟨x1,x2,x3⟩:=yC hb r;refine⟨x1,x2,x3.imp id λbI=>?_⟩;obtain⟨hn,ru,hr,hw⟩:=bI;rcases bP.mp ((gi ru hr).2.2 _ hw) with q | q
  .exact absurd (cs _ q) hn
  exact q) l nd h
 have h2:aa.length * (ps.length+(eY c).length)<=8 * 7:=Nat.mul_le_mul m8 ∅;omega
section
def CF (K:bp):Sp:=λvs H Q _=>∃(R:Addr) (c:Int)(rs:z0q)(aa:88),vs=[.ref R,.int c]/\aI K H R 153/\bM K H rs aa/\aa≠[]/\∀(t:Addr)(z:Pl)(H':Hp),H t=none->aD H H'->i4 H' t z->z.1<=aa.length->z.2.1<=(dM aa z.1).length->Q (.ref t) H'
def xf:aK ["_law_rules","_law_cell","_law_number","_law_dot"] ["_law_rules","_law_cell"] (ay AW):=163
def Hq (F:iz K "_law_place" "_law_place" AW f fd)(T:Txt mg)(GP:aF P w K mg base 1 "_law_parts" ["_law_rules","_law_number"] (nH K)):bR P w K mg base fI 2 f fd ["_law_rules","_law_cell"] (CF K):=by
 refine F.ok xf 184 186
 .obtain⟨R,c,rs,aa,rfl,_⟩:=h;rfl
 obtain⟨R,c,rs,aa,rfl,hR,cM,jX,q⟩:=h;refine⟨_,ag (aA (i:=2) xf.nd rfl 90 (aN de (pv 1) (aN df (aP aU rfl T.len d_ (ab 91 ak)) av)))
  (ag (aA (i:=3) xf.nd rfl 90 (aN de (aN cY (pv 1) av) (aN df (aP aU rfl T.len d_ (ab (bC GP hr rfl (ab 91 (ab (pv 2) ak))) ak)) av)))
  (ao (bw (bX (ab (pv 2) (ab (pv 3) (ab (@a_ _ _ _ _ _ _ _ cO (@bK _ _ _ _ (@ab _ _ _ _ _ cq (@ab _ _ _ _ _ cq (@ab _ _ _ _ _ cq (@ab _ _ _ _ _ cq (@ak _) rfl) rfl) rfl) rfl)) (aN de (aN cY (pv 1) av) av) 142) ak))))))),?_⟩
 dsimp only [uM];have ll:=a7 cM;refine⟨_,rfl,_,rfl,R,_,rfl,.inl hR,_,_,rfl,rfl,_,_,rfl,rfl,∅,?_⟩;rw [ar,ll];obtain⟨n,hn⟩:∃n:Nat,c % ((aa.length:Int)+1)=(n:Int):=⟨(c % ((aa.length:Int)+1)).toNat,by have:=Int.emod_nonneg c (show ((aa.length:Int)+1)≠0 by omega);omega⟩;have Fw:n<=aa.length:=by have:=wt c (show 0 < ((aa.length:Int)+1) by omega);omega
 dsimp only;rw [hn];refine⟨_,rfl,_,_,rfl,rfl,⟨nofun,nofun⟩,_,rfl,_,rfl,R,n,rs,aa,rfl,hR,cM,jX,Fw,λpp H1 s1 ep=>?_⟩;refine⟨pp,_,rfl,.inr ep,_,_,rfl,rfl,_,_,rfl,rfl,∅,?_⟩;rw [ar];obtain⟨d,hd2⟩:∃d:Nat,c / 8 % (((dM aa n).length:Int)+1)=(d:Int):=⟨(c / 8 % (((dM aa n).length:Int)+1)).toNat,by have:=Int.emod_nonneg (c / 8) (show (((dM aa n).length:Int)+1)≠0 by omega);omega⟩;have i5:d<=(dM aa n).length:=by have:=wt (c / 8) (show 0 < (((dM aa n).length:Int)+1) by omega);omega
 dsimp only;rw [hd2];refine⟨_,rfl,_,rfl,Wi,λW hW=>?_⟩;have k2:=af hW (.lst [V.str "",V.str "a",V.str "b",V.str "zz"]);have eW:aI K (upd H1 W (.lst [V.str "",V.str "a",V.str "b",V.str "zz"])) W [V.str "",V.str "a",V.str "b",V.str "zz"]:=aI.of ae;generalize upd H1 W (.lst [V.str "",V.str "a",V.str "b",V.str "zz"])=H2 at k2 eW;obtain⟨m,hm4⟩:∃m:Nat,c / 32 % 4=(m:Int):=⟨(c / 32 % 4).toNat,∅⟩;have lm:m < 4:=by omega
 obtain⟨tx,htx⟩:∃tx:Str,([V.str "",V.str "a",V.str "b",V.str "zz"]:List V)[m]?=some (.str tx):=by
  match m,lm with
  | 0,_=>exact 157
  | 1,_=>exact 157
  | 2,_=>exact 157
  | 3,_=>exact 157
 refine⟨_,rfl,_,_,rfl,rfl,⟨nofun,nofun⟩,_,_,rfl,rfl,nofun,?_⟩;dsimp only;rw [hm4];refine⟨W,_,_,_,rfl,rfl,eW,cH htx,Jy,λt ht=>?_⟩;have A6:=s1.trans k2;exact q t (n,d,tx) _ (none_of A6 ht) (A6.trans (af ht _)) ae Fw i5
end
abbrev AZ:Stmt:=top 11
def uw (aa:88)(pt:Str)(z:Pl):Bool:=decide ((dM aa z.1)[z.2.1]?=some pt)
def sU (z:Pl):Pl:=(z.1,z.2.1+1,z.2.2)
def y_ (aa:88)(pt:Str)(ps:List Pl):List Pl:=(ps.filter (uw aa pt)).map sU
section
def CH (K:bp)(C Cg:Addr):Sp:=λvs H Q _=>∃(g p:Addr)(pt:Str)(ts:z0q)(ps:List Pl)(aa:88)(aL:z0h)(aW:List Be),vs=[.ref g,.ref p,.str pt]/\Mc K C Cg H g aa aL aW/\aa≠[]/\aa.length<=8/\329/\aW.length<=63/\aI K H p (ts.map V.ref)/\Paired (i4 H) ts ps/\ps.length<=100/\(∀l:List Pl,l.Nodup->(∀z∈l,qX (zY aa aL aW) (y_ aa pt ps) z)->l.length < 64) /\
 ∀(L:Addr)(us:z0q)(zs:List Pl)(H':Hp),H L=none->aD H H'->H' L=some (.lst (us.map V.ref))->Paired (i4 H') us zs->JX JC (zs.map pZ)->zs.Nodup->(∀z,z∈zs↔qX (zY aa aL aW) (y_ aa pt ps) z)->Q (.ref L) H'
def CQ:aK ["grammar","places","part","met"] ["grammar","places","part"] (ay AZ):=163
def Ht {C Cg:Addr}(F:iz K "moved_list" "moved_list" AZ f fd)(T:Txt mg)(GPA:aF P w K mg base 4 "part_at" ["grammar","place"] (sj K C Cg))(GCL:aF P w K mg base 4 "closed_list" ["grammar","places"] (yF K C Cg)):bR P w K mg base fI 5 f fd ["grammar","places","part"] (CH K C Cg):=by
 refine F.ok CQ 184 186
 .obtain⟨g,p,pt,ts,ps,aa,aL,aW,rfl,_⟩:=h;rfl
 obtain⟨g,p,pt,ts,ps,aa,aL,aW,rfl,gv,jX,r8,h8,Tv,hp,EC,R8,qe,q⟩:=h;refine⟨_,ag (gG (iy:=3) ["place"] [(0,"grammar"),(2,"part")] CQ.nd rfl rfl rfl (aR (pv 1)) 162 nofun rfl nofun
   (λ_ _ _ _ _=>aq (i:=0) (show (["place","grammar","part"]:z0t).Nodup by decide +kernel) rfl 90)
   (λ_ _ _ _ _=>fM (bc jx (bC GPA hr rfl (ab (pv 1) (ab 91 ak))) (pv 2) (cA _))) (λ_ _ _ _ _=>pv 0))
  (ao (bw (bC GCL hr rfl (ab 91 (ab (aT ["rule","dot","ahead"] [] rfl (aR (pv 3)) 162 nofun rfl nofun
   (λ_ _ _ _ _=>di (n:=3) K rfl (az (aq (i:=0) (show (["rule","dot","ahead"]:z0t).Nodup by decide +kernel) rfl 90) (az (aq (i:=1) (show (["rule","dot","ahead"]:z0t).Nodup by decide +kernel) rfl 90) (az (aq (i:=2) (show (["rule","dot","ahead"]:z0t).Nodup by decide +kernel) rfl 90) bE))))
   220 (λ_ _ _ _ _=>bX (ab 91 (ab (aN df (pv 1) av) (ab (pv 2) ak))))) ak))))),?_⟩
 dsimp only [uM];have Qe:=a7 EC;refine⟨_,rfl,p,rfl,⟨_,hp⟩,λD hD=>?_⟩;refine bL (xs:=ts.map V.ref) (λi ys σ2 H2=>∃kK:z0q,ys=kK.map V.ref/\Paired (i4 H2) kK ((ps.take i).filter (uw aa pt))/\(∃y0,σ2=[y0,aE g,some (.str pt)])/\370) ⟨[],rfl,.nil,⟨none,rfl⟩,af hD _,ae⟩ ?_ ?_ ?_
 .rintro i ys σ2 H2 _ ⟨kK,_,_,_,s2,_⟩;exact s2.seq hp
 .rintro i x ys σ2 H2 ex ⟨kK,rfl,p2,⟨y0,rfl⟩,s2,eD⟩;rw [aX] at ex;obtain⟨t,et,rfl⟩:=bT.mp ex;have li:=(bu.mp et).1;obtain⟨z,ez⟩:∃z,ps[i]?=some z:=⟨_,cZ ∅⟩;obtain⟨t',IU,pz⟩:=Paired.at_ EC i z ez;rw [et] at IU;cases IU;have tk:=ip (uw aa pt) ez;have l2:=a7 p2;have lf:((ps.take i).filter (uw aa pt)).length<=100:=fJ (iC _ _) (by rw [du];omega);refine goN ?_;refine⟨_,rfl,_,rfl,g,t,z,aa,aL,aW,rfl,gv.same s2,jX,aZ.of (s2 _ _ pz),λH3 s3=>?_⟩;have Fq:=s2.trans s3;have lL:=s3 _ _ eD;have p3:Paired (i4 H3) kK ((ps.take i).filter (uw aa pt)):=Paired.b9 p2 λ_ _ y=>s3 _ _ y;have yes:uw aa pt z=true->H3 D=some (.lst (kK.map V.ref))/\(kK.map V.ref).length < sizeLine/\∃yz:z0q,kK.map V.ref++[V.ref t]=yz.map V.ref/\Paired (i4 (upd H3 D (.lst (kK.map V.ref++[V.ref t])))) yz ((ps.take (i+1)).filter (uw aa pt))/\aD H (upd H3 D (.lst (kK.map V.ref++[V.ref t]))):=λc=>by
   refine⟨lL,219,kK++[t],by rw [ba];rfl,?_,ft Fq hD⟩;rw [tk,aw c];exact fc (Paired.b9 p3 λ_ _ y=>cN lL (λ_ x=>by cases x) y) (cN lL (λ_ x=>by cases x) (Fq _ _ pz))
  have no:uw aa pt z=false->Paired (i4 H3) kK ((ps.take (i+1)).filter (uw aa pt)):=λc=>by
   rw [tk,c,au cX,dN];exact p3
  cases n6:(dM aa z.1)[z.2.1]? with
  | none =>
   refine⟨_,rfl,rfl,_,rfl,?_⟩;refine iY ?_;exact⟨kK,rfl,no (by unfold uw;rw [n6];rfl),157,Fq,lL⟩
  | some nm =>
   refine⟨_,rfl,rfl,_,rfl,?_⟩;refine b_ (λcc=>?_) (λcc=>?_)
   .have e:nm=pt:=by have:=cR cc;injection this
    obtain⟨h1,h2,yz,h3,h4,h5⟩:=yes (by unfold uw;rw [n6,e];exact cv rfl);exact⟨_,rfl,h1,h2,yz,h3,h4,157,h5,ae⟩
   refine⟨kK,rfl,no ?_,157,Fq,lL⟩;unfold uw;rw [n6];exact dU λe=>cc (by rw [gJ e];exact cv rfl)
 rintro ys σ2 H2 ⟨kK,rfl,p2,_,s2,eD⟩;rw [ar,Qe,b0] at p2;have l2:=a7 p2;have lf:(ps.filter (uw aa pt)).length<=100:=fJ (iC _ _) R8;refine goN ?_;refine⟨_,rfl,_,rfl,D,rfl,⟨_,aI.of eD⟩,λD3 JM=>?_⟩;refine bL (xs:=kK.map V.ref) (λi ys σ2 H3=>∃yz:z0q,ys=yz.map V.ref/\Paired (i4 H3) yz (((ps.filter (uw aa pt)).take i).map sU)/\(∃y0 y1 y2,σ2=[y0,y1,y2])/\aD H2 H3/\H3 D3=some (.lst ys)) ⟨[],rfl,.nil,⟨none,none,none,rfl⟩,af JM _,ae⟩ ?_ ?_ ?_
 .rintro i ys σ2 H3 _ ⟨yz,_,_,_,s3,_⟩;exact s3.seq (aI.of eD)
 .rintro i x ys σ2 H3 ex ⟨yz,rfl,p3,⟨y0,y1,y2,rfl⟩,s3,lL⟩;rw [aX] at ex;obtain⟨t,et,rfl⟩:=bT.mp ex;have li:=(bu.mp et).1;obtain⟨z,ez⟩:∃z,(ps.filter (uw aa pt))[i]?=some z:=⟨_,cZ ∅⟩;obtain⟨t',IU,pz⟩:=Paired.at_ p2 i z ez;rw [et] at IU;cases IU;have l3:=a7 p3;rw [ar,du] at l3;refine⟨t,_,rfl,aZ.of (s3 _ _ pz),rfl,_,_,rfl,_,_,rfl,_,_,rfl,rfl,?_⟩;refine uJ ?_;refine⟨_,rfl,_,rfl,_,_,rfl,rfl,_,rfl,Jy,λt4 zu=>?_⟩;have k4:=af zu (.tup [V.int (pZ z).1,V.int ((pZ z).2.1+1),V.str (pZ z).2.2]);have e4:i4 (upd H3 t4 (.tup [V.int (pZ z).1,V.int ((pZ z).2.1+1),V.str (pZ z).2.2])) t4 (sU z):=ae;generalize upd H3 t4 (.tup [V.int (pZ z).1,V.int ((pZ z).2.1+1),V.str (pZ z).2.2])=H4 at k4 e4;have JS:=k4 _ _ lL;refine⟨JS,219,yz++[t4],by rw [ba];rfl,?_,⟨_,_,_,rfl⟩,ft (s3.trans k4) JM,ae⟩;rw [cK,ez,ba];exact fc (Paired.b9 p3 λ_ _ y=>cN JS (λ_ x=>by cases x) (k4 _ _ y)) (cN JS (λ_ x=>by cases x) e4)
 rintro ys σ2 H3 ⟨yz,rfl,p3,_,s3,lL⟩;rw [ar,l2,b0] at p3;have Fq:=s2.trans s3;refine⟨g,D3,yz,y_ aa pt ps,aa,aL,aW,rfl,gv.same Fq,jX,r8,h8,Tv,aI.of lL,p3,by unfold y_;rw [ar];exact lf,qe,λL us zs H5 fL s5 eL pL sL nd pF=>?_⟩;exact q L us zs H5 (none_of Fq fL) (Fq.trans s5) eL pL sL nd pF
end
abbrev NO:Stmt:=top 60
def Z6 (ns:z0u)(lo hi:z0p):∃cs:z0u,g_ (ns.map V.int) lo hi=cs.map V.int/\cs.length<=ns.length:=by
 refine⟨(ns.drop (HT.fR (ns.map V.int).length 0 lo)).take (HT.fR (ns.map V.int).length (ns.map V.int).length hi - HT.fR (ns.map V.int).length 0 lo),?_,?_⟩
 .unfold g_;rw [mr,List.map_drop]
 rw [du,mC];omega
def QX {A:Around}{k n:Nat}(hr:gF k A)(h:n<=16 * k+200):A.units+n < cLine:=by have:=hr.un;omega
def NC {a b:List Pl}(ha:JX JC (a.map pZ))(hb:JX JC (b.map pZ))(na:a.Nodup)(nb:b.Nodup)(h:∀z,z∈a↔z∈b):a=b:=by
 have p:a.Perm b:=(List.perm_ext_iff_of_nodup na nb).mpr h;have e:=r9 C4 ha hb (p.map _);have e2:=congrArg (List.map pN) e;rw [ff,ff,show (pN ∘ pZ)=id from rfl,List.map_id,List.map_id] at e2;exact e2
theorem mX {K:bp}{H:Hp}:∀{as bs:z0q}{zs:List Pl},Paired (i4 H) as zs->Paired (i4 H) bs zs->Paired (Md K H 1) (as.map V.ref) (bs.map V.ref)
 | _,_,_,.nil,.nil=>.nil
 | _,_,_,.cons a t,.cons b u=>.cons (.inr ⟨_,_,_,_,rfl,rfl,.inr ⟨aZ.of a,aZ.of b⟩,.cons (Md.self (.inl rfl) 0) (.cons (Md.self (.inl rfl) 0) (.cons (Md.self (.inl rfl) 0) .nil))⟩) (mX t u)
section
def CI (K:bp)(T1 T2 T3:Addr):Sp:=λvs H Q _=>∃(a:Addr)(ns:z0u),vs=[.ref a]/\aI K H a (ns.map V.int)/\ns.length<=63/\Dy T1 T2 T3 H/\∀H',Q (.bl true) H'
def iR:aK ["_law_script","_law_rules","_law_grammar_here","_law_pairs","_law_empty","_law_some","_law_cell","_law_places","_law_part","_law_on","_law_number","_law_dot","_law_ahead_here","_law_held","_law_found"] ["_law_script"] (ay NO):=163
def Oi {Cg C T1 T2 T3 fG:Addr}{fdG:FuncData}(F:iz K "law" "law" NO f fd)(T:Txt mg)
  (GG:aF P w K mg base 8 "_law_grammar" ["_law_script","_law_at"] (F7 K))(GB:aF P w K mg base 8 "_law_begins" ["_law_rules"] (yH K))(GE:aF P w K mg base 8 "_law_ended" ["_law_rules","_law_words_here"] (qG K))(GPl:aF P w K mg base 8 "_law_place" ["_law_rules","_law_cell"] (CF K))(GLC:aF P w K mg base 8 "_law_closed" ["_law_rules","_law_pairs","_law_empty","_law_places"] (vb K))(GML:aF P w K mg base 8 "moved_list" ["grammar","places","part"] (CH K C Cg))(GLP:aF P w K mg base 8 "_law_parts" ["_law_rules","_law_number"] (nH K))
  (G:GC K Cg)(MG:Mk K Cg fG)(FG:bR P w K mg base fI 7 fG fdG ["self","rules","strengths"] (CK K Cg C T1 T2 T3))(B1:Binds K fdG ["self","rules","strengths"] [.none])(mG:mg "Grammar"=some (.ref Cg)):bR P w K mg base fI 9 f fd ["_law_script"] (CI K T1 T2 T3):=by
 refine F.ok iR 184 186
 .obtain⟨a,ns,rfl,_⟩:=h;rfl
 obtain⟨S,ns,rfl,hS,hl,hT,q⟩:=h;have Qk:=QX (n:=1+1) hr nofun;refine⟨_,ag (aA (i:=1) iR.nd rfl (Or.inr rfl) (bC GG hr rfl (ab 91 (ab av ak))))
  (ag (aA (i:=2) iR.nd rfl 90 (xC (dvs:=[.fu]) MG FG hr rfl mG B1 (.cons rfl .nil) lW (ab (bN gq rfl T.lst gB (ab (pv 1) ak)) ak)))
  (ag (aA (i:=3) iR.nd rfl 90 (bC GB hr rfl (ab (pv 1) ak)))
  (ag (aA (i:=4) iR.nd rfl 90 (bC GE hr rfl (ab (pv 1) (ab fY ak))))
  (ag (aA (i:=5) iR.nd rfl 90 (aN jh (@bK _ _ _ _ (@ab _ _ _ _ _ cq (@ab _ _ _ _ _ cq (@ab _ _ _ _ _ cq (@ab _ _ _ _ _ cq (@ak _) rfl) rfl) rfl) rfl)) (aT ["_law_head","_law_parts_here"] [] rfl (aR (pv 1)) 162 nofun rfl nofun
   504 220 (λ_ _ _ _ _=>pv 0))))
  (ag (bJ bW rfl (aR (aN jh (dX xc 91 (eU av) (eU av)) (bK (ab av ak)))) (aq (i:=6) iR.nd rfl (Or.inr rfl))
   (ag (gG (iy:=7) ["_law_k"] [(1,"_law_rules"),(6,"_law_cell")] iR.nd rfl rfl rfl (ie rfl T.Fs (ab (aN df av (aN de (pv 6) av)) ak)) 162 nofun rfl nofun
    (λ_ _ _ _ _=>aq (i:=0) (show (["_law_k","_law_rules","_law_cell"]:z0t).Nodup by decide +kernel) rfl 90) 220
    (λ_ _ _ _ _=>bC GPl hr rfl (ab (pv 1) (ab (aN cY (aN cY (pv 2) av) (aN df av (aN Hj av 91))) ak))))
   (ag (aA (i:=8) iR.nd rfl 90 (a_ cO (pv 5) (aN de (aN de (aN cY (pv 6) av) av) (aP aU rfl T.len d_ (ab (pv 5) ak))) 142))
   (ag (aA (i:=9) iR.nd rfl 90 (bK ak))
   (ag (bJ bW rfl (aR (pv 7)) (gu rfl (az (aq (i:=10) iR.nd rfl 90) (az (aq (i:=11) iR.nd rfl 90) (az (aq (i:=12) iR.nd rfl 90) bE))))
    (ao (cy (bc jx (a_ bF (aN qK (bC GLP hr rfl (ab (pv 1) (ab (pv 10) ak))) (bX (ab G8 ak))) (pv 11) 142) (pv 8) (cA _))
     (ao (cU (gZ gA iD iE cx (pv 9) (ab (bX (ab (pv 10) (ab (aN df (pv 11) av) (ab (pv 12) ak)))) ak)))) bf)))
   (ag (aA (i:=13) iR.nd rfl 90 (bN gq rfl T.lst gB (ab (pv 7) ak)))
   (ag (aA (i:=14) iR.nd rfl 90 (bC GML hr rfl (ab (pv 2) (ab (pv 7) (ab (pv 8) ak)))))
   (ao (cy (PW.pt (GX (G0 (gW (aP x8 rfl T.isi PyProof.Rows.boot_isinstance (ab (pv 14) (ab (KA (v:=.ty "list") rfl T.lst gB rfl) ak))))) (GX (bc (sS 1 Qk) (pv 14) (bC GLC hr rfl (ab (pv 1) (ab (pv 3) (ab (pv 4) (ab (pv 9) ak))))) (cA _)) (GU (bc (sS 1 Qk) (pv 7) (pv 13) (cA _)))))) (ao (bw fY)) bf)))))))))
  (ao (bw fY))))))),?_⟩
 dsimp only [uM];refine⟨_,rfl,S,ns,0,rfl,hS,∅,λc R rs aa H1 hc f0 s1 eR rl go=>?_⟩;obtain⟨rk,bb,gd⟩:=go.good;obtain⟨cC,nk,i6⟩:=go.ins;have l1:=go.one;have l8:=go.most;have h8:∀ru∈aa,ru.2.length<=8:=λru h=>by have:=(i6 ru h).2.1;omega
 have qw:Small aa:=⟨l1,∅,λru h=>(i6 ru h).2.1⟩;have jX:aa≠[]:=λz=>by rw [z] at l1;cases l1
 refine⟨_,rfl,R,_,rfl,.inl (aI.of eR),λR3 hR3=>?_⟩;have k3:=af hR3 (.lst 153);have ZK:upd H1 R3 (.lst 153) R3=some (.lst 153):=ae;generalize upd H1 R3 (.lst 153)=H3 at k3 ZK;have NU:=s1.trans k3;have t3:=hT.same NU;have Ry:=rl.same k3;have T5:=k3 _ _ eR;intro g x hg hx nx;refine⟨H3,g,x,R3,.fu,rs,[],aa,[],rk,bb,rfl,(af hx _).trans (af (by rw [aj nx.symm];exact hg) _),hg,ae,aI.of ZK,Ry,∅,h8,jX,.inl ⟨rfl,rfl,rfl⟩,92,λru h=>(by cases h),92,gd,t3,λbt H5 s5 t5 gv btv=>⟨rfl,?_⟩⟩;have Vd:=Kp.of3 s5 t3;have Mr:=Vd.aa Ry;have VS:=Vd.lst T5;have hS5:aI K H5 S (ns.map V.int):=Vd.seq (NU.seq hS);clear s5 t5 t3 Ry T5 k3 ZK;obtain⟨aL,aW,bv⟩:=btv;have gA5:Mc K C Cg H5 g aa aL aW:=⟨H3,rs,[],bt,gv,Mr,bv⟩;have V1:=bv.Jg.nd;have lbe:aW.length<=63:=by have:=go.O_ _ (bq aW) V1 (vY bv.Jg);unfold bq at this;rw [ar] at this;exact this
 refine⟨_,rfl,R,rs,aa,rfl,aI.of VS,Mr,qw,go.O_ _,λLp us Qa H6 fLp s6 eLp pus U_ Qh=>?_⟩;have lp0:=go.O_ _ Qa U_ λy hy=>(Qh y).mp hy;refine⟨_,rfl,R,rs,aa,false,rfl,aI.of (s6 _ _ VS),Mr.same s6,qw,λDe H7 hDe s7 e7 l7=>?_⟩;have Rw:=s6.trans s7;have gA7:=gA5.same Rw;have VR:=Rw _ _ VS;have W8:=Mr.same Rw;have T6:=s7 _ _ eLp;have pu7:Paired (Js K H7) us Qa:=Paired.b9 pus λ_ _ z=>s7.tup z;have hS7:=Rw.seq hS5;have same:=Gm bv.emp bv.mW bv.Jg bv.zU Qh;have TB:∀{ps:List Pl},ps.length<=4->∀l:List Pl,l.Nodup->(∀z∈l,qX (qC aa Qa (cf false aa)) ps z)->l.length < 64:=λlp l nd h=>go.Zl (λx hx=>(Qh x).mp hx) lp l nd h;have cPL:∀(ps:List Pl)(z:Pl),qX (zY aa aL aW) ps z↔qX (qC aa Qa (cf false aa)) ps z:=λps z=>⟨λh=>h.mono (λa b r=>(same a b).mp r) λz hz=>.base hz,λh=>h.mono (λa b r=>(same a b).mpr r) λz hz=>.base hz⟩;clear same gA5 Mr VS pus V1 Vd hS5 Rw s6 s7 eLp gv bv hg hx nx hR3;refine⟨Wi,λLz hLz=>?_⟩;have kz:=af hLz (.lst [V.str "zz",V.str "a",V.str "b",V.str "c"]);have ez:upd H7 Lz (.lst [V.str "zz",V.str "a",V.str "b",V.str "c"]) Lz=some (.lst ((["zz","a","b","c"]:z0t).map V.str)):=ae;generalize upd H7 Lz (.lst [V.str "zz",V.str "a",V.str "b",V.str "c"])=H7b at kz ez;refine⟨_,rfl,R,rfl,⟨_,aI.of (kz _ _ VR)⟩,λDh Ts=>ij (aI.of (kz _ _ VR)) (W8.same kz) ∅ Ts λH7c sc eDh=>?_⟩;refine⟨Lz,Dh,_,_,rfl,rfl,sc _ _ ez,eDh,fits (by rw [ar,ar];show 4+(hm aa).length<=_;unfold hm;rw [ar];omega),λLs hLs=>?_⟩;rw [<-ba];obtain⟨sm,Iq⟩:∃sm:z0t,sm=(["zz","a","b","c"]:z0t)++hm aa:=157;have lsm:0 < sm.length:=by rw [Iq,a8];show 0 < 4+_;omega
 rw [<-Iq];have ks:=af hLs (.lst (sm.map V.str));have es:upd H7c Ls (.lst (sm.map V.str)) Ls=some (.lst (sm.map V.str)):=ae;generalize upd H7c Ls (.lst (sm.map V.str))=H7d at ks es;have WX:=(kz.trans sc).trans ks;obtain⟨cs,ecs,lcs⟩:=Z6 ns (some 12) (some 32);refine⟨_,rfl,_,rfl,_,rfl,S,_,rfl,WX.seq hS7,λLc hLc=>?_⟩;rw [ecs];have k9:=af hLc (.lst (cs.map V.int));have e9:upd H7d Lc (.lst (cs.map V.int)) Lc=some (.lst (cs.map V.int)):=ae;generalize upd H7d Lc (.lst (cs.map V.int))=H9 at k9 e9;refine⟨Fl,λLd hLd=>?_⟩;have kA:=af hLd (.lst [V.int 0]);have eA:upd H9 Ld (.lst [V.int 0]) Ld=some (.lst [V.int 0]):=ae;generalize upd H9 Ld (.lst [V.int 0])=HA at kA eA;refine⟨Lc,Ld,cs.map V.int,[V.int 0],rfl,rfl,kA _ _ e9,eA,fits (by rw [ar];show cs.length+1<=_;omega),λLx hLx=>?_⟩;have ecx:cs.map V.int++[V.int 0]=(cs++[0]).map V.int:=by rw [ba];rfl
 rw [ecx];have kX:=af hLx (.lst ((cs++[0]).map V.int));have eX:upd HA Lx (.lst ((cs++[0]).map V.int)) Lx=some (.lst ((cs++[0]).map V.int)):=ae;generalize upd HA Lx (.lst ((cs++[0]).map V.int))=HX at kX eX;have WR:=(k9.trans kA).trans kX;have NR:=WX.trans WR;have gAX:=gA7.same NR;have Y5:aI K HX R 153:=aI.of (NR _ _ VR);have W7:=W8.same NR;have hLX:aI K HX Lp (us.map V.ref):=aI.of (NR _ _ T6);have puX:Paired (Js K HX) us Qa:=Paired.b9 pu7 λ_ _ z=>NR.tup z;have hEX:aI K HX De ((cf false aa).map V.str):=aI.of (NR _ _ e7);have hMX:aI K HX Ls (sm.map V.str):=aI.of (WR _ _ es);clear gA7 VR W8 T6 pu7 hS7 e7 NR k9 kA kX e9 eA WR WX ks es sc eDh kz ez;refine⟨Lx,rfl,⟨_,aI.of eX⟩,?_⟩;refine bQ (xs:=(cs++[0]).map V.int) (λk σ HI=>∃(y6 y7 y8 y9 pW J1 wM Ac QW:Option V),σ=[aE S,aE R,aE g,aE Lp,aE De,aE Ls,y6,y7,y8,y9,pW,J1,wM,Ac,QW]/\aD HX HI) ⟨_,_,_,_,_,_,_,_,_,rfl,aD.refl _⟩ ?_ ?_ ?_
 .rintro k σ HI _ ⟨y6,y7,y8,y9,pW,J1,wM,Ac,QW,rfl,sI⟩;exact sI.seq (aI.of eX)
 .rintro k x σ HI ex ⟨y6,y7,y8,y9,pW,J1,wM,Ac,QW,rfl,sI⟩;rw [aX] at ex;obtain⟨cl,ZE,rfl⟩:=bT.mp ex;refine goN ?_;obtain⟨m,hm3⟩:∃m:Nat,1+cl % 4=(m:Int):=⟨(1+cl % 4).toNat,∅⟩;have m3:m<=4:=by omega
  refine⟨_,rfl,_,_,rfl,rfl,nofun,_,_,rfl,rfl,_,rfl,∅,∅,λD hD=>?_⟩;have tn:(1+cl % 4).toNat=m:=by omega
  refine qj (lo:=0) (λi ys σ2 H2=>∃(ts:z0q)(ps:List Pl),ys=ts.map V.ref/\Paired (i4 H2) ts ps/\ps.length=i/\(∀z∈ps,z.1<=aa.length/\z.2.1<=(dM aa z.1).length)/\(∃y0,σ2=[y0,aE R,some (.int cl)])/\aD HI H2/\H2 D=some (.lst ys)) ⟨[],[],rfl,.nil,rfl,λ_ h=>(nomatch h),⟨none,rfl⟩,af hD _,ae⟩ (λi ys σ2 H2 hi h=>?_) (λys σ2 H2 h=>?_)
  .obtain⟨ts,ps,rfl,pp,lp,hz,⟨y0,rfl⟩,s2,oB⟩:=h;have hi3:i < 4:=by omega
   refine goN (uJ ?_);refine⟨_,rfl,_,rfl,_,_,rfl,rfl,⟨nofun,nofun⟩,_,rfl,_,_,rfl,rfl,.inl ⟨nofun,nofun⟩,_,_,rfl,rfl,_,_,rfl,rfl,⟨∅,∅⟩,R,_,rs,aa,rfl,(sI.trans s2).seq Y5,W7.same (sI.trans s2),jX,λt z H3 fT s3 pt z1 z2=>?_⟩;have lL:=s3 _ _ oB;have Qe:=a7 pp;refine⟨lL,219,ts++[t],ps++[z],by rw [ba];rfl,?_,by rw [a8,lp];rfl,λy hy=>?_,157,ft (s2.trans s3) hD,ae⟩
   .exact fc (Paired.b9 pp λ_ _ y=>cN lL (λ_ x=>by cases x) (s3 _ _ y)) (cN lL (λ_ x=>by cases x) pt)
   rcases bP.mp hy with h | h
   .exact hz y h
   rw [bB.mp h];exact⟨z1,z2⟩
  obtain⟨ts,ps,rfl,pp,lp,hz,_,s2,oB⟩:=h;rw [tn] at lp;have UY:=sI.trans s2;have Qe:=a7 pp;refine goN ?_;refine⟨_,rfl,_,rfl,_,_,rfl,rfl,⟨nofun,nofun⟩,_,_,rfl,rfl,nofun,_,rfl,Ls,_,rfl,.inl (UY.seq hMX),_,_,rfl,rfl,(by rw [ar];omega),?_⟩;rw [ar];dsimp only;obtain⟨j,hj⟩:∃j:Nat,cl / 4 % 11 % (sm.length:Int)=(j:Int):=⟨(cl / 4 % 11 % (sm.length:Int)).toNat,by have:=Int.emod_nonneg (cl / 4 % 11) (show (sm.length:Int)≠0 by omega);omega⟩;have lj:j < sm.length:=by have:=wt (cl / 4 % 11) (show 0 < (sm.length:Int) by omega);omega
  rw [hj];obtain⟨pt,hpt⟩:∃pt,sm[j]?=some pt:=⟨_,cZ lj⟩;refine⟨Ls,_,_,.str pt,rfl,rfl,UY.seq hMX,cH (by rw [aX,hpt];rfl),?_⟩;have lmv:∀i,(y_ aa pt (ps.take i)).length<=4:=λi=>by
   unfold y_;rw [ar];refine fJ (iC _ _) ?_;rw [du];omega
  refine⟨uq,λOn hOn=>?_⟩;have k3:=af hOn 138;have eO3:upd H2 On 138 On=some 138:=ae;generalize upd H2 On 138=H3a at k3 eO3;have lL:=k3 _ _ oB;refine⟨_,rfl,D,rfl,⟨_,aI.of lL⟩,?_⟩;refine bQ (xs:=ts.map V.ref) (λi σ HJ=>∃(pW J1 wM:Option V)(h_:z0q),σ=[aE S,aE R,aE g,aE Lp,aE De,aE Ls,some (.int cl),aE D,some (.str pt),aE On,pW,J1,wM,Ac,QW]/\aD H2 HJ/\HJ On=some (.lst (h_.map V.ref))/\Paired (i4 HJ) h_ (y_ aa pt (ps.take i))) ⟨_,_,_,[],rfl,k3,eO3,.nil⟩ ?_ ?_ ?_
  .rintro i σ HJ _ ⟨pW,J1,wM,h_,rfl,sJ,_⟩;exact sJ.seq (aI.of oB)
  .rintro i x σ HJ ex ⟨pW,J1,wM,h_,rfl,sJ,eO,pO⟩;rw [aX] at ex;obtain⟨t,et,rfl⟩:=bT.mp ex;have li:=(bu.mp et).1;obtain⟨z,ez⟩:∃z,ps[i]?=some z:=⟨_,cZ ∅⟩;obtain⟨t',IU,pz⟩:=Paired.at_ pp i z ez;rw [et] at IU;cases IU;obtain⟨z1,z2⟩:=hz z (cE ez);have sIJ:=UY.trans sJ;have tk:=ip (uw aa pt) ez;have lO:=a7 pO;have lO2:=lmv i;refine⟨t,_,rfl,aZ.of (sJ _ _ pz),rfl,_,_,rfl,_,_,rfl,_,_,rfl,rfl,?_⟩;refine⟨_,rfl,_,rfl,R,z.1,rs,aa,rfl,sIJ.seq Y5,W7.same sIJ,jX,z1,λp2 HK sK eK=>?_⟩;refine⟨Fl,λt1 Vj=>?_⟩;have k1:=af Vj (.tup [V.fu]);have e1:aZ K (upd HK t1 (.tup [V.fu])) t1 [V.fu]:=aZ.of ae;generalize upd HK t1 (.tup [V.fu])=HL at k1 e1;refine⟨p2,t1,_,_,rfl,rfl,k1.tup eK,e1,fits (by rw [ar];have:=xB h8 z.1;show _+1<=_;omega),λp3 HM sM eM=>?_⟩;have hat:pQ ((dM aa z.1).map V.str++[V.fu]) ((z.2.1:Nat):Int)=some (paV ((dM aa z.1)[z.2.1]?)):=by
    refine cH ?_;by_cases cz:z.2.1 < (dM aa z.1).length
    .rw [nj (by rw [ar];exact cz),aX,cZ cz];rfl
    rw [lU (by rw [ar];omega),ar,kj (by omega:(dM aa z.1).length<=z.2.1),show z.2.1 - (dM aa z.1).length=0 by omega];rfl
   have Rr:=(sK.trans k1).trans sM;have VT:=Rr _ _ eO;have RJ:Paired (i4 HM) h_ (y_ aa pt (ps.take i)):=Paired.b9 pO λ_ _ y=>Rr _ _ y;refine⟨_,rfl,p3,_,_,_,rfl,rfl,eM,hat,?_⟩;cases n6:(dM aa z.1)[z.2.1]? with
   | none =>
    refine⟨_,rfl,rfl,_,rfl,?_⟩;refine iY ?_;refine⟨_,_,_,h_,rfl,sJ.trans Rr,VT,?_⟩;unfold y_ at RJ ⊢;rw [tk,show uw aa pt z=false by unfold uw;rw [n6];rfl,au cX,dN];exact RJ
   | some nm =>
    refine⟨_,rfl,rfl,_,rfl,?_⟩;refine b_ (λcc=>?_) (λcc=>?_)
    .have e:nm=pt:=by have:=cR cc;injection this
     refine⟨_,rfl,.inl ⟨rfl,_,aI.of VT⟩,_,rfl,_,rfl,_,_,rfl,rfl,_,rfl,Jy,λt4 zu=>?_⟩;have k4:=af zu (.tup [V.int (pZ z).1,V.int ((pZ z).2.1+1),V.str (pZ z).2.2]);have e4:i4 (upd HM t4 (.tup [V.int (pZ z).1,V.int ((pZ z).2.1+1),V.str (pZ z).2.2])) t4 (sU z):=ae;generalize upd HM t4 (.tup [V.int (pZ z).1,V.int ((pZ z).2.1+1),V.str (pZ z).2.2])=HN at k4 e4;have ZL:=k4 _ _ VT;refine⟨On,_,_,rfl,rfl,ZL,219,?_⟩;refine⟨_,_,_,h_++[t4],rfl,ft ((sJ.trans Rr).trans k4) hOn,by rw [ae,ba];rfl,?_⟩;have V2:uw aa pt z=true:=by unfold uw;rw [n6,e];exact cv rfl
     have em:y_ aa pt (ps.take (i+1))=y_ aa pt (ps.take i)++[sU z]:=by unfold y_;rw [tk,aw V2,ba];rfl
     rw [em];exact fc (Paired.b9 RJ λ_ _ y=>cN ZL (λ_ x=>by cases x) (k4 _ _ y)) (cN ZL (λ_ x=>by cases x) e4)
    refine⟨_,_,_,h_,rfl,sJ.trans Rr,VT,?_⟩;have ue:uw aa pt z=false:=by
     unfold uw;rw [n6];exact dU λe=>cc (by rw [gJ e];exact cv rfl)
    unfold y_ at RJ ⊢;rw [tk,ue,au cX,dN];exact RJ
  rintro σ HJ ⟨pW,J1,wM,h_,rfl,sJ,eO,pO⟩;rw [ar,Qe,b0] at pO;have lm4:(y_ aa pt ps).length<=4:=by have:=lmv ps.length;rw [b0] at this;exact this
  have ZP:=sJ _ _ oB;refine⟨_,rfl,D,_,rfl,.inl (aI.of ZP),λHd hHd=>?_⟩;have kH:=af hHd 222;have eH:upd HJ Hd 222 Hd=some 222:=ae;generalize upd HJ Hd 222=HL at kH eH;have s2L:=sJ.trans kH;have sIL:=UY.trans s2L;have ppL:Paired (i4 HL) ts ps:=Paired.b9 pp λ_ _ y=>s2L _ _ y;have Zk:∀l:List Pl,l.Nodup->(∀z∈l,qX (zY aa aL aW) (y_ aa pt ps) z)->l.length < 64:=λl nd h=>TB (ps:=y_ aa pt ps) lm4 l nd λz hz=>(cPL _ z).mp (h z hz);refine⟨_,rfl,_,rfl,_,rfl,g,D,pt,ts,ps,aa,aL,aW,rfl,gAX.same sIL,jX,l8,h8,lbe,aI.of (kH _ _ ZP),ppL,∅,Zk,λLf usf zf H6a fLf WZ eLf pf sf ndf inf=>?_⟩;have P6:=sIL.trans WZ;have sJ6:=kH.trans WZ;refine⟨_,rfl,Lf,_,"list",true,rfl,aI.of eLf,Ik,true,rfl,?_⟩;refine iY ?_;refine⟨_,rfl,_,rfl,_,rfl,_,rfl,_,rfl,R,Lp,De,On,rs,us,h_,y_ aa pt ps,aa,Qa,cf false aa,rfl,P6.seq Y5,W7.same P6,jX,l8,h8,P6.seq hLX,Paired.b9 puX λ_ _ z=>P6.tup z,lp0,P6.seq hEX,aI.of (sJ6 _ _ eO),Paired.b9 pO λ_ _ y=>sJ6 _ _ y,∅,λz h=>?_,TB lm4,λLdu usd zd H7a fLd UZ eLd pd sd ndd ind=>?_⟩
  .obtain⟨y,hy,rfl⟩:=bU.mp h;exact(hz y (gw.mp hy).1).1
  have ezf:zf=zd:=NC sf sd ndf ndd λz=>(inf z).trans ((cPL _ z).trans (ind z).symm);subst ezf;refine⟨Lf,Ldu,_,_,rfl,rfl,aI.of (UZ _ _ eLf),aI.of eLd,mX (Paired.b9 pf λ_ _ y=>UZ _ _ y) pd,_,rfl,?_⟩;refine iY ?_;have vf:=WZ.trans UZ;have pp7:Paired (i4 H7a) ts ps:=Paired.b9 ppL λ_ _ y=>vf _ _ y;refine⟨_,rfl,_,rfl,D,Hd,_,_,rfl,rfl,aI.of (vf _ _ (kH _ _ ZP)),aI.of (vf _ _ eH),mX pp7 pp7,_,rfl,?_⟩;refine iY ?_;exact⟨_,_,_,_,_,_,_,_,_,rfl,P6.trans UZ⟩
 rintro σ HI ⟨y6,y7,y8,y9,pW,J1,wM,Ac,QW,rfl,sI⟩;exact q HI
end
end hJ
namespace L2
open PySem
def Ae {C:z0n->Prop}(h:∀a,C [a]):∀us:z0n,us.length=1->C us
 | [a],_=>h a
def h_ {C:z0n->Prop}(h:∀a b,C [a,b]):∀us:z0n,us.length=2->C us
 | [a,b],_=>h a b
def wR {C:z0n->Prop}(h:∀a b c,C [a,b,c]):∀us:z0n,us.length=3->C us
 | [a,b,c],_=>h a b c
def us4 {C:z0n->Prop}(h:∀a b c d,C [a,b,c,d]):∀us:z0n,us.length=4->C us
 | [a,b,c,d],_=>h a b c d
def Fp {C:z0n->Prop}(h:∀a b c d e,C [a,b,c,d,e]):∀us:z0n,us.length=5->C us
 | [a,b,c,d,e],_=>h a b c d e
def d5 (K:bp)(x:Str)(st:Stmt):Prop:=∃(g:Addr)(oc:Value)(od an:z0m)(sl:z0a)(kV dc pm cd ct:Value),PySem.W.nsIn K mainGlobals x=some (some (.ref g)) /\
 K.lookup g=some ⟨oc,od,.func (PySem.W.fnOf x x (dH st) (cP st) (ay st) .none kV dc pm an cd ct),sl⟩/\PySem.W.codeIn K cd x=true/\PySem.W.keepIn K (.ref g)=true
def d5.get {K:bp}{h:Heap}{mg:z0c}{x:Str}{st:Stmt}(X:K.In h)(G:h.Ns mainGlobals mg)(H:d5 K x st):∃g gd,iz K x x st g gd/\mg x=some (.ref g):=by
 obtain⟨g,oc,od,an,sl,kV,dc,pm,cd,ct,a,l,c,k⟩:=H;exact⟨g,_,IM (st:=st) l c k,oN X G a⟩
def Ff (K:bp)(x:Str)(st:Stmt)(T:Addr):Prop:=∃(g:Addr)(oc:Value)(od an:z0m)(sl:z0a)(kV dc pm:Value)(c:Addr)(ct:Value),PySem.W.nsIn K mainGlobals x=some (some (.ref g)) /\
 K.lookup g=some ⟨oc,od,.func (PySem.W.fnOf x x (dH st) (cP st) (ay st) .none kV dc pm an (.ref c) ct),sl⟩/\PySem.W.codeIn K (.ref c) x=true/\PySem.W.codeHdIn K c T=true/\PySem.W.keepIn K (.ref g)=true
def Ff.get {K:bp}{h:Heap}{mg:z0c}{x:Str}{st:Stmt}{T:Addr}(X:K.In h)(G:h.Ns mainGlobals mg)(H:Ff K x st T):∃g gd,z9 K x x st g gd T/\mg x=some (.ref g):=by
 obtain⟨g,oc,od,an,sl,kV,dc,pm,c,ct,a,l,d,e,k⟩:=H;exact⟨g,_,⟨⟨oc,od,kV,dc,pm,an,c,ct,sl,rfl,l,d,e⟩,k⟩,oN X G a⟩
def z9.binds {K:bp}{x qual:Str}{st:Stmt}{f T:Addr}{fd:FuncData}{ps:z0t}(F:z9 K x qual st f fd T)
  (h:∀(kV doc pm:Value)(an:z0m)(d6 ct:Value)(us:z0n),us.length=ps.length->bindArgs (PySem.W.fnOf x qual (dH st) (cP st) (ay st) .none kV doc pm an d6 ct) ⟨us,[]⟩=pure (ps.zip us)):Binds K fd ps []:=by
 obtain⟨oc,od,kV,doc,pm,an,c,ct,yS,rfl,lk,ym,_⟩:=F.ex;exact .all (h kV doc pm an (.ref c) ct)
def uS (K:bp)(C:Addr)(m qual:Str)(st:Stmt):Prop:=∃(g:Addr)(oc:Value)(od an:z0m)(sl:z0a)(kV dc pm cd ct:Value),PySem.W.findIn K (.ref C) m=some (some (.ref g)) /\
 K.lookup g=some ⟨oc,od,.func (PySem.W.fnOf m qual (dH st) (cP st) (ay st) .none kV dc pm an cd ct),sl⟩/\PySem.W.codeIn K cd qual=true/\PySem.W.keepIn K (.ref g)=true/\PySem.W.isFn K (.ref g)=true
def uS.get {K:bp}{C:Addr}{m qual:Str}{st:Stmt}(H:uS K C m qual st):∃g gd,iz K m qual st g gd/\Meth K C m g:=by
 obtain⟨g,oc,od,an,sl,kV,dc,pm,cd,ct,a,l,c,k,i⟩:=H;exact⟨g,_,IM (st:=st) l c k,⟨a,i,k⟩⟩
def d5.c {K:bp}{h:Heap}{mg:z0c}{x:Str}{st:Stmt}{P:Program}{w:World}{base:Heap}{k:Nat}{ps:z0t}{sp:Sp}(H:d5 K x st)(X:K.In h)(G:h.Ns mainGlobals mg)
  (b:∀(kV doc pm:Value)(an:z0m)(d6 ct:Value)(us:z0n),us.length=ps.length->bindArgs (PySem.W.fnOf x x (dH st) (cP st) (ay st) .none kV doc pm an d6 ct) ⟨us,[]⟩=pure (ps.zip us))
  (o:∀{f:Addr}{fd:FuncData},iz K x x st f fd->mg x=some (.ref f)->Binds K fd ps []->bR P w K mg base fI k f fd ps sp):aF P w K mg base k x ps sp:=by
 obtain⟨f,fd,F,m⟩:=H.get X G;have B:=F.binds b;exact⟨f,fd,o F m B,B,F.kp,m⟩
def hD {K:bp}{x:Str}{st:Stmt}(g c:Addr)(pm:Value)(h:(PySem.W.nsIn K mainGlobals x,K.lookup g,PySem.W.codeIn K (.ref c) x,PySem.W.keepIn K (.ref g))=(some (some (.ref g)),some ⟨.type "function",none,.func (PySem.W.fnOf x x (dH st) (cP st) (ay st) .none .none .none pm none (.ref c) .none),#[]⟩,true,true)):d5 K x st:=by
 simp only [oM] at h;exact⟨g,_,_,_,_,_,_,_,_,_,h.1,h.2.1,h.2.2.1,h.2.2.2⟩
def hC {K:bp}{x:Str}{st:Stmt}{T:Addr}(g c:Addr)(pm:Value)(h:(PySem.W.nsIn K mainGlobals x,K.lookup g,PySem.W.codeIn K (.ref c) x,PySem.W.codeHdIn K c T,PySem.W.keepIn K (.ref g))=(some (some (.ref g)),some ⟨.type "function",none,.func (PySem.W.fnOf x x (dH st) (cP st) (ay st) .none .none .none pm none (.ref c) .none),#[]⟩,true,true,true)):Ff K x st T:=by
 simp only [oM] at h;exact⟨g,_,_,_,_,_,_,_,c,_,h.1,h.2.1,h.2.2.1,h.2.2.2.1,h.2.2.2.2⟩
def hM {K:bp}{C:Addr}{m qual:Str}{st:Stmt}(g c:Addr)(pm:Value)(h:(PySem.W.findIn K (.ref C) m,K.lookup g,PySem.W.codeIn K (.ref c) qual,PySem.W.keepIn K (.ref g),PySem.W.isFn K (.ref g))=(some (some (.ref g)),some ⟨.type "function",none,.func (PySem.W.fnOf m qual (dH st) (cP st) (ay st) .none .none .none pm none (.ref c) .none),#[]⟩,true,true,true)):uS K C m qual st:=by
 simp only [oM] at h;exact⟨g,_,_,_,_,_,_,_,_,_,h.1,h.2.1,h.2.2.1,h.2.2.2.1,h.2.2.2.2⟩
end L2
namespace hJ
open PySem L2 ST M11
def PV (K:bp)(C:Addr)(m qual:Str)(st:Stmt):Prop:=∃(g:Addr)(oc:Value)(od an:z0m)(sl:z0a)(kV dc pm cd ct:Value)(T:Addr)(o:Obj) (n:Nat),PySem.W.findIn K (.ref C) m=some (some (.ref g)) /\
 K.lookup g=some ⟨oc,od,.func (PySem.W.fnOf m qual (dH st) (cP st) (ay st) (.ref T) kV dc pm an cd ct),sl⟩/\PySem.W.codeIn K cd qual=true/\K.lookup T=some o/\o.data=.seq #[.none] n/\PySem.W.keepIn K (.ref g)=true/\PySem.W.isFn K (.ref g)=true
def PV.get {K:bp}{C:Addr}{m qual:Str}{st:Stmt}(H:PV K C m qual st):∃g gd,Jv K m qual st g gd/\PySem.W.findIn K (.ref C) m=some (some (.ref g))/\PySem.W.isFn K (.ref g)=true:=by
 obtain⟨g,oc,od,an,sl,kV,dc,pm,cd,ct,T,o,n,a,l,c,t,d,k,i⟩:=H;exact⟨g,_,⟨⟨oc,od,kV,dc,pm,an,cd,ct,sl,T,o,n,rfl,l,c,t,d⟩,k⟩,a,i⟩
structure Top (K:bp)(C Cg C3 T1 T2 T3:Addr)(tm:Tok):Prop where
 nB:PySem.W.nsIn K mainGlobals "BeginTable"=some (some (.ref C))
 nG:PySem.W.nsIn K mainGlobals "Grammar"=some (some (.ref Cg))
 nL:PySem.W.nsIn K mainGlobals "LeastTrees"=some (some (.ref C3))
 nM:PySem.W.nsIn K mainGlobals "MOST_RULES"=some (some (.int 60 tm))
 jM:PySem.W.nsIn K mainGlobals "sorted"=some none
 h0:d5 K "heads_of" A1
 h1:d5 K "numbers_by_name" Gq
 h2:d5 K "standings_by_part" NL
 h3:d5 K "rule_size" oZ
 h4:d5 K "empty_by_name" sG
 h5:d5 K "words_in" AR
 h6:d5 K "found_empties" sH
 h7:d5 K "first_places" xm
 h8:d5 K "way_back" NK
 h9:d5 K "steps_with_like_rows" AU
 h10:d5 K "find_loop" Gs
 h11:d5 K "refuse_twice" AS
 h12:d5 K "names_met" NM
 h13:d5 K "_law_cell_at" Gx
 h14:d5 K "_law_digits" xt
 Zg:d5 K "_law_names" AY
 h16:d5 K "_law_words" xj
 h17:d5 K "_law_more" Gr
 h18:d5 K "_law_skeleton" Gp
 h19:d5 K "_law_ended" A2
 h20:d5 K "_law_not_vast" Gn
 h21:d5 K "_law_good" Gv
 h22:d5 K "_law_grammar" Gu
 h23:d5 K "_law_begins" xx
 h24:d5 K "_law_parts" xo
 h25:d5 K "_law_ahead" A4
 h26:d5 K "_law_closed" sE
 h27:d5 K "_law_place" AW
 YG:d5 K "law" NO
 Yp:d5 K "settled_sizes" nQ
 Yv:d5 K "refuse_faults" xl
 hL:Ff K "least_sizes" su T1
 hG:Ff K "greatest_empty_sizes" xp T2
 hLB:Ff K "least_by_part" nR T3
 mL1:uS K C3 "__init__" "LeastTrees.__init__" A0
 mB1:uS K C "__init__" "BeginTable.__init__" A3
 mB2:uS K C "find_begins" "BeginTable.find_begins" Gw
 mB3:uS K C "words_of_part" "BeginTable.words_of_part" AX
 mB4:uS K C "first_words" "BeginTable.first_words" xr
 mB5:uS K C "all_empty" "BeginTable.all_empty" Gy
 mG2:uS K Cg "start" "Grammar.start" AV
 hPO:d5 K "parts_of" sr
 hPA:d5 K "part_at" xn
 hTB:d5 K "texts_behind" xw
 hCL:d5 K "closed_list" xu
 hML:d5 K "moved_list" AZ
 mG1:PV K Cg "__init__" "Grammar.__init__" xq
 pgB:PySem.W.plainGet K C Str.empty=true
 hdB:PySem.W.hasDictIn K C=true
 poB:PySem.W.plainOver K C=true
 saB:PySem.W.findIn K (.ref C) "__setattr__"=some (some (.builtin "object.__setattr__"))
 mkB:PySem.W.makesIn K C=true
 MK:PySem.W.keepIn K (.ref C)=true
 pgG:PySem.W.plainGet K Cg Str.empty=true
 hdG:PySem.W.hasDictIn K Cg=true
 poG:PySem.W.plainOver K Cg=true
 saG:PySem.W.findIn K (.ref Cg) "__setattr__"=some (some (.builtin "object.__setattr__"))
 mkG:PySem.W.makesIn K Cg=true
 kpG:PySem.W.keepIn K (.ref Cg)=true
 pgL:PySem.W.plainGet K C3 Str.empty=true
 hdL:PySem.W.hasDictIn K C3=true
 poL:PySem.W.plainOver K C3=true
 saL:PySem.W.findIn K (.ref C3) "__setattr__"=some (some (.builtin "object.__setattr__"))
 mkL:PySem.W.makesIn K C3=true
 kpL:PySem.W.keepIn K (.ref C3)=true
 Ci:PySem.W.findIn K (.ref C) "empties"=some none
 Jo:PySem.W.findIn K (.ref C) "empty"=some none
 E_:PySem.W.findIn K (.ref C) "begins"=some none
 E9:PySem.W.findIn K (.ref C) "firsts"=some none
 Jk:PySem.W.findIn K (.ref C3) "rules"=some none
 Jm:PySem.W.findIn K (.ref C3) "empty"=some none
 Jl:PySem.W.findIn K (.ref C3) "least"=some none
 E8:PySem.W.findIn K (.ref C3) "hollow"=some none
 uQ:PySem.W.findIn K (.ref C3) "beginnings"=some none
 Jn:PySem.W.findIn K (.ref Cg) "rules"=some none
 yd:PySem.W.findIn K (.ref Cg) "strengths"=some none
 ug:PySem.W.findIn K (.ref Cg) "begin_table"=some none
 ye:PySem.W.findIn K (.ref Cg) "standings"=some none
 uf:PySem.W.findIn K (.ref Cg) "small_trees"=some none
 Wg:PySem.W.nsIn K mainGlobals "len"=some none
 Nn:PySem.W.nsIn K mainGlobals "range"=some none
 yt:PySem.W.nsIn K mainGlobals "isinstance"=some none
 Nm:PySem.W.nsIn K mainGlobals "tuple"=some none
 QS:PySem.W.nsIn K mainGlobals "list"=some none
 QT:PySem.W.nsIn K mainGlobals "dict"=some none
 Wl:PySem.W.nsIn K mainGlobals "all"=some none
 Wk:PySem.W.nsIn K mainGlobals "any"=some none
 Wd:PySem.W.nsIn K mainGlobals "str"=some none
 Wj:PySem.W.nsIn K mainGlobals "int"=some none
 QU:PySem.W.nsIn K mainGlobals "bool"=some none
 AD:PySem.W.nsIn K mainGlobals "enumerate"=some none
 Wc:PySem.W.nsIn K mainGlobals "sum"=some none
 Wf:PySem.W.nsIn K mainGlobals "max"=some none
 We:PySem.W.nsIn K mainGlobals "min"=some none
def all_mk {l:PySem.W.OpenLaw}{w:World}{K:bp}{h:Heap}{mg:z0c}{fa C Cg C3 T1 T2 T3:Addr}{tm:Tok}(X:K.In h)(G:h.Ns mainGlobals mg)(hfa:mg "law"=some (.ref fa))(tp:Top K C Cg C3 T1 T2 T3 tm) :
  ∃fd:FuncData,(∀(s:Shared)(v:Value),BindsTo s fd ⟨[v],[]⟩ [("_law_script",v)])/\∀base:Heap,K.In base->base.Ns mainGlobals mg->um mg base->bR l.prog w K mg base fI 9 fa fd ["_law_script"] (CI K T1 T2 T3):=by
 have T:Txt mg:=⟨hV X G tp.Wg,hV X G tp.Nn,hV X G tp.yt,hV X G tp.Nm,hV X G tp.QS,hV X G tp.QT,hV X G tp.Wl,hV X G tp.Wk,hV X G tp.Wd,hV X G tp.Wj,hV X G tp.QU,hV X G tp.AD,hV X G tp.Wc,hV X G tp.Wf,hV X G tp.We⟩;obtain⟨M4,Nb,z_,MD⟩:=tp.Yp.get X G;have Nf:=z_.binds (ps:=["rules","sizes","better"]) λ_ _ _ _ _ _=>by exact wR λ_ _ _=>rfl
 obtain⟨TH,T9,Jw,RY⟩:=tp.Yv.get X G;have Uh:=Jw.binds (ps:=["rules","strengths"]) λ_ _ _ _ _ _=>by exact h_ λ_ _=>rfl
 obtain⟨f_L,d_L,F_L,m_L⟩:=tp.hL.get X G;have b_L:=F_L.binds (ps:=["rules"]) 371
 obtain⟨f_G,d_G,F_G,m_G⟩:=tp.hG.get X G;have b_G:=F_G.binds (ps:=["rules"]) 371
 obtain⟨Zm,Z3,PX,XI⟩:=tp.hLB.get X G;have aad:=PX.binds (ps:=["rules"]) 371
 obtain⟨Zp,aaR,UL,R6⟩:=tp.mB1.get;have aaj:=UL.binds (ps:=["self","rules"]) λ_ _ _ _ _ _=>by exact h_ λ_ _=>rfl
 obtain⟨aaI,aaQ,UK,XQ⟩:=tp.mB2.get;have aai:=UK.binds (ps:=["self","number","rule"]) λ_ _ _ _ _ _=>by exact wR λ_ _ _=>rfl
 obtain⟨aaH,aaP,UJ,R0⟩:=tp.mB3.get;have Ui:=UJ.binds (ps:=["self","part"]) λ_ _ _ _ _ _=>by exact h_ λ_ _=>rfl
 obtain⟨Zn,aaK,UD,RZ⟩:=tp.mL1.get;have aae:=UD.binds (ps:=["self","rules","begin_table"]) λ_ _ _ _ _ _=>by exact wR λ_ _ _=>rfl
 obtain⟨Zo,aaM,UG,XM,Yc⟩:=tp.mG1.get;have cB:BC K C:=⟨⟨tp.pgB,tp.hdB,tp.poB,tp.saB⟩,tp.Ci,tp.Jo,tp.E_,tp.E9⟩;have cG:GC K Cg:=⟨⟨tp.pgG,tp.hdG,tp.poG,tp.saG⟩,tp.Jn,tp.yd,tp.ug,tp.ye,tp.uf⟩;have cL:LC K C3:=⟨⟨tp.pgL,tp.hdL,tp.poL,tp.saL⟩,tp.Jk,tp.Jm,tp.Jl,tp.E8,tp.uQ⟩;have kL:Mk K C3 Zn:=⟨tp.mkL,RZ.at_,RZ.fn,tp.kpL⟩;have kB:Mk K C Zp:=⟨tp.mkB,R6.at_,R6.fn,tp.MK⟩;have kG:Mk K Cg Zo:=⟨tp.mkG,XM,Yc,tp.kpG⟩;obtain⟨f9,d9,F9,m9⟩:=tp.YG.get X G;have e:=hfa.symm.trans m9;cases e;obtain⟨oc,od,kV,doc,pm,an,d6,ct,yS,eL,lk,ym⟩:=F9.ex;refine⟨d9,λs v=>?_,λbase _ _ Tt=>?_⟩
 .rw [eL];exact .of_eq rfl
 have c0:=tp.h0.c (P:=l.prog) (w:=w) (base:=base) X G 372 λF m B=>Hw F T;have c1:=tp.h1.c (P:=l.prog) (w:=w) (base:=base) X G 372 λF m B=>KL F T c0;have c2:=tp.h2.c (P:=l.prog) (w:=w) (base:=base) X G 372 λF m B=>Og F T;have c3:=tp.h3.c (P:=l.prog) (w:=w) (base:=base) X G (λ_ _ _ _ _ _=>by exact h_ λ_ _=>rfl) λF m B=>yU F T;have c4:=tp.h4.c (P:=l.prog) (w:=w) (base:=base) X G (λ_ _ _ _ _ _=>by exact h_ λ_ _=>rfl) λF m B=>Bo F T;have c5:=tp.h5.c (P:=l.prog) (w:=w) (base:=base) X G 372 λF m B=>Hl F T;have c6:=tp.h6.c (P:=l.prog) (w:=w) (base:=base) X G 372 λF m B=>Bp F T;have c7:=tp.h7.c (P:=l.prog) (w:=w) (base:=base) X G (λ_ _ _ _ _ _=>by exact h_ λ_ _=>rfl) λF m B=>Eb F T;have c8:=tp.h8.c (P:=l.prog) (w:=w) (base:=base) X G (λ_ _ _ _ _ _=>by exact wR λ_ _ _=>rfl) λF m B=>Of F T;have c9:=tp.h9.c (P:=l.prog) (w:=w) (base:=base) X G 372 λF m B=>Hn F T c6 c0;have c10:=tp.h10.c (P:=l.prog) (w:=w) (base:=base) X G 372 λF m B=>KO F T c9 c8;have c11:=tp.h11.c (P:=l.prog) (w:=w) (base:=base) X G 372 λF m B=>Hm F T;have c12:=tp.h12.c (P:=l.prog) (w:=w) (base:=base) X G 372 λF m B=>Oh F T;have JV:=tp.h13.c (P:=l.prog) (w:=w) (base:=base) X G (λ_ _ _ _ _ _=>by exact h_ λ_ _=>rfl) λF m B=>KS F T;have c14:=tp.h14.c (P:=l.prog) (w:=w) (base:=base) X G (λ_ _ _ _ _ _=>by exact wR λ_ _ _=>rfl) λF m B=>Ee F T;have c15:=tp.Zg.c (P:=l.prog) (w:=w) (base:=base) X G 372 λF m B=>Hs F T;have c16:=tp.h16.c (P:=l.prog) (w:=w) (base:=base) X G 372 λF m B=>D_ F T;have c17:=tp.h17.c (P:=l.prog) (w:=w) (base:=base) X G (λ_ _ _ _ _ _=>by exact Fp λ_ _ _ _ _=>rfl) λF m B=>KN F T (JV.mono nofun) (c14.mono nofun);have c18:=tp.h18.c (P:=l.prog) (w:=w) (base:=base) X G (λ_ _ _ _ _ _=>by exact us4 λ_ _ _ _=>rfl) λF m B=>KJ F T (JV.mono nofun) (c14.mono nofun);have c19:=tp.h19.c (P:=l.prog) (w:=w) (base:=base) X G (λ_ _ _ _ _ _=>by exact h_ λ_ _=>rfl) λF m B=>HH F T;have c20:=tp.h20.c (P:=l.prog) (w:=w) (base:=base) X G (λ_ _ _ _ _ _=>by exact h_ λ_ _=>rfl) λF m B=>KH F T;have c21:=tp.h21.c (P:=l.prog) (w:=w) (base:=base) X G 372 λF m B=>KQ F T (c19.mono nofun) (c20.mono nofun);have c22:=tp.h22.c (P:=l.prog) (w:=w) (base:=base) X G (λ_ _ _ _ _ _=>by exact h_ λ_ _=>rfl) λF m B=>KP F T (JV.mono nofun) (c15.mono nofun) (c16.mono nofun) (c18.mono nofun) (c17.mono nofun) (c21.mono nofun);have c23:=tp.h23.c (P:=l.prog) (w:=w) (base:=base) X G 372 λF m B=>Eh F T (c19.mono nofun);have c24:=tp.h24.c (P:=l.prog) (w:=w) (base:=base) X G (λ_ _ _ _ _ _=>by exact h_ λ_ _=>rfl) λF m B=>Ed F T;have c25:=tp.h25.c (P:=l.prog) (w:=w) (base:=base) X G (λ_ _ _ _ _ _=>by exact Fp λ_ _ _ _ _=>rfl) λF m B=>HR F T;have c26:=tp.h26.c (P:=l.prog) (w:=w) (base:=base) X G (λ_ _ _ _ _ _=>by exact us4 λ_ _ _ _=>rfl) λF m B=>Bn F T (hV X G tp.jM) (c24.mono nofun) (c25.mono nofun);have c27:=tp.h27.c (P:=l.prog) (w:=w) (base:=base) X G (λ_ _ _ _ _ _=>by exact h_ λ_ _=>rfl) λF m B=>Hq F T (c24.mono nofun);have Z8:aF l.prog w K mg base 2 "settled_sizes" ["rules","sizes","better"] (iP K Ag sX.1 sX.2.1 sX.2.2.1 M11.bl):=⟨M4,Nb,Bj z_ T,Nf,z_.kp,MD⟩;have Z9:aF l.prog w K mg base 2 "settled_sizes" ["rules","sizes","better"] (iP K MH By.1 By.2.1 By.2.2.1 M11.bg):=⟨M4,Nb,Bk z_ T,Nf,z_.kp,MD⟩;have c_L:aF l.prog w K mg base 3 "least_sizes" ["rules"] (qF K T1):=⟨f_L,d_L,Hv F_L T Tt c5 Z8,b_L,F_L.kp,m_L⟩;have c_G:aF l.prog w K mg base 3 "greatest_empty_sizes" ["rules"] (w5 K T2):=⟨f_G,d_G,Hy F_G Tt Z9,b_G,F_G.kp,m_G⟩;have Ue:aF l.prog w K mg base 4 "refuse_faults" ["rules","strengths"] (si K T1 T2):=⟨TH,T9,Ea Jw T (oN X G tp.nM) c11 c_L c0 c12 c10 c_G,Uh,Jw.kp,RY⟩;have Z_:aF l.prog w K mg base 4 "least_by_part" ["rules"] (oX K T1 T3):=⟨Zm,Z3,Bm PX T Tt (hV X G tp.jM) (c0.mono nofun) c_L (c1.mono nofun) (c3.mono nofun),aad,PX.kp,XI⟩;have RO:=Hr (P:=l.prog) (w:=w) (base:=base) UJ T cB;have Xk:=KR UK T cB c7 RO R0 Ui;have Xl:=HP UL T cB c6 c0 Xk XQ aai;have Xh:=Hu UD T cB cL Z_ (c4.mono nofun);have Xj:=Hz UG T cG (Ue.mono nofun) (c2.mono nofun) (Xl.mono nofun) kB aaj (oN X G tp.nB) Xh kL aae (oN X G tp.nL);obtain⟨aaG,aaO,UI,XO⟩:=tp.mB4.get;have aah:=UI.binds (ps:=["self","parts"]) λ_ _ _ _ _ _ us hl=>match us,hl with | [_,_],_=>rfl
 obtain⟨aaF,aaN,UH,XN⟩:=tp.mB5.get;have aag:=UH.binds (ps:=["self","parts"]) λ_ _ _ _ _ _ us hl=>match us,hl with | [_,_],_=>rfl
 obtain⟨aaE,aaL,UE,XJ⟩:=tp.mG2.get;have aaf:=UE.binds (ps:=["self"]) λ_ _ _ _ _ _ us hl=>match us,hl with | [_],_=>rfl
 have Xi:=Ho (P:=l.prog) (w:=w) (mg:=mg) (base:=base) UE cG;have o4T:=HG true UI T cB c7 RO R0 Ui;have o5T:=HQ (P:=l.prog) (w:=w) (base:=base) UH T cB;have ua:=tp.hPO.c (P:=l.prog) (w:=w) (base:=base) X G (λ_ _ _ _ _ _ us hl=>match us,hl with | [_,_],_=>rfl) λF m B=>Bl (C:=C) F T cG XJ Xi aaf
 have vS:=tp.hPA.c (P:=l.prog) (w:=w) (base:=base) X G (λ_ _ _ _ _ _ us hl=>match us,hl with | [_,_],_=>rfl) λF m B=>Ec F T ua
 have t_:=tp.hTB.c (P:=l.prog) (w:=w) (base:=base) X G (λ_ _ _ _ _ _ us hl=>match us,hl with | [_,_,_],_=>rfl) λF m B=>Eg F T cG cB ua o4T XO aah (o5T.mono nofun) XN aag
 have uP:=tp.hCL.c (P:=l.prog) (w:=w) (base:=base) X G (λ_ _ _ _ _ _ us hl=>match us,hl with | [_,_],_=>rfl) λF m B=>Ef F T (hV X G tp.jM) cG (c1.mono nofun) vS t_
 have x9:=tp.hML.c (P:=l.prog) (w:=w) (base:=base) X G (λ_ _ _ _ _ _ us hl=>match us,hl with | [_,_,_],_=>rfl) λF m B=>Ht F T (vS.mono nofun) uP
 exact Oi F9 T (c22.mono nofun) (c23.mono nofun) (c19.mono nofun) (c27.mono nofun) (c26.mono nofun) (x9.mono nofun) (c24.mono nofun) cG kG (Xj.mono nofun) (II UG) (oN X G tp.nG)
def walk {l:PySem.W.OpenLaw}{q:Program}{loose:z0t}{XP:z0c->Heap->Prop}{YP:World->Heap->Prop}{d:DefRec}{K:Params->bp}(T1 T2 T3 c1 c2 c3:Addr)(Mz:T1≠T2)(My:T1≠T3)(Mx:T2≠T3)(hn:l.most=some 63)(Th:d.params.defaults=[])
  (hY:∀(w:World)(h:Heap),YP w h->(K w.params).In h/\∀T∈[T3,T2,T1],h.get? T=some (PySem.W.tabObj #[]))
  (hK1:∀w:World,(K w.params).lookup T1=none)(hK2:∀w:World,(K w.params).lookup T2=none)(hK3:∀w:World,(K w.params).lookup T3=none)(hC1:∀w:World,PySem.W.codeHdIn (K w.params) c1 T1=true)(hC2:∀w:World,PySem.W.codeHdIn (K w.params) c2 T2=true)(hC3:∀w:World,PySem.W.codeHdIn (K w.params) c3 T3=true)
  (F:∀(w:World)(mg:z0c)(fa:Addr)(h:Heap),(K w.params).In h->h.Ns mainGlobals mg->mg d.name=some (.ref fa) ->
   ∃fd:FuncData,(∀(s:Shared)(u:Value),BindsTo s fd ⟨[u],[]⟩ [("_law_script",u)])/\∀base:Heap,(K w.params).In base->base.Ns mainGlobals mg->um mg base->bR l.prog w (K w.params) mg base fI 9 fa fd ["_law_script"] (CI (K w.params) T1 T2 T3)) :
  PySem.W.WalkO q loose XP YP l.row.toRowW d [] (λf vs=>PySem.call f vs) :=
 L2.FK (n:=63) (k:=9) (x := "_law_script") (CX:=λ_=>fI) (sp:=λw=>CI (K w.params) T1 T2 T3) hn nofun Th ⟨rfl,nofun,nofun,rfl⟩ hY (λw T hT=>by
  rcases b8.mp hT with e | hT
  .subst e;exact⟨hK3 w,c3,hC3 w⟩
  rcases b8.mp hT with e | hT
  .subst e;exact⟨hK2 w,c2,hC2 w⟩
  rw [bB.mp hT];exact⟨hK1 w,c1,hC1 w⟩) F (λ_ H a ns hl _ hT hS=>⟨a,ns,rfl,hS,hl,⟨⟨#[],hT T1 144,by trivial,.inl rfl⟩,⟨#[],hT T2 144,by trivial,.inl rfl⟩,⟨#[],hT T3 144,by trivial,.inl rfl⟩,Mz,My,Mx⟩,λ_=>rfl⟩) λ_ _ _ _ _ z=>z
end hJ
set_option maxHeartbeats 0
end
namespace HD
open PySem PySem.W L2
def Wz (P:Params):hJ.Top (K P) 134 396 367 277 282 311 578:=⟨nofun,nofun,nofun,nofun,nofun,
 hD 26 25 HD.m1 (nofun),
 hD 36 35 HD.m1 (nofun),
 hD 43 42 HD.m1 (nofun),
 hD 319 318 HD.m8 (nofun),
 hD 324 323 HD.m8 (nofun),
 hD 31 30 HD.m1 (nofun),
 hD 79 78 HD.m3 (nofun),
 hD 86 85 HD.m3 (nofun),
 hD 275 274 HD.m5 (nofun),
 hD 268 267 HD.m5 (nofun),
 hD 263 262 HD.m5 (nofun),
 hD 304 303 HD.m7 (nofun),
 hD 309 308 HD.m7 (nofun),
 hD 407 406 HD.lY (nofun),
 hD 426 425 HD.lY (nofun),
 hD 412 411 HD.lY (nofun),
 hD 419 418 HD.lY (nofun),
 hD 440 439 HD.lY (nofun),
 hD 433 432 HD.lY (nofun),
 hD 445 444 HD.lY (nofun),
 hD 450 449 HD.lY (nofun),
 hD 455 454 HD.lY (nofun),
 hD 462 461 HD.lY (nofun),
 hD 467 466 HD.lY (nofun),
 hD 474 473 HD.lY (nofun),
 hD 479 478 HD.lY (nofun),
 hD 484 483 HD.lY (nofun),
 hD 491 490 HD.lY (nofun),
 hD 496 495 HD.lY (nofun),
 hD 292 291 HD.m6 (nofun),
 hD 297 296 HD.m7 (nofun),
 hC 280 279 HD.m6 (nofun),
 hC 287 286 HD.m6 (nofun),
 hC 314 313 HD.m8 (nofun),
 hM 336 335 HD.m8 (nofun),
 hM 98 97 HD.m3 (nofun),
 hM 105 104 HD.m3 (nofun),
 hM 112 111 HD.m3 (nofun),
 hM 119 118 HD.m3 (nofun),
 hM 124 123 HD.m3 (nofun),
 hM 393 392 HD.m9 (nofun),
 hD 57 56 HD.m2 (nofun),
 hD 50 49 HD.m2 (nofun),
 hD 69 68 HD.m2 (nofun),
 hD 62 61 HD.m2 (nofun),
 hD 74 73 HD.m2 (nofun),
 ⟨386,.type "function",none,none,#[],.none,.none,.str "wright.grammars" 689,.ref 385,.none,379,⟨.type "tuple",none,.seq #[.none] 0,#[]⟩,0,nofun,nofun,nofun,nofun,rfl,nofun,nofun⟩,nofun,nofun,nofun,nofun,nofun,nofun,nofun,nofun,nofun,nofun,nofun,nofun,nofun,nofun,nofun,nofun,nofun,nofun,nofun,nofun,nofun,nofun,nofun,nofun,nofun,nofun,nofun,nofun,nofun,nofun,nofun,nofun,nofun,nofun,nofun,nofun,nofun,nofun,nofun,nofun,nofun,nofun,nofun,nofun,nofun,nofun,nofun⟩
end HD
theorem PySem.Challenge.cw_wright_k39_places_moved_holds : PySem.Challenge.rw_wright_k39_places_moved.Holds := by
 refine HD.hold ?_ ?hw
 case hw=>w_witness2
 refine hJ.walk (l:=PySem.Challenge.rw_wright_k39_places_moved) (K:=HD.K) 277 282 311 279 286 313 nofun nofun nofun rfl HD.ok5 (λw h Y=>⟨PySem.W.km_in_of Y,PySem.W.km_tabs_of Y⟩) (λw=>by kernel_rfl) (λw=>by kernel_rfl) (λw=>by kernel_rfl) (λw=>by kernel_rfl) (λw=>by kernel_rfl) (λw=>by kernel_rfl) ?F;intro w mg fa h KX G SW;exact hJ.all_mk KX G SW (HD.Wz w.params)
