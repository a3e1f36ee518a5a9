import PyProof.Rows.All
import Wide.All
import OpenK.AllK
import Wide.FinOn
import Lean
import PyProof.EqAt
import PyProof.EqKinds
import PyProof.TupleCall
import KE.KNestM
import PyProof.IsiH_list
import PyProof.RaisesAny
import KE.KDictOf
import PyProof.CollectWalk
import PyProof.CompFree
import KE.KDictList
import PyProof.NeKinds
import PyProof.ConsumeWalk
import PyProof.StrBlockI
import PyProof.EnumFor
import PyProof.TupleIter
import PyProof.EnumMake
import KE.KLam
import PyProof.DictUpdate
import PyProof.SeqI3
import PyProof.DictWalks
import PyProof.ConsumeS
import PyProof.Rows.CallKwBuiltin
import KE.KDictLaws
import PyProof.AutoListH
import PyProof.ZipIter
import PyProof.ListNew
import KE.KRevSl
import PyProof.StrOps
import PyProof.StrOps2
import KE.KSortKey
import PyProof.SetScanFacts
import PyProof.Rows.SetFrom
import PyProof.DictItemsLoops
import KE.KPairComp
import KE.KDictSum
import PyProof.MinMaxWalk
import PyProof.StrCalls2
import PyProof.StrLawsTight
import PyProof.StrLawsChain
import PyProof.Rows.StrItems
import PyProof.StrCalls
import PyProof.Rows.StrPins
import PyProof.ListTruth
import PyProof.Rows.StrBool
import PySem.Challenge.RW_wright_k47_strengths
set_option Elab.async false
set_option linter.all false
set_option maxRecDepth 100000
set_option hygiene false
local macro_rules
|`(84)=>`((·.1))
|`(85)=>`(some o)
|`(86)=>`((br rfl))
|`(87)=>`(List aB)
|`(88)=>`((by simp))
|`(136)=>`(Sum.inr z)
|`(139)=>`(List (aL×V))
|`(141)=>`(Inv X ah σ H s)
|`(142)=>`((.lst []))
|`(143)=>`(Hp->Prop)
|`(149)=>`(Option V)
|`(151)=>`(Shared->Prop)
|`(152)=>`((λ_ _=>rfl))
|`(153)=>`((Sum.inr z))
|`(154)=>`((model X.prog X.w))
|`(155)=>`(ts.map V.ref)
|`(156)=>`(rs.map V.ref)
|`(160)=>`(s.heap.get? b=some o)
|`(161)=>`(.int (i:Int))
|`(163)=>`((model P w))
|`(179)=>`((P.ff ∅))
|`(180)=>`((rs.map V.ref))
|`(182)=>`((model prog w))
|`(183)=>`(.type "tuple")
|`(184)=>`(some (.dK kvs))
|`(185)=>`(jK rfl rfl rfl rfl nofun)
|`(186)=>`(.ref s.heap.objs.size)
|`(198)=>`((λvs H Q E h=>?_))
|`(203)=>`(s.heap.objs.size+1)
|`(204)=>`((0:Int)+(i:Int))
|`(217)=>`((λdP A outer s H vs Q E hr h=>?_))
|`(218)=>`(ts.map Value.ref)
|`(220)=>`(bF (by rw [aA];omega))
|`(221)=>`({ s with heap:=h' })
|`(222)=>`(some (.lst (ts.map V.ref)))
|`(237)=>`((upd H D (.lst [])))
|`(244)=>`((.dK (ps.map jh)))
|`(255)=>`((s.heap.objs.size+1))
|`(323)=>`(λy H4=>H4 D=some (.lst ys)/\ys.length < sizeLine/\W (i+1) m' (ys++[y]) σ2 (upd H4 D (.lst (ys++[y]))))
|`(325)=>`((∀ru∈aa,ru.2.length<=8))
|`(326)=>`((.lst (rs.map V.ref)))
|`(370)=>`(Nat->Nat->List V->St->Hp->Prop)
|`(397)=>`((.tup [.int (i:Int),.ref r]))
|`(398)=>`((.ref s.heap.objs.size))
|`(440)=>`((X.env.qual ++ "<lambda>"))
|`(443)=>`((seqObj "list" (ts.map Value.ref).toArray 0))
|`(446)=>`(λ_ _ _ _ _ _=>by exact v_ λ_=>rfl)
|`(447)=>`((λz=>decide (z∈a_.map (·.1))))
|`(448)=>`(List (List aL×Addr×Value))
|`(449)=>`(aF H H2/\H2 D=some (.lst ys))
|`(450)=>`(ai (λz=>by rw [z,hD] at hb;cases hb))
|`(451)=>`((λ_ _ _ _ _ _=>by exact v_ λ_=>rfl))
|`(454)=>`(absurd (show false=true from hs) bG)
|`(458)=>`({ cls:=.type "dict",data:=.dict #[] })
|`(459)=>`((sP X scope cl G2.objs.size s2 H2 (ts++js.map (·.2)) fp))
|`(460)=>`((cM (ha pos ah s σ H _ I h) λus s1 aW=>?_))
|`(461)=>`(starEach (e::es) X.env=(false,eval e X.env)::starEach es X.env)
|`(465)=>`(λh' eb=>⟨rfl,I.turned (t':=s.toks) (λb o hb e=>eb b o hb e) f0 f1 f3 f4 f5⟩)
|`(468)=>`(λσ2 H2=>tif σ2 H2 λb H3=>if b=true then te σ2 H3 λy H4=>H4 D=some (.lst ys)/\ys.length < sizeLine/\Pv (i+1) (ys++[y]) σ2 (upd H4 D (.lst (ys++[y]))) else Pv (i+1) ys σ2 H3)
|`(471)=>`(.inr ⟨⟨xs,xs[i],q,by simp [gR]⟩,Pv (i+1),λσ' H' p'=>⟨xs.length - (i+1),∅,rfl,gR,p'⟩,λx H' y=>?_⟩)
local macro_rules | `(tactic| omega) => `(tactic| first | lia | omega (config := {}))
local macro_rules | `(∅) => `(by omega)
local macro_rules | `(nofun) => `(by first | decide +kernel | kernel_rfl)
abbrev z0a:=Array (Option PySem.Value)
abbrev z0b:=PySem.Value->PySem.Shared->Prop
abbrev z0c:=PySem.Str->Option PySem.Value
abbrev z0d:=List (PySem.Str×PySem.Value)
abbrev z0e:=List (PySem.Addr×PySem.Obj)
abbrev z0f:=List (PySem.Str×PySem.Addr)
abbrev z0g:=List (Nat×Nat)
abbrev z0h:=List (PySem.Str×Nat)
abbrev z0i:=List (Nat×PySem.Str)
abbrev z0j:=Option PySem.Value
abbrev z0k:=Array PySem.Value
abbrev z0l:=Option PySem.Addr
abbrev z0m:=List PySem.Value
abbrev z0n:=Option Int
abbrev z0o:=Option Nat
abbrev z0p:=List PySem.Addr
abbrev z0q:=List PySem.Expr
abbrev z0r:=Array Nat
abbrev z0s:=List PySem.Str
abbrev z0t:=List Int
abbrev z0u:=List Nat
def br:=@Or.inl
abbrev aU:=PySem.W.Frag
def qi:0<=PySem.sizeLine:=by decide
def DF:1<=PySem.sizeLine:=by decide
def kR:2<=PySem.sizeLine:=by decide
def O1:3<=PySem.sizeLine:=by decide
def Vl:4<=PySem.sizeLine:=by decide
def zl5:5<=PySem.sizeLine:=by decide
def zl6:6<=PySem.sizeLine:=by decide
def ao:=@PySem.wpAny_bind
def aA.{u,v}:=@List.length_map.{u,v}
def bw.{u}:=@List.getElem?_eq_some_iff.{u}
def ax:=@PySem.wpAny_pure
def a0:=@PySem.Heap.get?_push_of_some
def aS.{u,v}:=@List.getElem?_map.{u,v}
def bQ.{u,v}:=@Option.map_eq_some_iff.{u,v}
def bC.{u,v}:=@List.map_append.{u,v}
def a9:=@PySem.Paired.length
def dA.{u}:=@List.getElem?_eq_getElem.{u}
def aH:=@Nat.le_refl
def bE.{u}:=@List.mem_of_getElem?.{u}
def bB:=@PySem.Heap.get?_push_size
def bA.{u}:=@List.mem_singleton.{u}
def bH.{u}:=@List.length_append.{u}
def bG:=@Bool.false_ne_true
def ar.{u}:=@if_neg.{u}
def b9.{u}:=@List.mem_cons_of_mem.{u}
def bP.{u}:=@List.mem_cons_self.{u}
def aP:=@PySem.Heap.lt_size
def aX.{u}:=@List.mem_cons.{u}
def au.{u}:=@if_pos.{u}
def aR:=@Nat.ne_of_lt
def cu.{u}:=@List.size_toArray.{u}
def cz:=@Bool.false_eq_true
def cq:=@PySem.PassesOwn.never
def cE.{u}:=@List.take_length.{u}
def bD.{u,v}:=@List.mem_map.{u,v}
def bY.{u,v}:=@List.map_cons.{u,v}
def cD.{u}:=@List.mem_append.{u}
def dC:=@of_decide_eq_true
def d8:=@PySem.W.mg_none_of
def dB.{u}:=@List.length_take.{u}
def d7.{u}:=@List.take_add_one.{u}
def eV.{u}:=@Array.length_toList.{u}
def dW.{u}:=@List.length_cons.{u}
def cZ:=@decide_eq_true
def gi.{u}:=@List.mem_append_right.{u}
def eU:=@Nat.lt_of_lt_of_le
def hX:=@PySem.F.plainAttrs_list
def eQ:=@Int.toNat_natCast
def d6.{u}:=@List.mem_filter.{u}
def eP:=@PySem.wpAny_call_entry
def fM.{u}:=@List.nodup_append.{u}
def iz.{u}:=@List.length_filter_le.{u}
def gh:=@PySem.wpAny_newObj_type
def jH:=@PySem.F.type_list_append
def jG:=@PySem.F.slot_list_append
def fq.{u}:=@List.append_nil.{u}
def cY:=@Nat.zero_le
def gb.{u}:=@List.all_eq_true.{u}
def fK:=@decide_eq_false
def dU:=@Nat.le_trans
def iw.{u,v}:=@List.mem_map_of_mem.{u,v}
def iu:=@Nat.lt_of_le_of_lt
def iZ.{u}:=@beq_eq_false_iff_ne.{u}
def fk:=@Bool.not_true
def lQ.{u}:=@Option.isSome_iff_exists.{u}
def jF.{u}:=@List.mem_iff_getElem.{u}
def iY:=@PySem.Heap.SameBut.update
def dw:=@PySem.wpAny_mono
def iX.{u}:=@List.pairwise_cons.{u}
def gG:=@List.mem_range
def fJ:=@PySem.wpAny_holding
def lP:=@PySem.wpAny_callSpecial?_slot
def fj.{u,v,w}:=@List.map_map.{u,v,w}
def hV:=@Bool.eq_iff_iff
def lO.{u}:=@List.length_singleton.{u}
def lN.{u}:=@Array.getElem?_toList.{u}
def hU:=@PySem.boot_len
def pL:=@Classical.byContradiction
def pK.{u}:=@Array.getElem?_eq_getElem.{u}
def jR.{u}:=@List.filter_append.{u}
def lM:=@PySem.Around.under_plainId
def mZ.{u}:=@List.getElem?_eq_none.{u}
def jQ:=@PySem.Calls.spliced_cons
def qH.{u}:=@List.getD_eq_getElem?_getD.{u}
def mY:=@PySem.Heap.get?_update_self
def qG.{u}:=@Array.getElem?_eq_some_iff.{u}
def mX.{u}:=@List.mem_append_left.{u}
def gP:=@Nat.ne_of_gt
def jE.{u}:=@Option.some.inj.{u}
def jD.{u}:=@List.length_nil.{u}
def jP:=@Nat.lt_succ_self
def jO.{u,v}:=@List.mem_flatMap.{u,v}
def lL:=@PySem.wpAny_setField_rec
def lK.{u}:=@List.append_assoc.{u}
def iW:=@PySem.Heap.size_push
def jN:=@PySem.wpAny_isInstance
def lJ:=@PySem.wpAny_setState_of
def iV:=@Nat.lt_irrefl
def pJ:=@Bool.and_eq_true_iff
def lI.{u}:=@beq_self_eq_true.{u}
def jC:=@PySem.wpAny_seqItems
def mW:=@PySem.wpAny_Call_Name_kw
def jM:=@PySem.codeAny_builtin
def mV:=@Nat.lt_succ_of_lt
def mU:=@List.length_range
def qF.{u}:=@List.mem_iff_getElem?.{u}
def qE:=@PySem.Calls.callWith_builtin
def jr:=@PySem.wpAny_truthy_bool
def j5:=@PySem.tupleKind_room_in1
def j4:=@PySem.Obj.data_mapFields
def fP:=@PySem.wpAny_field
def fO:=@PySem.sizeLine_eq
def fN:=@PySem.Paired.snoc
def j3.{u,v}:=@List.pairwise_map.{u,v}
def qZ:=@PySem.F.slot_dict_itemiterator_next
def jq:=@PySem.Around.in1_units
def qY:=@PyProof.Rows.callWith_type1
def gp:=@Nat.le_succ
def jo.{u}:=@List.nodup_cons.{u}
def oQ.{u}:=@Array.getElem?_eq_none.{u}
def qX:=@PySem.F.slot_dict_keyiterator_next
def qW.{u}:=@List.getElem?_append_right.{u}
def jZ:=@PySem.Calls.spliced_nil
def jY.{u}:=@List.not_mem_nil.{u}
def oP:=@PySem.F.slot_dict_get
def cV.{u}:=@Ne.symm.{u}
def jn.{u}:=@List.nodup_nil.{u}
def jm.{u,v,w}:=@List.forIn_nil.{u,v,w}
def jk:=@Bool.not_false
def oO.{u}:=@List.getElem?_of_mem.{u}
def oN:=@PySem.wpAny_notOrdered_dict
def iM:=@PySem.wpAny_attempt
def iL:=@PySem.plainId_quiet
def mv.{u,v}:=@Option.isSome_map.{u,v}
def jX.{u,v,w}:=@List.forIn_cons.{u,v,w}
def iK:=@Nat.lt_trans
def iJ:=@Nat.le_of_lt
def qV:=@PySem.F.plainAttrs_dict
def qU.{u}:=@List.length_eq_zero_iff.{u}
def oM.{u,v}:=@List.flatMap_append.{u,v}
def oK:=@PySem.Calls.evalArgs_plain
def mr:=@PySem.wpAny_pyIter_list
def mq:=@PySem.wpAny_dictEntries
def iI:=@PySem.wpAny_typeOf
def v3:=@PySem.wpAny_typeNameOfWhole_itemiter
def vZ:=@PySem.F.slot_dict_setdefault
def oJ.{u,v}:=@List.zip_cons_cons.{u,v}
def oI.{u,v}:=@List.map_singleton.{u,v}
def oH.{u,v,w}:=@Array.forIn_toList.{u,v,w}
def vY:=@PySem.wpAny_typeNameOfWhole_keyiter
def jj.{u,v}:=@List.map_nil.{u,v}
def jW:=@PySem.wpAny_setField
def gN:=@PySem.wpAny_rule
def jV.{u,v}:=@Prod.mk.injEq.{u,v}
def qT.{u}:=@Array.mem_toList_iff.{u}
def mn:=@PySem.wpAny_specialOf
def mj:=@PySem.wpAny_passesOwn
def vX.{u}:=@List.getElem?_append_left.{u}
def oG.{u,v}:=@List.getElem_map.{u,v}
def oF:=@Bool.and_eq_true
def oE:=@PySem.wpAny_Call_method
def qS:=@PySem.mem_of_lookup
def qR.{u,v}:=@List.filterMap_cons.{u,v}
def vW:=@PySem.F.slot_tuple_iterator_next
def vV:=@PySem.wpAny_typeNameOf_itemiter
def vU:=@PyProof.Rows.boot_tuple
def oC.{u}:=@List.nil_append.{u}
def oB.{u}:=@List.find?_cons.{u}
def mi.{u}:=@List.any_cons.{u}
def oA:=@PySem.wpAny_askSetting
def vT:=@PySem.wpAny_typeNameOf_keyiter
def jU:=@PySem.codeAny_mono
def vS:=@PySem.SetTable.toList_insertAt
def vR:=@PySem.F.entry_dict_get
def vQ:=@PySem.F.slot_list_getattribute
def jT:=@PySem.F.called_set
def qQ:=@Bool.eq_false_iff
def qP:=@PySem.wpAny_tupleItemsOf
def vP:=@PySem.wpAny_loadPart'
def oz:=@PySem.wpAny_dictEpoch
def qO:=@PySem.SeqAt.EqAt.int_int
def mh:=@Nat.zero_add
def vO.{u}:=@List.take_append_drop.{u}
def vN.{u}:=@Array.mem_of_getElem?.{u}
def qN.{u}:=@List.length_drop.{u}
def qM.{u}:=@List.filter_cons.{u}
def vM.{u}:=@List.mem_of_mem_take.{u}
def vL:=@PySem.Heap.get?_update_other
def oy:=@PySem.W.mg_of
def ox.{u}:=@List.sum_cons.{u}
def qL:=@PySem.F.slot_tuple_hash
def ou:=@PySem.wpAny_fieldsOf
def vK:=@PySem.wpAny_pyNext_list_end
def vJ:=@PySem.isSubtype_tuple_tuple
def vI:=@PySem.builtinLookup_eq_fast
def mf.{u,v}:=@Sum.inr.inj.{u,v}
def qK.{u,v}:=@Option.map_some.{u,v}
def vH:=@PySem.Obj.isFreed_of_fields
def qJ:=@Nat.not_lt_zero
def vG.{u,v}:=@List.map_congr_left.{u,v}
def vF.{u}:=@List.filter_sublist.{u}
def qI.{u}:=@List.filter_nil.{u}
def vE:=@PySem.F.slot_enumerate_next
def vD.{u}:=@Array.toList_append.{u}
def Ag.{u}:=@Array.getD_eq_getD_getElem?.{u}
def Af.{u}:=@List.perm_ext_iff_of_nodup.{u}
def vC:=@PySem.wpAny_loadName_local
def vB:=@PySem.codeAny_call_builtin
def vA:=@Nat.lt_or_eq_of_le
def vy.{u,v}:=@List.mem_filterMap.{u,v}
def Ae.{u}:=@List.pairwise_iff_getElem.{u}
def Ad.{u,v}:=@List.getElem?_zip_eq_some.{u,v}
def jS:=@PySem.wpAny_call
def Ac:=@PySem.F.slot_dict_update
def Ab:=@PySem.F.args_tuple_add_2
def Aa:=@PyProof.Rows.boot_sorted
def vx.{u}:=@List.take_sublist.{u}
def vw.{u,v}:=@List.foldl_append.{u,v}
def z_.{u}:=@List.Pairwise.imp_of_mem.{u}
def z9:=@PySem.F.entry_tuple_add
def ot:=@Int.le_refl
def vv:=@PySem.wpAny_pyIter_tuple
def vq:=@PySem.SeqAt.EqAt.str_str
def vp.{u}:=@List.getElem_mem.{u}
def vo.{u}:=@List.getElem_inj.{u}
def z8:=@PySem.F.slot_tuple_add
def z7:=@PySem.Calls.call_function_entry
namespace L2
open PySem PySem.Spec PyProof.Rows
abbrev aL:=Sum Int Str
def rV:aL->Value->Bool
 | .inl k,v=>Value.isInt k v
 | .inr x,v=>Value.isStrOf x v
def WT (w:World):aL->Int
 | .inl k=>hashInt k
 | .inr x=>hashStr w x
def cT:∀{k:aL}{v:Value},rV k v=true->(∃i t,k=Sum.inl i/\v=Value.int i t)\/(∃x t,k=Sum.inr x/\v=Value.str x t)
 | .inl i,v,h=>by
  obtain⟨t,e⟩:=Value.isInt_shape (k:=i) (v:=v) h;exact .inl ⟨i,t,rfl,e⟩
 | .inr x,v,h=>by
  obtain⟨t,e⟩:=Value.isStrOf_shape (x:=x) (v:=v) h;exact .inr ⟨x,t,rfl,e⟩
def Ey (i:Int)(t:Tok):rV (.inl i) (.int i t)=true:=by simp [rV,Value.isInt]
def Ex (x:Str)(t:Tok):rV (.inr x) (.str x t)=true:=by simp [rV,Value.isStrOf]
def NL (a b:Int):decide ((Sum.inl a:aL)=Sum.inl b)=(a == b):=by
 by_cases e:a=b
 .subst e;simp
 have h:¬(Sum.inl a:aL)=Sum.inl b:=λq=>e (Sum.inl.inj q);rw [fK h];exact(iZ.mpr e).symm
def NI (a b:Str):decide ((Sum.inr a:aL)=Sum.inr b)=decide (a=b):=by
 by_cases e:a=b
 .subst e;simp
 have h:¬(Sum.inr a:aL)=Sum.inr b:=λq=>e (mf q);rw [fK h,fK e]
def NK (a:Int)(b:Str):decide ((Sum.inl a:aL)=Sum.inr b)=false:=fK (λq=>nomatch q)
def NJ (a:Str) (b:Int):decide ((Sum.inr a:aL)=Sum.inl b)=false:=fK (λq=>nomatch q)
def aI (prog:Program)(w:World):PySem.KeyKind prog w aL where
 is:=rV
 hash:=WT w
 inj:=λv a b ha hb=>by
  rcases cT ha with ⟨i,t,rfl,rfl⟩ | ⟨x,t,rfl,rfl⟩
  .rcases cT hb with ⟨j,u,rfl,e⟩ | ⟨y,u,rfl,e⟩
   .injection e with e1 _;rw [e1]
   exact nomatch e
  rcases cT hb with ⟨j,u,rfl,e⟩ | ⟨y,u,rfl,e⟩
  .exact nomatch e
  injection e with e1 _;rw [e1]
 byValue:=λk v h=>by
  rcases cT h with ⟨i,t,rfl,rfl⟩ | ⟨x,t,rfl,rfl⟩ <;> rfl
 pyHash:=λhv h=>by
  rcases cT hv with ⟨i,t,rfl,rfl⟩ | ⟨x,t,rfl,rfl⟩
  .exact wpAny_pyHash_int h
  exact wpAny_pyHash_str h
 eqBool:=λhu hv h=>by
  rcases cT hu with ⟨i,t,rfl,rfl⟩ | ⟨x,t,rfl,rfl⟩
  .rcases cT hv with ⟨j,u,rfl,rfl⟩ | ⟨y,u,rfl,rfl⟩
   .rw [NL] at h;exact wpAny_eqBool_int h
   rw [NK] at h;exact SeqAt.EqAt.int_str i t y u _ _ _ _ h
  rcases cT hv with ⟨j,u,rfl,rfl⟩ | ⟨y,u,rfl,rfl⟩
  .rw [NJ] at h;exact SeqAt.EqAt.str_int x t j u _ _ _ _ h
  rw [NI] at h;exact wpAny_eqBool_str h
 «strs»:=λk x t v h=>by
  rcases cT h with ⟨i,u,rfl,e⟩ | ⟨y,u,rfl,e⟩
  .exact nomatch e
  injection e with e1 _;subst e1;cases v <;> rfl
def kq (prog:Program)(w:World) (i:Int)(t:Tok):(aI prog w).is (.inl i) (.int i t)=true:=Ey i t
def iE (prog:Program)(w:World)(x:Str)(t:Tok):(aI prog w).is (.inr x) (.str x t)=true:=Ex x t
inductive V where
 | dY | bl (b:Bool) | int (i:Int) | str (x:Str) | B4 (b:Array UInt8) | Sx (b:UInt64) | ref (a:Addr) | ty (n:String)
 deriving DecidableEq
def RelV:V->Value->Prop
 | .dY,u=>u=Value.none
 | .bl b,u=>u=Value.bool b
 | .int i,u=>∃t,u=Value.int i t
 | .str x,u=>∃t,u=Value.str x t
 | .B4 b,u=>∃t,u=Value.bytes b t
 | .Sx b,u=>∃t,u=Value.float b t
 | .ref a,u=>u=Value.ref a
 | .ty n,u=>u=Value.type n
abbrev bh:List V->z0m->Prop:=Paired RelV
theorem bh.length {xs:List V}{us:z0m}(r:bh xs us):xs.length=us.length:=a9 r
theorem bh.get:∀{xs:List V}{us:z0m}{i:Nat}{x:V},bh xs us->xs[i]?=some x->∃u,us[i]?=some u/\RelV x u
 | _,_,_,_,.nil,e=>by simp at e
 | _,_,0,_,.cons r _,e=>by simp at e;subst e;exact⟨_,rfl,r⟩
 | _,_,i+1,x,.cons _ t,e=>by
  obtain⟨u,h1,h2⟩:=bh.get (i:=i) (x:=x) t (by simpa using e);exact⟨u,by simpa using h1,h2⟩
theorem bh.append:∀{xs ys:List V}{us ws:z0m},bh xs us->bh ys ws->bh (xs++ys) (us++ws)
 | _,_,_,_,.nil,s=>s
 | _,_,_,_,.cons r t,s=>.cons r (bh.append t s)
theorem bh.take:∀{xs:List V}{us:z0m}(n:Nat),bh xs us->bh (xs.take n) (us.take n)
 | _,_,0,_=>.nil
 | _,_,_+1,.nil=>.nil
 | _,_,n+1,.cons r t=>.cons r (bh.take n t)
theorem bh.drop:∀{xs:List V}{us:z0m}(n:Nat),bh xs us->bh (xs.drop n) (us.drop n)
 | _,_,0,r=>r
 | _,_,_+1,.nil=>.nil
 | _,_,n+1,.cons _ t=>bh.drop n t
def jB:149->z0j->Prop
 | some v,some u=>RelV v u
 | none,none=>True
 | _,_=>False
def KV {κ:Type}:List (κ×V)->List (κ×Value)->Prop:=Paired λ(p:κ×V)(q:κ×Value)=>p.1=q.1/\RelV p.2 q.2
def kV:aL->V
 | .inl i=>.int i
 | .inr x=>.str x
inductive HO where
 | lst (xs:List V)
 | tup (xs:List V)
 | dK (kvs:139) | dT (kvs:List (List aL×V))
 | set (S:Int->Bool) (n:Nat)
 | ins (C dx:Addr)(fs:List (Str×V))
 | own (x:Addr)
 | xd (fs:List (Str×V))
 | met (f x:Addr)
 | Gk (lo hi:Int)
 | g9 (o:Obj)(u:HO)
 | tM (ps:z0k)
 | ext (φ:Heap->Prop)
abbrev Hp:=Addr->Option HO
def upd (H:Hp)(a:Addr)(o:HO):Hp:=λb=>if b=a then 85 else H b
def ae {a:Addr}{o:HO}:upd H a o a=85:=by unfold upd;rw [au rfl]
def ai {a b:Addr}{o:HO}(h:b≠a):upd H a o b=H b:=by unfold upd;rw [ar h]
def wa {a:Addr}{o u:HO}:upd (upd H a o) a u=upd H a u:=by
 funext b;unfold upd;split <;> rfl
def Ho {H:Hp}{a b:Addr}{o u:HO}(h:H a=85)(h':H b=some u)(d:o≠u):a≠b:=by
 intro e;subst e;rw [h] at h';exact d (jE h')
def ay {H:Hp}{a b:Addr}{o:HO}(h:H a=85)(h':H b=none):a≠b:=by
 intro e;subst e;rw [h] at h';cases h'
section
variable (P:Program)(w:World)
def bO (H:Hp)(h:Heap)(a:Addr):HO->Prop
 | .lst xs=>xs.length<=sizeLine/\∃(aK:z0m) (n:Nat),bh xs aK/\h.get? a=some { cls:=.type "list",data:=.seq aK.toArray n }
 | .tup xs=>xs.length<=sizeLine/\∃aK:z0m,bh xs aK/\IsTup h a aK.toArray
 | .dK kvs=>kvs.length<=sizeLine/\(a == sysModules)=false/\∃vs,KV kvs vs/\h.DictOf (aI P w) a vs
 | .dT kvs=>kvs.length<=sizeLine/\(a == sysModules)=false/\∃xs:448,
   Paired (λ(p:List aL×V)(q:List aL×Addr×Value)=>p.1=q.1/\H q.2.1=some (.tup (p.1.map kV))/\RelV p.2 q.2.2) kvs xs /\
   ∃o es ep,h.get? a=85/\o.ExactDict/\o.data=.dict es ep/\es.toList=xs.map (entryOfKey (tupleKind (aI P w)))/\(xs.map 84).Nodup
 | .set S n=>h.SetOf (intKind P w) a S n
 | .ins C dx fs=>H dx=some (.own a)/\fs.length<=1000/\dx≠a/\h.get? a=some (PySem.W.instObj C dx) /\
   ∃mA,h.Ns1 dx mA/\(∀f,jB (fs.lookup f) (mA f))/\PySem.Within mA (fs.map 84)
 | .own _=>∃o,h.get? a=85
 | .xd fs=>∃mA,h.Ns1 a mA/\∀f,jB (fs.lookup f) (mA f)
 | .Gk lo hi=>∃t u v,h.get? a=some { cls:=.type "range",data:=.fields #[.int lo t,.int hi u,.int 1 v] }
 | .g9 o u=>h.get? a=85/\bO H h a u
 | .tM ps=>h.get? a=some { cls:=.none,data:=.fields ps }
 | .met f x=>h.get? a=some (PySem.W.methodObj (.ref f) (.ref x))
 | .ext φ=>φ h/\(∃o,h.get? a=85)/\∀h1 h2:Heap,φ h1->(∀o,h1.get? a=85->h2.get? a=85)->φ h2
def mS (H:Hp)(h:Heap):Prop:=∀a o,H a=85->bO P w H h a o
end
section
variable {P:Program}{w:World}{H H':Hp}{h h':Heap}{a:Addr}{o:HO}
theorem bO.lt (x:bO P w H h a o):a < h.objs.size:=by
 cases o with
 | lst xs=>obtain⟨_,_,_,_,e⟩:=x;exact aP e
 | tup xs=>obtain⟨_,_,_,p⟩:=x;exact p.lt
 | dK kvs=>obtain⟨_,_,_,_,o,_,_,e,_⟩:=x;exact aP e
 | dT kvs=>obtain⟨_,_,_,_,o,_,_,e,_⟩:=x;exact aP e
 | set S n=>obtain⟨o,_,_,_,e,_⟩:=x;exact aP e
 | ins C dx fs=>obtain⟨_,_,_,e,_⟩:=x;exact aP e
 | own y=>obtain⟨_,e⟩:=x;exact aP e
 | xd fs=>obtain⟨_,⟨_,_,_,e,_⟩,_⟩:=x;exact aP e
 | Gk lo hi=>obtain⟨_,_,_,e⟩:=x;exact aP e
 | g9 ob u=>obtain⟨e,_⟩:=x;exact aP e
 | tM ps=>exact aP (show h.get? a=some _ from x)
 | met f y=>exact aP (show h.get? a=some _ from x)
 | ext φ=>obtain⟨_,⟨_,e⟩,_⟩:=x;exact aP e
theorem Paired.iq {α β:Type}{F G:α->β->Prop}:∀{l₁:List α}{l₂:List β},Paired F l₁ l₂->(∀a b,F a b->G a b)->Paired G l₁ l₂
 | _,_,.nil,_=>.nil
 | _,_,.cons r t,f=>.cons (f _ _ r) (Paired.iq t f)
def bO.jJ (x:bO P w H h a o)(k:∀b u,(b=a\/H b=some (.own a))->h.get? b=some u->h'.get? b=some u)
  (ho:∀b,H b=some (.own a)->H' b=some (.own a))(ht:∀b xs,H b=some (.tup xs)->H' b=some (.tup xs)):bO P w H' h' a o:=by
 induction o with
 | lst xs=>obtain⟨z,aK,n,r,e⟩:=x;exact⟨z,aK,n,r,k _ _ (.inl rfl) e⟩
 | tup xs=>obtain⟨z,aK,r,ob,e,c⟩:=x;exact⟨z,aK,r,ob,k _ _ (.inl rfl) e,c⟩
 | dK kvs=>obtain⟨z,y,vs,r,ob,es,ep,e,c⟩:=x;exact⟨z,y,vs,r,ob,es,ep,k _ _ (.inl rfl) e,c⟩
 | dT kvs =>
  obtain⟨z,y,xs,r,ob,es,ep,e,c⟩:=x;exact⟨z,y,xs,Paired.iq r λp q z=>⟨z.1,ht _ _ z.2.1,z.2.2⟩,ob,es,ep,k _ _ (.inl rfl) e,c⟩
 | set S n=>obtain⟨ob,es,ep,t,e,c⟩:=x;exact⟨ob,es,ep,t,k _ _ (.inl rfl) e,c⟩
 | ins C dx fs =>
  obtain⟨d,z,ne,e,mA,⟨od,es,ep,e2,c⟩,r⟩:=x;exact⟨ho _ d,z,ne,k _ _ (.inl rfl) e,mA,⟨od,es,ep,k _ _ (.inr d) e2,c⟩,r⟩
 | own y=>obtain⟨ob,e⟩:=x;exact⟨ob,k _ _ (.inl rfl) e⟩
 | xd fs=>obtain⟨mA,⟨od,es,ep,e,c⟩,r⟩:=x;exact⟨mA,⟨od,es,ep,k _ _ (.inl rfl) e,c⟩,r⟩
 | Gk lo hi=>obtain⟨t,u,v,e⟩:=x;exact⟨t,u,v,k _ _ (.inl rfl) e⟩
 | g9 ob u ih=>obtain⟨e,q⟩:=x;exact⟨k _ _ (.inl rfl) e,ih q⟩
 | tM ps =>
  have e:h.get? a=some { cls:=.none,data:=.fields ps }:=x;show h'.get? a=some { cls:=.none,data:=.fields ps };exact k a _ (.inl rfl) e
 | met f y =>
  have e:h.get? a=some (PySem.W.methodObj (.ref f) (.ref y)):=x;show h'.get? a=some (PySem.W.methodObj (.ref f) (.ref y));exact k a _ (.inl rfl) e
 | ext φ=>obtain⟨p,⟨o,e⟩,st⟩:=x;exact⟨st _ _ p λo q=>k _ _ (.inl rfl) q,⟨o,k _ _ (.inl rfl) e⟩,st⟩
theorem mS.lt (x:mS P w H h)(e:H a=85):a < h.objs.size:=(x a o e).lt
def mS.fresh (x:mS P w H h)(e:h.objs.size<=a):H a=none:=by
 cases q:H a with
 | none=>rfl
 | some u=>exact absurd (eU (x.lt q) e) (iV _)
def mS.kept (x:mS P w H h)(k:∀b u,h.get? b=some u->h'.get? b=some u):mS P w H h':=λa o e =>
 (x a o e).jJ (λb u _ q=>k b u q) (λ_ q=>q) λ_ _ q=>q
def mS.laid (x:mS P w H h)(k:∀b u,h.get? b=some u->h'.get? b=some u)(hp:h.objs.size<=a)(new:bO P w (upd H a o) h' a o):mS P w (upd H a o) h':=λb u e=>by
 have hn:=x.fresh hp;by_cases hb:b=a
 .subst hb;rw [ae] at e;cases e;exact new
 rw [ai hb] at e;exact(x b u e).jJ (λc v _ q=>k c v q) (λc q=>by rw [ai (ay q hn)];exact q) λc xs q=>by rw [ai (ay q hn)];exact q
end
def Rd (H:Hp)(a:Addr)(u:HO):Prop:=H a=some u\/∃o,H a=some (.g9 o u)
def Rd.ok {h:Heap}{a:Addr}{u:HO}(r:Rd H a u)(x:mS P w H h):bO P w H h a u:=by
 rcases r with r | ⟨o,r⟩
 .exact x a u r
 obtain⟨_,q⟩:=x a _ r;exact q
def TB:Option HO->Prop
 | some (.lst _)=>True
 | some (.dK _)=>True
 | some (.dT _)=>True
 | some (.set _ _)=>True
 | some (.ins _ _ _)=>True
 | some (.ext _)=>True
 | _=>False
section
variable {P:Program}{w:World}{H:Hp}{h h':Heap}{x e:Addr}{o':HO}
def mS.write (ok:mS P w H h)(mu:TB (H x))(he:e=x\/H e=some (.own x))(k:∀b u,b≠e->h.get? b=some u->h'.get? b=some u)(Px:∃u,h'.get? e=some u)
  (new:bO P w (upd H x o') h' x o'):mS P w (upd H x o') h':=λb u q=>by
 have Q4:∀c y,H c=some (.own y)->c≠x:=λc y r z=>by subst z;rw [r] at mu;exact mu
 have Wf:∀c xs,H c=some (.tup xs)->c≠x:=λc xs r z=>by subst z;rw [r] at mu;exact mu
 by_cases hb:b=x
 .subst hb;rw [ae] at q;cases q;exact new
 rw [ai hb] at q;by_cases Oc:b=e
 .have q':H b=some (.own x):=by
   rcases he with z | z
   .exact absurd (Oc.trans z) hb
   rw [Oc];exact z
  rw [q] at q';cases q';obtain⟨v,hv⟩:=Px;exact⟨v,by rw [Oc];exact hv⟩
 refine(ok b u q).jJ (λc v hc r=>k c v ?_ r) (λc r=>by rw [ai (Q4 c b r)];exact r) λc xs r=>by rw [ai (Wf c xs r)];exact r
 rcases hc with rfl | hc
 .exact Oc
 rintro rfl;rcases he with z | z
 .exact Q4 c b hc z
 rw [hc] at z;cases z;exact hb rfl
end
structure Un (fs ex:z0p)(H H':Hp)(h h':Heap):Prop where
 keep:∀b o,h.get? b=85->H b=none->b∉fs->b∉ex->h'.get? b=85
 slot:∀b o,h.get? b=85->H b=none->b∈fs->b∉ex->∃sl,h'.get? b=some { o with slots:=sl }
 free:∀b o,h.get? b=85->H b=none->b∉ex->H' b=none
 there:∀b o,h.get? b=85->b∉ex->∃o',h'.get? b=some o'
 wb:∀b xs,H b=some (.tup xs)->H' b=some (.tup xs)
 uc:∀b o u,H b=some (.g9 o u)->H' b=some (.g9 o u)
 tR:∀b ps,H b=some (.tM ps)->∃more,H' b=some (.tM (ps++more))
section
variable {fs Mf ex Yo:z0p}{H H1 H2:Hp}{h h1 h2 h':Heap}{a x e:Addr}{o:HO}
def Un.any (u:Un fs ex H H1 h h1){b:Addr}(q:h.get? b=some ob)(n:H b=none)(hx:b∉ex):∃sl,h1.get? b=some { ob with slots:=sl }:=by
 by_cases hb:b∈fs
 .exact u.slot b ob q n hb hx
 exact⟨ob.slots,u.keep b ob q n hb hx⟩
def Un.kept (k:∀b u,h.get? b=some u->h'.get? b=some u):Un fs ex H H h h' :=
 ⟨λb ob q _ _ _=>k b ob q,λb ob q _ _ _=>⟨ob.slots,k b ob q⟩,λ_ _ _ n _=>n,λb ob q _=>⟨ob,k b ob q⟩,λ_ _ q=>q,λ_ _ _ q=>q,λ_ ps q=>⟨#[],by rw [q];simp⟩⟩
def Un.refl:Un fs ex H H h h:=Un.kept λ_ _ q=>q
def Un.laid (k:∀b u,h.get? b=some u->h'.get? b=some u)(hp:h.objs.size<=a)(hn:H a=none):Un fs ex H (upd H a o) h h' where
 keep:=λb u q _ _ _=>k b u q
 slot:=λb u q _ _ _=>⟨u.slots,k b u q⟩
 free:=λb u q n _=>by rw [ai (aR (eU (aP q) hp))];exact n
 there:=λb u q _=>⟨u,k b u q⟩
 wb:=λb xs q=>by rw [ai (ay q hn)];exact q
 uc:=λb u xs q=>by rw [ai (ay q hn)];exact q
 tR:=λb ps q=>⟨#[],by rw [ai (ay q hn),q];simp⟩
def Un.write (mu:TB (H x))(he:e=x\/H e=some (.own x))(k:∀b u,b≠e->h.get? b=some u->h'.get? b=some u)(Px:∃u,h'.get? e=some u):Un fs ex H (upd H x o) h h':=by
 have hx:∀b,H b=none->b≠x:=λb n z=>by subst z;rw [n] at mu;exact mu
 have hb:∀b,H b=none->b≠e:=λb n z=>by
  subst z;rcases he with r | r
  .exact hx b n r
  rw [n] at r;cases r
 have hm:∀b u,H b=some u->¬TB (some u)->b≠x:=λb u q nm z=>by subst z;rw [q] at mu;exact nm mu
 refine⟨λb u q n _ _=>k b u (hb b n) q,λb u q n _ _=>⟨u.slots,k b u (hb b n) q⟩,λb u q n _=>by rw [ai (hx b n)];exact n,λb u q _=>?_,
  λb xs q=>by rw [ai (hm b _ q λz=>z)];exact q,λb u xs q=>by rw [ai (hm b _ q λz=>z)];exact q,λb ps q=>⟨#[],by rw [ai (hm b _ q λz=>z),q];simp⟩⟩
 by_cases Oc:b=e
 .subst Oc;exact Px
 exact⟨u,k b u Oc q⟩
end
def Ji (h:Heap)(H:Hp):z0p:=(List.range h.objs.size).filter λa=>(H a).isSome
def ua (h:Heap)(H:Hp):Heap:=PySem.W.hideAll h (Ji h H)
def EE (h:Heap)(H:Hp):(ua h H).objs.size=h.objs.size:=PySem.W.hideAll_size _ _
def HX {h:Heap}{b:Addr}{o:Obj}(e:h.get? b=85)(n:H b=none):(ua h H).get? b=85 :=
 PySem.W.hideAll_get _ e λhm=>by
  have q:(H b).isSome=true:=(d6.mp hm).2;rw [n] at q;simp at q
def Kf {h:Heap}{b:Addr}{o:Obj}(e:(ua h H).get? b=85):h.get? b=85/\H b=none:=by
 have e':h.get? b=85:=PySem.W.of_hideAll (Ji h H) e;refine⟨e',?_⟩;cases q:H b with
 | none=>rfl
 | some x =>
  have hm:b∈Ji h H:=d6.mpr ⟨gG.mpr (aP e'),by simp [q]⟩;have z:(ua h H).get? b=none:=PySem.W.hideAll_none (Ji h H) hm;rw [z] at e;cases e
structure Mod (K:aU)(mg:z0c)(base:Heap):Prop where
 Rv:K.In base
 glob:base.Ns mainGlobals mg
 blt:∃mb,base.Ns builtinsNs mb/\∀x:Str,x ≠ "__name__" -> mb x=bootBuiltins x
 nolimit:base.NoLimit
structure Cx where
 prog:Program
 w:World
 K:aU
 mg:Str->z0j
 base:Heap
 A:Around
 N:z0s
 s₀:Shared
 H₀:Hp
 env:Env
 outer:List Env
 stack:List Env
 ex:z0p
 fn:Str->Bool
 calm:Bool
 pn:z0e
 xe:Value->151
def EK (l:List Env):z0p:=l.filterMap (·.frame)
abbrev Cx.fs (X:Cx):z0p:=EK X.outer
def Vd (sc:Scope)(x:Str):Prop:=sc.names.lookup x=some .local\/sc.names.lookup x=some .cell\/sc.names.lookup x=some .free
def Loc (sc:Scope)(x:Str):Prop:=sc.names.lookup x=some .local\/sc.names.lookup x=some .cell
def Look (env:Env)(h:Heap)(m:z0c)(x:Str)(u:Value):Prop :=
 (env.kindOf x=some .local/\m x=some u)\/((env.kindOf x=some .cell\/env.kindOf x=some .free)/\∃c,env.cells.lookup x=some c/\h.IsCell c (some u))
structure Cx.Ok (X:Cx):Prop where
 mod:Mod X.K X.mg X.base
 kind:X.env.scope.kind=.function
 glob:X.env.globals=mainGlobals
 blt:X.env.builtins=builtinsNs
 above:X.s₀.heap.objs.size<=X.env.locals
 inj:∀x y c,X.env.cells.lookup x=some c->X.env.cells.lookup y=some c->x=y
 has:∀x,(X.env.kindOf x=some .cell\/X.env.kindOf x=some .free)->∃c,X.env.cells.lookup x=some c
 Te:∀x c,X.fn x=true->X.env.cells.lookup x=some c->X.s₀.heap.objs.size<=c
 hd:X.calm=true->X.A.handled=none
 frames:X.A.frames=some X.stack
 T7:X.stack=X.outer\/(X.stack=X.env::X.outer/\X.env.frame=some X.env.locals)
 PM:∀b∈X.ex,b≠X.env.locals/\∀x c,X.env.cells.lookup x=some c->c≠b
 bs:∀b o,X.base.get? b=85->X.s₀.heap.get? b=85/\X.H₀ b=none
 K8:X.base.objs.size<=X.s₀.heap.objs.size
 Hm:∀b o,X.base.get? b=85->b∉X.ex
 EN:∀b∈X.ex,b∉X.fs
 qd:X.s₀.heap.FunFrames X.base X.outer
 Oj:∀b∈X.fs,X.H₀ b=none
structure Inv (X:Cx)(ah:z0e)(σ:List (149))(H:Hp)(s:Shared):Prop where
 ok:X.Ok
 os:s.os=X.s₀.os
 bare:AllBare s.gens
 base:Un X.fs X.ex X.H₀ H X.s₀.heap s.heap
 loc:∃m,s.heap.Ns X.env.locals m/\∀(i:Nat)(x:Str)(v:V),X.N[i]?=some x->σ[i]?=some (some v)->Vd X.env.scope x->∃u,RelV v u/\Look X.env s.heap m x u
 cell:∀x c,X.env.cells.lookup x=some c->∃v,s.heap.IsCell c v
 free:H X.env.locals=none
 kK:∀x c,X.env.cells.lookup x=some c->H c=none
 pin:∀p∈X.pn++ah,s.heap.get? p.1=some p.2/\H p.1=none/\p.1≠X.env.locals/\p.1∉X.fs/\∀v,p.2.data≠.cell v
 bI:mS X.prog X.w H s.heap
 len:σ.length=X.N.length
section
variable {X:Cx}{ah:z0e}{σ:List (149)}{H H':Hp}{s:Shared}{h':Heap}
def Cx.Ok.Wj (ok:X.Ok){b:Addr}{o:Obj}(e:X.base.get? b=85):b∉X.fs:=λhb=>by
 have:=(ok.qd.mem hb).1;rw [e] at this;cases this
theorem Inv.bs (I:141):∀b o,X.base.get? b=85->160/\H b=none:=λb o e =>
 ⟨I.base.keep b o (I.ok.bs b o e).1 (I.ok.bs b o e).2 (I.ok.Wj e) (I.ok.Hm b o e),I.base.free b o (I.ok.bs b o e).1 (I.ok.bs b o e).2 (I.ok.Hm b o e)⟩
def Inv.bk (I:141):∀b o,X.base.get? b=85->160:=λb o e=>(I.bs b o e).1
theorem Inv.mod (I:141):Mod X.K X.mg X.base:=I.ok.mod
def Inv.xp (I:141):X.K.In s.heap:=I.ok.mod.Rv.keeps I.bk
def Inv.fr (I:141):∃m,Fr X.base X.env.locals s.heap m :=
 let ⟨m,hn,_⟩:=I.loc
 ⟨m,hn,I.bk,dU I.ok.K8 I.ok.above⟩
theorem Inv.lt (I:141):X.env.locals < s.heap.objs.size:=let ⟨_,hn,_⟩:=I.loc;hn.lt
def Inv.sz (I:141):X.s₀.heap.objs.size<=s.heap.objs.size:=dU I.ok.above (iJ I.lt)
def Inv.Wi (I:141){a:Addr}(h:s.heap.objs.size<=a):a∉X.fs:=λhb=>by
 obtain⟨_,o,ho,_⟩:=I.ok.qd.mem hb;exact absurd (eU (aP ho) (dU I.sz h)) (iV _)
def Inv.OQ (I:141):∀x c,X.env.cells.lookup x=some c->c≠X.env.locals:=λx c e z=>by
 obtain⟨v,o,ho,hd⟩:=I.cell x c e;obtain⟨m,⟨o',es,ep,Bu,EH,_⟩,_⟩:=I.loc;rw [z,Bu] at ho;cases ho;rw [EH] at hd;cases hd
theorem Inv.qd (I:141):s.heap.FunFrames X.base X.outer:=by
 have all:∀(l:List Env),(∀b∈EK l,b∈X.fs)->X.s₀.heap.FunFrames X.base l->s.heap.FunFrames X.base l:=by
  intro l
  induction l with
  | nil=>intro _ _;trivial
  | cons env r ih =>
   intro hs hl;obtain⟨hk,⟨L,o,hf,hn,ho,hd⟩,hr⟩:=hl;have hL:L∈X.fs:=hs L (by unfold EK;rw [qR,hf];exact bP);obtain⟨sl,e⟩:=I.base.slot L o ho (I.ok.Oj L hL) hL λz=>I.ok.EN L z hL;exact⟨hk,⟨L,_,hf,hn,e,hd⟩,ih (λb hb=>hs b (by unfold EK;rw [qR,hf];exact b9 _ hb)) hr⟩
 exact all X.outer (λ_ hb=>hb) I.ok.qd
theorem Inv.stack (I:141):s.heap.FunFrames X.base X.stack:=by
 rcases I.ok.T7 with e | ⟨e,hf⟩
 .rw [e];exact I.qd
 rw [e];obtain⟨m,hn,_⟩:=I.loc;refine .cons (by rw [I.ok.kind];decide) hf hn ?_ I.qd;exact Heap.get?_none_of_le (dU I.ok.K8 I.ok.above)
def Inv.Aq (I:141):∀b∈EK X.stack,b∈X.env.locals::X.fs:=λb hb=>by
 rcases I.ok.T7 with e | ⟨e,hf⟩
 .rw [e] at hb;exact b9 _ hb
 rw [e] at hb;unfold EK at hb;rw [qR,hf] at hb;exact hb
def Inv.Cu (I:141):∀b∈EK X.stack,H b=none:=λb hb=>by
 rcases aX.mp (I.Aq b hb) with e | hb
 .rw [e];exact I.free
 obtain⟨_,o,ho,_⟩:=I.ok.qd.mem hb;exact I.base.free b o ho (I.ok.Oj b hb) λz=>I.ok.EN b z hb
def Inv.step {g':Array GenState}{t':Nat}{d':Drawn}{ch:z0p}(I:141)
  (Jm:∀b∈ch,(b∈X.ex\/X.s₀.heap.objs.size<=b)/\b≠X.env.locals/\(∀x c,X.env.cells.lookup x=some c->c≠b)/\∀p∈X.pn++ah,p.1≠b)
  (keep:∀b o,b≠X.env.locals->b∉X.fs->b∉ch->160->H b=none->h'.get? b=85)
  (slot:∀b o,b≠X.env.locals->b∈X.fs->b∉ch->160->H b=none->∃sl,h'.get? b=some { o with slots:=sl })(free:∀b o,b∉ch->160->H b=none->H' b=none)
  (there:∀b o,b∉ch->160->∃o',h'.get? b=some o')
  (wb:∀b xs,H b=some (.tup xs)->H' b=some (.tup xs))(uc:∀b o u,H b=some (.g9 o u)->H' b=some (.g9 o u))(tR:∀b ps,H b=some (.tM ps)->∃more,H' b=some (.tM (ps++more)))
  (ns:∀m,s.heap.Ns X.env.locals m->h'.Ns X.env.locals m)(bI:mS X.prog X.w H' h')(hg:AllBare g') :
  Inv X ah σ H' { s with heap:=h',gens:=g',drawn:=d',toks:=t' }:=by
 have neL:∀b o,X.s₀.heap.get? b=85->b≠X.env.locals:=λb o e=>aR (eU (aP e) I.ok.above);have Ph:∀b o,X.s₀.heap.get? b=85->b∉X.ex->b∉ch:=λb o e hx hb=>by
  rcases (Jm b hb).1 with z | z
  .exact hx z
  exact absurd (eU (aP e) z) (iV _)
 have cellK:∀x c,X.env.cells.lookup x=some c->∀v,s.heap.IsCell c v->h'.IsCell c v:=λx c e v ⟨o,ho,hd⟩=>by
  have Q9:c∉ch:=λz=>(Jm c z).2.2.1 x c e rfl;by_cases hc:c∈X.fs
  .obtain⟨sl,q⟩:=slot c o (I.OQ x c e) hc Q9 ho (I.kK x c e);exact⟨_,q,hd⟩
  exact⟨o,keep c o (I.OQ x c e) hc Q9 ho (I.kK x c e),hd⟩
 refine⟨I.ok,I.os,hg,⟨λb o e n hb hx=>?_,λb o e n hb hx=>?_,λb o e n hx=>?_,λb o e hx=>?_,λb xs e=>wb b xs (I.base.wb b xs e),λb o xs e=>uc b o xs (I.base.uc b o xs e),λb ps e=>?_⟩,?_,λx c e=>?_,?_,λx c e=>?_,λp hp=>?_,bI,I.len⟩
 .exact keep b o (neL b o e) hb (Ph b o e hx) (I.base.keep b o e n hb hx) (I.base.free b o e n hx)
 .obtain⟨sl,e1⟩:=I.base.slot b o e n hb hx;obtain⟨sl',e2⟩:=slot b _ (neL b o e) hb (Ph b o e hx) e1 (I.base.free b o e n hx);exact⟨sl',e2⟩
 .obtain⟨o',e1⟩:=I.base.there b o e hx;exact free b o' (Ph b o e hx) e1 (I.base.free b o e n hx)
 .obtain⟨o',e1⟩:=I.base.there b o e hx;exact there b o' (Ph b o e hx) e1
 .obtain⟨m1,e1⟩:=I.base.tR b ps e;obtain⟨m2,e2⟩:=tR b _ e1;exact⟨m1++m2,by rw [e2,Array.append_assoc]⟩
 .obtain⟨m,hn,hl⟩:=I.loc;refine⟨m,ns m hn,λi x v e1 e2 e3=>?_⟩;obtain⟨u,r,l⟩:=hl i x v e1 e2 e3;refine⟨u,r,?_⟩;rcases l with l | ⟨k,c,e,z⟩
  .exact .inl l
  exact .inr ⟨k,c,e,cellK x c e _ z⟩
 .obtain⟨v,z⟩:=I.cell x c e;exact⟨v,cellK x c e v z⟩
 .obtain⟨m,⟨o,_,_,ho,_⟩,_⟩:=I.loc;exact free _ o (λz=>(Jm _ z).2.1 rfl) ho I.free
 .obtain⟨v,o,ho,hd⟩:=I.cell x c e;exact free c o (λz=>(Jm c z).2.2.1 x c e rfl) ho (I.kK x c e)
 obtain⟨e,n,ne,nf,d⟩:=I.pin p hp;have Q9:p.1∉ch:=λz=>(Jm p.1 z).2.2.2 p hp rfl;exact⟨keep p.1 p.2 ne nf Q9 e n,free p.1 p.2 Q9 e n,ne,nf,d⟩
def Inv.un {t':Nat}(I:141)(u:Un X.fs [] H H' s.heap h')(bI:mS X.prog X.w H' h'):Inv X ah σ H' { s with heap:=h',toks:=t' }:=by
 obtain⟨m,⟨o,es,ep,ho,r⟩,_⟩:=id I.loc;obtain⟨sl,hL⟩:=u.any ho I.free 88;exact I.step (g':=s.gens) (d':=s.drawn) (ch:=[]) (λ_ z=>nomatch z) (λb o _ hb _ e n=>u.keep b o e n hb 88) (λb o _ hb _ e n=>u.slot b o e n hb 88) (λb o _ e n=>u.free b o e n 88) (λb o _ e=>u.there b o e 88) u.wb u.uc u.tR (λm' hm=>by
  obtain⟨o',tP,PV,Bu,r'⟩:=hm;rw [ho] at Bu;cases Bu;exact⟨_,tP,PV,hL,r'⟩) bI I.bare
def Inv.call {g':Array GenState}{t':Nat}{d':Drawn}{ch:z0p}(I:141)(u:Un (EK X.stack) ch H H' s.heap h')(bI:mS X.prog X.w H' h')(hg:AllBare g')
  (Jm:∀b∈ch,(b∈X.ex\/X.s₀.heap.objs.size<=b)/\b≠X.env.locals/\(∀x c,X.env.cells.lookup x=some c->c≠b)/\∀p∈X.pn++ah,p.1≠b) :
  Inv X ah σ H' { s with heap:=h',gens:=g',drawn:=d',toks:=t' }:=by
 obtain⟨m,⟨o,es,ep,ho,r⟩,_⟩:=id I.loc;obtain⟨sl,hL⟩:=u.any ho I.free λz=>(Jm _ z).2.1 rfl;exact I.step (ch:=ch) Jm (λb o hL hb hc e n=>u.keep b o e n (λz=>(aX.mp (I.Aq b z)).elim hL hb) hc) (λb o _ _ hc e n=>u.any e n hc) (λb o hc e n=>u.free b o e n hc) (λb o hc e=>u.there b o e hc) u.wb u.uc u.tR (λm' hm=>by
  obtain⟨o',tP,PV,Bu,r'⟩:=hm;rw [ho] at Bu;cases Bu;exact⟨_,tP,PV,hL,r'⟩) bI hg
def Inv.turned {t':Nat}{it:Addr}(I:141)(k:∀b o,b≠it->160->h'.get? b=85)(hn:H it=none)(hL:it≠X.env.locals)
  (h1:it∈X.ex\/X.s₀.heap.objs.size<=it)(h2:∀x c,X.env.cells.lookup x=some c->c≠it)(h3:∀p∈X.pn++ah,p.1≠it):Inv X ah σ H { s with heap:=h',toks:=t' }:=by
 have Q6:∀b u,H b=some u->b≠it:=λb u e z=>by rw [z,hn] at e;cases e
 refine I.step (g':=s.gens) (d':=s.drawn) (ch:=[it]) (λb hb=>?_) (λb o _ _ hc e _=>k b o (λz=>hc (by simp [z])) e) (λb o _ _ hc e _=>⟨o.slots,k b o (λz=>hc (by simp [z])) e⟩) (λ_ _ _ _ n=>n)
  (λb o hc e=>⟨o,k b o (λz=>hc (by simp [z])) e⟩) (λ_ _ e=>e) (λ_ _ _ e=>e) (λb ps e=>⟨#[],by rw [e];simp⟩) (λm hm=>?_) (λb u e=>?_) I.bare
 .have e:b=it:=by simpa using hb
  subst e;exact⟨h1,hL,h2,h3⟩
 .obtain⟨o,es,ep,ho,r⟩:=hm;exact⟨o,es,ep,k _ o (cV hL) ho,r⟩
 refine(I.bI b u e).jJ (λc v hc q=>k c v ?_ q) (λ_ q=>q) λ_ _ q=>q;rcases hc with z | z
 .rw [z];exact Q6 b u e
 exact Q6 c _ z
def Inv.tok (I:141) (t:Nat):Inv X ah σ H { s with toks:=t }:=I.un (h':=s.heap) (t':=t) Un.refl I.bI
theorem Inv.kept (I:141)(k:∀b u,s.heap.get? b=some u->h'.get? b=some u):Inv X ah σ H { s with heap:=h',toks:=t' }:=I.un (Un.kept k) (I.bI.kept k)
theorem Inv.laid {a:Addr}{o:HO}(I:141)(k:∀b u,s.heap.get? b=some u->h'.get? b=some u)(hp:s.heap.objs.size<=a)(new:bO X.prog X.w (upd H a o) h' a o) :
  Inv X ah σ (upd H a o) { s with heap:=h',toks:=t' }:=I.un (Un.laid k hp (I.bI.fresh hp)) (I.bI.laid k hp new)
theorem Inv.write {x e:Addr}{o:HO}(I:141)(mu:TB (H x))(he:e=x\/H e=some (.own x))(k:∀b u,b≠e->s.heap.get? b=some u->h'.get? b=some u)(Px:∃u,h'.get? e=some u)
  (new:bO X.prog X.w (upd H x o) h' x o):Inv X ah σ (upd H x o) { s with heap:=h',toks:=t' }:=I.un (Un.write mu he k Px) (I.bI.write mu he k Px new)
def Inv.CV (I:141)(h:∀p∈kc,s.heap.get? p.1=some p.2/\H p.1=none/\p.1≠X.env.locals/\p.1∉X.fs/\∀v,p.2.data≠.cell v):Inv X kc σ H s :=
 ⟨I.ok,I.os,I.bare,I.base,I.loc,I.cell,I.free,I.kK,λp hp=>(cD.mp hp).elim (λz=>I.pin p (mX _ z)) (h p),I.bI,I.len⟩
def yM {N:z0s}(hN:N.Nodup){i j:Nat}{x:Str}(a:N[i]?=some x)(b:N[j]?=some x):i=j:=by
 obtain⟨h1,e1⟩:=bw.mp a;obtain⟨h2,e2⟩:=bw.mp b;exact(vo hN).mp (e1.trans e2.symm)
def uz {E:z0b}{i:Nat}{x:Str}{v:V}{u:Value}{Q:Unit->151}(I:141)(hN:X.N.Nodup)(hi:X.N[i]?=some x)(hx:Loc X.env.scope x)(r:RelV v u)
  (h:∀s',Inv X ah (σ.set i (some v)) H s'->(∃a,Heap.SameBut a s.heap s'.heap/\(a=X.env.locals\/X.env.cells.lookup x=some a))->Q () s')(hf:X.fn x=true\/X.env.scope.names.lookup x=some .local:=by first | exact .inl rfl | exact .inr rfl | assumption):wpAny M A (storeName X.env x u) Q E s:=by
 obtain⟨m,hn,hl⟩:=id I.loc;have XT:(X.env.scope.kind == .class || (X.env.scope.kind == .module && X.env.locals != X.env.globals))=false:=by rw [I.ok.kind];rfl
 have hiσ:i < σ.length:=by rw [I.len];exact(bw.mp hi).1
 have OQ:=I.OQ;have tracked:∀{a:Addr}{h':Heap},(∃o,s.heap.get? a=85/\H a=none)->Heap.SameBut a s.heap h'->mS X.prog X.w H h':=λ{a h'} ha hs b ob e=>by
  obtain⟨_,_,nY⟩:=ha;refine(I.bI b ob e).jJ (λc w' hc q=>(hs.2 c ?_).trans q) (λ_ q=>q) λ_ _ q=>q;rintro rfl;rcases hc with rfl | hc
  .rw [nY] at e;cases e
  rw [nY] at hc;cases hc
 rcases hx with hk | hk
 .refine wpAny_storeName_local hk hn (λh' KG hs=>?_) XT;obtain⟨oL,_,_,HV,_⟩:=id hn;refine h _ ⟨I.ok,I.os,I.bare,⟨λb o e n hb hx=>?_,λb o e n hb hx=>?_,I.base.free,λb o e hx=>?_,I.base.wb,I.base.uc,I.base.tR⟩,⟨_,KG,λj y v' e1 e2 e3=>?_⟩,λy c e=>?_,I.free,I.kK,λp hp=>?_,tracked ⟨oL,HV,I.free⟩ hs,by simpa using I.len⟩ ⟨_,hs,.inl rfl⟩
  .exact(hs.2 b (aR (eU (aP e) I.ok.above))).trans (I.base.keep b o e n hb hx)
  .obtain⟨sl,e1⟩:=I.base.slot b o e n hb hx;exact⟨sl,(hs.2 b (aR (eU (aP e) I.ok.above))).trans e1⟩
  .obtain⟨o',e1⟩:=I.base.there b o e hx;exact⟨o',(hs.2 b (aR (eU (aP e) I.ok.above))).trans e1⟩
  .by_cases hj:j=i
   .subst hj;rw [hi] at e1;cases e1;rw [List.getElem?_set_self hiσ] at e2;cases e2;exact⟨u,r,.inl ⟨hk,by simp⟩⟩
   rw [List.getElem?_set_ne (cV hj)] at e2;obtain⟨u',r',q⟩:=hl j y v' e1 e2 e3;refine⟨u',r',?_⟩;rcases q with ⟨k,e⟩ | ⟨k,c,e,z⟩
   .refine .inl ⟨k,?_⟩;have:y≠x:=λe=>hj (yM hN e1 (e ▸ hi));simp [this,e]
   exact .inr ⟨k,c,e,z.sameBut hs (OQ y c e)⟩
  .obtain⟨w',z⟩:=I.cell y c e;exact⟨w',z.sameBut hs (OQ y c e)⟩
  obtain⟨e,n,ne,nf,d⟩:=I.pin p hp;exact⟨(hs.2 p.1 ne).trans e,n,ne,nf,d⟩
 have XI:X.fn x=true:=by
  rcases hf with z | z
  .exact z
  rw [z] at hk;cases hk
 obtain⟨c,hc⟩:=I.ok.has x (.inl hk);obtain⟨w',z⟩:=I.cell x c hc;refine wpAny_storeName_cell I.ok.kind hk hc z (λh' kI hs=>?_);obtain⟨oc,zX,Xq⟩:=id z;refine h 221 ⟨I.ok,I.os,I.bare,⟨λb o e n hb hx=>?_,λb o e n hb hx=>?_,I.base.free,λb o e hx=>?_,I.base.wb,I.base.uc,I.base.tR⟩,⟨m,hn.sameBut hs (cV (OQ x c hc)),λj y v' e1 e2 e3=>?_⟩,λy c' e=>?_,I.free,I.kK,λp hp=>?_,tracked ⟨oc,zX,I.kK x c hc⟩ hs,by simpa using I.len⟩ ⟨c,hs,.inr hc⟩
 .exact(hs.2 b (aR (eU (aP e) (I.ok.Te x c XI hc)))).trans (I.base.keep b o e n hb hx)
 .obtain⟨sl,e1⟩:=I.base.slot b o e n hb hx;exact⟨sl,(hs.2 b (aR (eU (aP e) (I.ok.Te x c XI hc)))).trans e1⟩
 .obtain⟨o',e1⟩:=I.base.there b o e hx;exact⟨o',(hs.2 b (aR (eU (aP e) (I.ok.Te x c XI hc)))).trans e1⟩
 .by_cases hj:j=i
  .subst hj;rw [hi] at e1;cases e1;rw [List.getElem?_set_self hiσ] at e2;cases e2;exact⟨u,r,.inr ⟨.inl hk,c,hc,kI⟩⟩
  rw [List.getElem?_set_ne (cV hj)] at e2;obtain⟨u',r',q⟩:=hl j y v' e1 e2 e3;refine⟨u',r',?_⟩;rcases q with q | ⟨k,c',e,z'⟩
  .exact .inl q
  refine .inr ⟨k,c',e,z'.sameBut hs ?_⟩;rintro rfl;exact hj (yM hN e1 (I.ok.inj _ _ _ e hc ▸ hi))
 .by_cases hcc:c'=c
  .subst hcc;exact⟨_,kI⟩
  obtain⟨w2,z2⟩:=I.cell y c' e;exact⟨w2,z2.sameBut hs hcc⟩
 obtain⟨e,n,ne,nf,d⟩:=I.pin p hp;refine⟨(hs.2 p.1 ?_).trans e,n,ne,nf,d⟩;intro q;rw [q,zX] at e;have q':oc=p.2:=jE e;exact d w' (by rw [<-q'];exact Xq)
def q_ {E:z0b}{i:Nat}{x:Str}{v:V}{u:Value}{Q:Unit->151}(I:141)(hN:X.N.Nodup)(hi:X.N[i]?=some x)(hx:Loc X.env.scope x)(r:RelV v u)
  (h:∀s',Inv X ah (σ.set i (some v)) H s'->Q () s')(hf:X.fn x=true\/X.env.scope.names.lookup x=some .local:=by first | exact .inl rfl | exact .inr rfl | assumption):wpAny M A (storeName X.env x u) Q E s :=
 uz I hN hi hx r (λs' I' _=>h s' I') hf
def Inv.Mo {s':Shared}(I:141)(ho:s'.os=s.os)(u:Un (EK X.stack) ch H H' s.heap s'.heap)(bI:mS X.prog X.w H' s'.heap)(hg:AllBare s'.gens)
  (Jm:∀b∈ch,(b∈X.ex\/X.s₀.heap.objs.size<=b)/\b≠X.env.locals/\(∀x c,X.env.cells.lookup x=some c->c≠b)/\∀p∈X.pn++ah,p.1≠b):Inv X ah σ H' s':=by
 obtain⟨h',g',d',t',o'⟩:=s';have e:o'=s.os:=ho;subst e;exact I.call (g':=g') (t':=t') (d':=d') u bI hg Jm
end
abbrev XK:=Value->z0l->143
abbrev St:=List (149)
abbrev a7 (a:Addr):149:=some (.ref a)
abbrev VK:=V->143
abbrev TE:=St->Hp->VK->Prop
abbrev TT:=St->Hp->(Bool->143)->Prop
abbrev TA:=St->Hp->(List V->143)->Prop
structure Ends where
 nx:St->143
 rt:VK
 bk:St->143:=λ_ _=>False
 ct:St->143:=λ_ _=>False
abbrev TS:=Ends->St->143
def EP (X:Cx)(ah:z0e)(σ:St)(Q:VK)(u:Value)(s':Shared):Prop:=∃v H',Inv X ah σ H' s'/\RelV v u/\Q v H'
def TP (X:Cx)(ah:z0e)(σ:St)(Q:Bool->143)(b:Bool)(s':Shared):Prop:=∃H',Inv X ah σ H' s'/\Q b H'
def AP (X:Cx)(ah:z0e)(σ:St)(Q:List V->143)(us:z0m)(s':Shared):Prop:=∃vs H',Inv X ah σ H' s'/\bh vs us/\Q vs H'
def SP (X:Cx)(ah:z0e)(D:Ends)(f:Flow)(s':Shared):Prop :=
 match f with
 | .next=>∃σ' H',Inv X ah σ' H' s'/\D.nx σ' H'
 | .brk=>∃σ' H',Inv X ah σ' H' s'/\D.bk σ' H'
 | .cont=>∃σ' H',Inv X ah σ' H' s'/\D.ct σ' H'
 | .ret u=>∃v σ' H',Inv X ah σ' H' s'/\RelV v u/\D.rt v H'
def PE (X:Cx)(e:Expr)(t:TE):Prop :=
 ∀(ah:z0e)(s:Shared)(σ:St)(H:Hp)(Q:VK),141->t σ H Q->wpAny 154 X.A (eval e X.env) (EP X ah σ Q) X.xe s
def PT (X:Cx)(e:Expr)(t:TT):Prop :=
 ∀(ah:z0e)(s:Shared)(σ:St)(H:Hp)(Q:Bool->143),141->t σ H Q->wpAny 154 X.A (isTrue e X.env (eval e X.env)) (TP X ah σ Q) X.xe s
def PW (X:Cx)(e:Expr)(t:TT):Prop :=
 ∀(whole:Sem Value)(ah:z0e)(s:Shared)(σ:St)(H:Hp)(Q:Bool->143),141->t σ H Q->wpAny 154 X.A (isTrue e X.env whole) (TP X ah σ Q) X.xe s
def PW.pt {e:Expr}{t:TT}(h:PW X e t):PT X e t:=h _
def PA (X:Cx)(es:z0q)(t:TA):Prop :=
 ∀(pos:Pos)(ah:z0e)(s:Shared)(σ:St)(H:Hp)(Q:List V->143),141->t σ H Q->wpAny 154 X.A (spliced (backTo pos (starEach es X.env))) (AP X ah σ Q) X.xe s
def PS (X:Cx)(st:Stmt)(t:TS):Prop :=
 ∀(ah:z0e)(s:Shared)(σ:St)(H:Hp)(D:Ends),141->t D σ H->wpAny 154 X.A (exec st X.env) (SP X ah D) X.xe s
def B_ (X:Cx)(st:List Stmt)(t:TS):Prop :=
 ∀(ah:z0e)(s:Shared)(σ:St)(H:Hp)(D:Ends),141->t D σ H->wpAny 154 X.A (execs st X.env) (SP X ah D) X.xe s
def cM {α:Type}{t:Sem α}{Q Q':α->151}{E:z0b}(h:wpAny M A t Q E s)(hQ:∀a s,Q a s->Q' a s):wpAny M A t Q' E s:=dw h hQ λ_ _ x=>x
section
variable {X:Cx}
def bin {a b:Expr}{ta tb:TE}(ha:PE X a ta)(hb:PE X b tb){σ:St}{R:V->V->143}(I:141)(h:ta σ H λx H1=>tb σ H1 λy H2=>R x y H2)
  {α:Type}{Q:α->151}{f:Value->Value->Sem α}
  (hf:∀v u s2 x y H2,Inv X ah σ H2 s2->RelV x v->RelV y u->R x y H2->wpAny 154 X.A (f v u) Q X.xe s2) :
  wpAny 154 X.A (eval a X.env) (λv s₁=>wpAny 154 X.A (eval b X.env) (λu s₂=>wpAny 154 X.A (f v u) Q X.xe s₂) X.xe s₁) X.xe s:=by
 refine cM (ha ah s σ H _ I h) λv s1 aW=>?_;obtain⟨x,H1,I1,r1,q1⟩:=aW;refine cM (hb ah s1 σ H1 _ I1 q1) λu s2 aW=>?_;obtain⟨y,H2,I2,r2,q2⟩:=aW;exact hf v u s2 x y H2 I2 r1 r2 q2
inductive Tp (o:Option (149))(R:V->Prop):Prop
|mk(v:V)(e:o=some (some v))(q:R v)
inductive XB (x:V)(R:Bool->Prop):Prop
|mk(c:Bool)(e:x=.bl c)(q:R c)
inductive Ze (x:V)(R:Int->Prop):Prop
|mk(i:Int)(e:x=.int i)(q:R i)
inductive XI0 (x y:V)(R:Int->Int->Prop):Prop
|mk(i j:Int)(e:x=.int i)(e2:y=.int j)(q:R i j)
inductive XI2 (x y:V)(C:Int->Int->Prop)(R:Int->Int->Prop):Prop
|mk(i j:Int)(e:x=.int i)(e2:y=.int j)(c:C i j)(q:R i j)
inductive Mx (vs:List V)(R:V->List V->Prop):Prop
|mk(v:V)(r:List V)(e:vs=v::r)(q:R v r)
inductive Tq (v:V)(S:Addr->List V->Prop) (n:Nat)(R:List V->Prop):Prop
|mk(a:Addr)(xs:List V)(e:v=.ref a)(s:S a xs)(l:xs.length=n)(q:R xs)
inductive Ts (x:V)(S:Addr->Prop)(R:Addr->Prop):Prop
|mk(a:Addr)(e:x=.ref a)(s:S a)(q:R a)
inductive XSq (x:V)(S:Addr->List V->Prop)(R:List V->Prop):Prop
|mk(a:Addr)(xs:List V)(e:x=.ref a)(s:S a xs)(q:R xs)
inductive Zi (S:Addr->List V->Prop)(x y:V)(R:List V->List V->Prop):Prop
|mk(a b:Addr)(xs ys:List V)(e:x=.ref a)(e2:y=.ref b)(s:S a xs)(s2:S b ys)(z:xs.length+ys.length<=sizeLine)(q:R xs ys)
inductive XRg (vs:List V)(R:Int->Prop):Prop
|mk(j:Int)(e:vs=[.int j])(l:-(2 ^ 62)<=j)(u:j < 2 ^ 62)(q:R j)
inductive Zf (vs:List V)(S:Addr->List V->Prop)(R:Addr->Prop):Prop
|mk(a:Addr)(xs:List V)(e:vs=[.ref a])(s:S a xs)(q:R a)
inductive Lf (xs:List V)(S:Addr->List V->Prop)(R:List V->Prop):Prop
|mk(p:Addr)(ys:List V)(e:xs=[.ref p])(s:S p ys)(q:R ys)
def gH (i:Nat):TE:=λσ H Q=>Tp σ[i]? λv=>Q v H
def tC (v:V):TE:=λ_ H Q=>Q v H
def Nk {i:Nat}{x:Str}(hN:X.N[i]?=some x)(hv:Vd X.env.scope x)(hd:(x == ("__debug__":Str))=false:=by decide)(xA:(x == ("__classdict__":Str))=false:=by decide):PE X (.Name x pos) (gH i):=by
 intro ah s σ H Q I h;obtain⟨v,e,h⟩:=h;obtain⟨m,hn,hl⟩:=I.loc;obtain⟨u,r,l⟩:=hl i x v hN e hv;have fin:EP X ah σ Q u s:=⟨v,H,I,r,h⟩;rcases l with ⟨hk,hm⟩ | ⟨hk,c,hc,ja⟩
 .exact wpAny_Name (vC I.ok.kind hk hn hm fin) hd
 rcases hk with hk | hk
 .exact wpAny_Name (wpAny_loadName_cell I.ok.kind hk hc ja fin) hd
 exact wpAny_Name (wpAny_loadName_free I.ok.kind hk hc ja fin xA) hd
def aC {i j pos}:PE X (.Constant (.int i) j pos) (tC (.int i)):=λ_ _ _ H _ I h=>wpAny_Constant_int ⟨.int i,H,I.tok _,⟨_,rfl⟩,h⟩
def gQ {b j pos}:PE X (.Constant (.bool b) j pos) (tC (.bl b)):=λ_ _ _ H _ I h=>Constant_bool ⟨.bl b,H,I,rfl,h⟩
def AV {j pos}:PE X (.Constant .none j pos) (tC .dY):=λ_ _ _ H _ I h=>Constant_none ⟨.dY,H,I,rfl,h⟩
def ba {x j pos}:PE X (.Constant (.str x) j pos) (tC (.str x)):=λ_ _ _ H _ I h=>Calls.Constant_str ⟨.str x,H,I.tok _,⟨_,rfl⟩,h⟩
def Gl (X:Cx)(x:Str):Prop:=X.env.kindOf x=some .globalImplicit
def xm {E:z0b}{σ:St}{x:Str}{u:Value}(I:141)(hg:Gl X x)(hm:X.mg x=some u)(h:Q u s)
  (hd:(x == ("__debug__":Str))=false:=by decide):wpAny 154 X.A (eval (.Name x pos) X.env) Q E s :=
 Calls.Name_function_global I.ok.kind hg (Calls.loadGlobal_global (by rw [I.ok.glob];exact I.mod.glob.keeps I.bk) hm h) hd
def ir {E:z0b}{σ:St}{x:Str}{u:Value}(I:141)(hg:Gl X x)(hm:X.mg x=none)(hv:bootBuiltins x=some u)(h:Q u s)
  (hn:x ≠ "__name__" := by decide)(hd:(x == ("__debug__":Str))=false:=by decide):wpAny 154 X.A (eval (.Name x pos) X.env) Q E s:=by
 obtain⟨mb,h1,h2⟩:=I.mod.blt;exact Calls.Name_function_global I.ok.kind hg (Calls.loadGlobal_builtin (by rw [I.ok.glob];exact I.mod.glob.keeps I.bk) hm (by rw [I.ok.blt];exact h1.keeps I.bk) ((h2 x hn).trans hv) h) hd
def JZ {x:Str}{v:V}{u:Value}(hg:Gl X x)(hm:X.mg x=some u)(r:RelV v u)(hd:(x == ("__debug__":Str))=false:=by decide):PE X (.Name x pos) (tC v) :=
 λ_ _ _ H _ I h=>xm I hg hm ⟨v,H,I,r,h⟩ hd
def J2 {x:Str}{v:V}{u:Value}(hg:Gl X x)(hm:X.mg x=none)(hv:bootBuiltins x=some u)(r:RelV v u)(hn:x ≠ "__name__" := by decide)(hd:(x == ("__debug__":Str))=false:=by decide):PE X (.Name x pos) (tC v) :=
 λ_ _ _ H _ I h=>ir I hg hm hv ⟨v,H,I,r,h⟩ hn hd
variable {a b:Expr}{ta tb:TE}{pos:Pos}
def PC (X:Cx)(op:CmpOp)(a b:Expr)(t:TE):Prop :=
 ∀(ah:z0e)(s:Shared)(σ:St)(H:Hp)(Q:VK),141->t σ H Q ->
  wpAny 154 X.A (eval a X.env) (λv s₁=>wpAny 154 X.A (eval b X.env) (λu s₂=>wpAny 154 X.A (compareOp op v u) (EP X ah σ Q) X.xe s₂) X.xe s₁) X.xe s
def yO (b:Expr)(h:op≠.In)(h2:op≠.NotIn):behindInMarks op b=false:=by
 have e1:(op == CmpOp.In)=false:=by cases op <;> first | rfl | exact absurd rfl h
 have e2:(op == CmpOp.NotIn)=false:=by cases op <;> first | rfl | exact absurd rfl h2
 cases b <;> simp [behindInMarks,e1,e2]
def Vz (ta:TE):TE:=λσ H Q=>ta σ H λx H1=>Q (.bl (decide (x=.dY))) H1
def RelV.Hl {x:V}{v:Value}(r:RelV x v):(v == Value.none)=decide (x=.dY):=by
 cases x with
 | dY=>cases r;rfl
 | bl _=>cases r;rfl
 | int _=>obtain⟨t,rfl⟩:=r;rfl
 | str _=>obtain⟨t,rfl⟩:=r;rfl
 | B4 _=>obtain⟨t,rfl⟩:=r;rfl
 | Sx _=>obtain⟨t,rfl⟩:=r;rfl
 | ref _=>cases r;rfl
 | ty _=>cases r;rfl
def rG {j pos'}(ha:PE X a ta):PC X .Is a (.Constant .none j pos') (Vz ta):=by
 intro ah s σ H Q I h;refine cM (ha ah s σ H _ I h) λv s1 aW=>?_;obtain⟨x,H1,I1,r1,q1⟩:=aW;exact Constant_none (is_none_gen ⟨.bl _,H1,I1,by rw [r1.Hl];rfl,q1⟩)
def tB (t:TE):TT:=λσ H Q=>t σ H λx H1=>XB x λc=>Q c H1
def GX {t:TE}(h:PC X op a b t)(h1:behindInMarks op b=false:=by first | exact yO _ nofun nofun | rfl):PE X (.Compare a [op] [b] pos) t:=λah s σ H Q I hw=>wpAny_Compare1 (h ah s σ H Q I hw) h1
def dG {t:TE}(h:PC X op a b t)(h1:behindInMarks op b=false:=by first | exact yO _ nofun nofun | rfl):PT X (.Compare a [op] [b] pos) (tB t):=by
 intro ah s σ H Q I hw;refine wpAny_isTrue_Compare1 (cM (h ah s σ H _ I hw) λv s1 h1=>cM h1 λu s2 h2=>cM h2 λc s3 aW=>?_) h1;obtain⟨x,H1,I1,r1,q1⟩:=aW;obtain⟨d,rfl,q⟩:=q1;cases r1;exact jr ⟨H1,I1,q⟩
def rE {e:Expr}{t:TE}(h:PE X e t)(he:∀whole,isTrue e X.env whole=(do let v <-whole;standAt e.pos;holding [v] (truthy v)):=by intro _;rfl):PT X e (tB t):=by
 intro ah s σ H Q I hw;refine isTrue_plain (cM (h ah s σ H _ I hw) λv s1 aW=>?_) (he _);obtain⟨x,H1,I1,r1,q1⟩:=aW;obtain⟨d,rfl,q⟩:=q1;cases r1;exact jr ⟨H1,I1,q⟩
variable {tA T4:TT}{rest:z0q}
def VF (t u:TT):TT:=λσ H Q=>t σ H λc H1=>if c=true then u σ H1 Q else Q false H1
def tOr (t u:TT):TT:=λσ H Q=>t σ H λc H1=>if c=true then Q true H1 else u σ H1 Q
def Vx (t:TT):TT:=λσ H Q=>t σ H λc H1=>Q (!c) H1
def wV (ha:PT X a tA):PW X (.BoolOp .And [a] pos) tA:=by
 intro wh ah s σ H Q I h;refine isTrue_and (cM (ha ah s σ H Q I h) λc s1 e=>?_);cases c with
 | true=>exact isTrue_and_nil e
 | false=>exact e
def wU (ha:PT X a tA):PW X (.BoolOp .Or [a] pos) tA:=by
 intro wh ah s σ H Q I h;refine isTrue_or (cM (ha ah s σ H Q I h) λc s1 e=>?_);cases c with
 | false=>exact isTrue_or_nil e
 | true=>exact e
def AQ (ha:PT X a tA)(hb:PW X (.BoolOp .And (b::rest) pos) T4):PW X (.BoolOp .And (a::b::rest) pos) (VF tA T4):=by
 intro wh ah s σ H Q I h;refine isTrue_and (cM (ha ah s σ H _ I h) λc s1 aW=>?_);obtain⟨H1,I1,q1⟩:=aW;cases c with
 | true=>exact hb wh ah s1 σ H1 Q I1 q1
 | false=>exact⟨H1,I1,q1⟩
def yB (ha:PT X a tA)(hb:PW X (.BoolOp .Or (b::rest) pos) T4):PW X (.BoolOp .Or (a::b::rest) pos) (tOr tA T4):=by
 intro wh ah s σ H Q I h;refine isTrue_or (cM (ha ah s σ H _ I h) λc s1 aW=>?_);obtain⟨H1,I1,q1⟩:=aW;cases c with
 | true=>exact⟨H1,I1,q1⟩
 | false=>exact hb wh ah s1 σ H1 Q I1 q1
def Gr (ha:PT X a tA):PT X (.UnaryOp .Not a pos) (Vx tA):=by
 intro ah s σ H Q I h;exact isTrue_not (ha ah s σ H (λc H1=>Q (!c) H1) I h)
def tIf (t:TT)(ta tb:TE):TE:=λσ H Q=>t σ H λc H1=>if c=true then ta σ H1 Q else tb σ H1 Q
def ki {c:Expr}(hc:PT X c tA)(ha:PE X a ta)(hb:PE X b tb):PE X (.IfExp c a b pos) (tIf tA ta tb):=by
 intro ah s σ H Q I h;refine wpAny_IfExp (cM (hc ah s σ H _ I h) λd s1 aW=>?_);obtain⟨H1,I1,q1⟩:=aW;cases d with
 | true=>exact ha ah s1 σ H1 Q I1 q1
 | false=>exact hb ah s1 σ H1 Q I1 q1
end
def aJ (K:aU)(H:Hp)(a:Addr)(xs:List V):Prop :=
 Rd H a (.lst xs) \/
  ∃(o:Obj)(aK:z0k) (n:Nat),K.lookup a=85/\o.cls=.type "list" /\ o.dict=none/\o.data=.seq aK n/\aK.size<=sizeLine/\bh xs aK.toList
def aQ (K:aU)(H:Hp)(a:Addr)(xs:List V):Prop :=
 Rd H a (.tup xs) \/
  ∃(o:Obj)(aK:z0k) (n:Nat),K.lookup a=85/\o.cls=183 /\ o.data=.seq aK n/\aK.size<=sizeLine/\bh xs aK.toList
def Zb:Value->149
 | .none=>some .dY
 | .bool b=>some (.bl b)
 | .int i _=>some (.int i)
 | .str x _=>some (.str x)
 | .bytes b _=>some (.B4 b)
 | .float b _=>some (.Sx b)
 | .ref a=>some (.ref a)
 | .type n=>some (.ty n)
 | _=>none
def RelV.abs {x:V}{u:Value}(r:RelV x u):Zb u=some x:=by
 cases x with
 | dY=>cases r;rfl
 | bl _=>cases r;rfl
 | int _=>obtain⟨t,rfl⟩:=r;rfl
 | str _=>obtain⟨t,rfl⟩:=r;rfl
 | B4 _=>obtain⟨t,rfl⟩:=r;rfl
 | Sx _=>obtain⟨t,rfl⟩:=r;rfl
 | ref _=>cases r;rfl
 | ty _=>cases r;rfl
def RelV.inj {x y:V}{u:Value}(r:RelV x u)(q:RelV y u):x=y:=jE (r.abs.symm.trans q.abs)
theorem bh.inj:∀{xs ys:List V}{us:z0m},bh xs us->bh ys us->xs=ys
 | _,_,_,.nil,.nil=>rfl
 | _,_,_,.cons r t,.cons r' t'=>by rw [r.inj r',bh.inj t t']
section
variable {X:Cx}{ah:z0e}{σ:St}{H:Hp}{s:Shared}{a:Addr}{xs ys:List V}
def aJ.of {K:aU}(h:H a=some (.lst xs)):aJ K H a xs:=.inl (.inl h)
def aQ.of {K:aU}(h:H a=some (.tup xs)):aQ K H a xs:=.inl (.inl h)
def Inv.list (I:141)(h:aJ X.K H a xs):∃aK:z0m,bh xs aK/\PlainL s.heap a aK.toArray/\xs.length<=sizeLine:=by
 rcases h with h | ⟨o,aK,n,hk,hc,hd,hs,hz,r⟩
 .obtain⟨z,aK,n,r,e⟩:=h.ok I.bI;exact⟨aK,r,⟨_,n,e,rfl,rfl,rfl⟩,z⟩
 refine⟨aK.toList,r,⟨o,n,I.xp a o hk,hc,hd,by simpa using hs⟩,?_⟩;have e:=r.length;simp only [eV] at e;omega
def Inv.tuple (I:141)(h:aQ X.K H a xs):∃aK:z0m,bh xs aK/\IsTup s.heap a aK.toArray/\xs.length<=sizeLine:=by
 rcases h with h | ⟨o,aK,n,hk,hc,hs,hz,r⟩
 .obtain⟨z,aK,r,p⟩:=h.ok I.bI;exact⟨aK,r,p,z⟩
 refine⟨aK.toList,r,⟨o,I.xp a o hk,hc,n,by simpa using hs⟩,?_⟩;have e:=r.length;simp only [eV] at e;omega
def Inv.rQ (I:141)(h:aJ X.K H a xs)(h':aJ X.K H a ys):xs=ys:=by
 obtain⟨aK,r,⟨o,n,e,_,_,d⟩,_⟩:=I.list h;obtain⟨tY,r',⟨o',n',e',_,_,d'⟩,_⟩:=I.list h';rw [e] at e';cases e';rw [d] at d';injection d' with d1 _;have:aK=tY:=by simpa using congrArg Array.toList d1
 subst this;exact r.inj r'
def Inv.uw (I:141)(h:aQ X.K H a xs)(h':aQ X.K H a ys):xs=ys:=by
 obtain⟨aK,r,⟨o,e,_,n,d⟩,_⟩:=I.tuple h;obtain⟨tY,r',⟨o',e',_,n',d'⟩,_⟩:=I.tuple h';rw [e] at e';cases e';rw [d] at d';injection d' with d1 _;have:aK=tY:=by simpa using congrArg Array.toList d1
 subst this;exact r.inj r'
end
abbrev Cx.tQ (X:Cx)(E:z0b):Cx:={ X with xe:=E }
abbrev Cx.Ki (X:Cx):Cx:=X.tQ λ_ _=>False
theorem Cx.Ok.tQ {X:Cx}(ok:X.Ok)(E:z0b):(X.tQ E).Ok :=
 ⟨ok.mod,ok.kind,ok.glob,ok.blt,ok.above,ok.inj,ok.has,ok.Te,ok.hd,ok.frames,ok.T7,ok.PM,ok.bs,ok.K8,ok.Hm,ok.EN,ok.qd,ok.Oj⟩
def Cx.Ok.j7 {X:Cx}{E:z0b}(ok:(X.tQ E).Ok):X.Ok :=
 ⟨ok.mod,ok.kind,ok.glob,ok.blt,ok.above,ok.inj,ok.has,ok.Te,ok.hd,ok.frames,ok.T7,ok.PM,ok.bs,ok.K8,ok.Hm,ok.EN,ok.qd,ok.Oj⟩
section
variable {X:Cx}{ah:z0e}{σ:St}{H:Hp}{s:Shared}{E:z0b}
theorem Inv.tQ (I:141)(E:z0b):Inv (X.tQ E) ah σ H s:=⟨I.ok.tQ E,I.os,I.bare,I.base,I.loc,I.cell,I.free,I.kK,I.pin,I.bI,I.len⟩
theorem Inv.j7 (I:Inv (X.tQ E) ah σ H s):141:=⟨I.ok.j7,I.os,I.bare,I.base,I.loc,I.cell,I.free,I.kK,I.pin,I.bI,I.len⟩
theorem SP.j7 {D:Ends}{f:Flow}(h:SP (X.tQ E) ah D f s'):SP X ah D f s':=by
 cases f with
 | next=>obtain⟨σ',H',I,q⟩:=h;exact⟨σ',H',I.j7,q⟩
 | brk=>obtain⟨σ',H',I,q⟩:=h;exact⟨σ',H',I.j7,q⟩
 | cont=>obtain⟨σ',H',I,q⟩:=h;exact⟨σ',H',I.j7,q⟩
 | ret u=>obtain⟨v,σ',H',I,r,q⟩:=h;exact⟨v,σ',H',I.j7,r,q⟩
theorem B_.Ki {st:List Stmt}{t:TS}(h:B_ X.Ki st t):B_ X st t:=λah s σ H D I hw =>
 dw (h ah s σ H D (I.tQ _) hw) (λ_ _ q=>q.j7) λ_ _ z=>False.elim z
end
section
variable {X:Cx}{st:Stmt}{rest:List Stmt}{t u:TS}{e:Expr}{te:TE}{pos:Pos}
def Qn:TS:=λD σ H=>D.nx σ H
def wk (t u:TS):TS:=λD σ H=>t { D with nx:=u D } σ H
def bo:B_ X [] Qn:=λ_ _ σ H _ I h=>wpAny_execs_nil ⟨σ,H,I,h⟩
def aj (h1:PS X st t)(h2:B_ X rest u):B_ X (st::rest) (wk t u):=by
 intro ah s σ H D I h;refine wpAny_execs_cons (cM (h1 ah s σ H { D with nx:=u D } I h) λf s1 q=>?_);cases f with
 | next =>
  obtain⟨σ',H',I',q⟩:=q;exact h2 ah s1 σ' H' D I' q
 | ret v=>exact q
 | brk=>exact q
 | cont=>exact q
def av (h1:PS X st t):B_ X [st] t:=by
 intro ah s σ H D I h;refine wpAny_execs_cons (cM (h1 ah s σ H D I h) λf s1 q=>?_);cases f with
 | next=>exact wpAny_execs_nil q
 | ret v=>exact q
 | brk=>exact q
 | cont=>exact q
def MT:TS:=λD σ H=>D.bk σ H
def Gu:PS X (.Break pos) MT:=λ_ _ σ H _ I h=>wpAny_Break ⟨σ,H,I,h⟩
def Inv.quiet {σ:St}(I:141):interactive X.env=false:=by simp [interactive,I.ok.kind]
def Qu (te:TE):TS:=λD σ H=>te σ H λ_ H1=>D.nx σ H1
def df (he:PE X e te)(hs:swapsWith e none pos.line X.env=pure false:=by rfl):PS X (.Expr e pos) (Qu te):=by
 intro ah s σ H D I h;refine wpAny_Expr_any (cM (he ah s σ H _ I h) λv s1 aW=>?_) I.quiet hs;obtain⟨x,H1,I1,r1,q1⟩:=aW;exact⟨σ,H1,I1,q1⟩
def Vw (te:TE):TS:=λD σ H=>te σ H D.rt
def bp (he:PE X e te):PS X (.Return (some e) pos) (Vw te):=by
 intro ah s σ H D I h;refine wpAny_Return_some (cM (he ah s σ H _ I h) λv s1 aW=>?_);obtain⟨x,H1,I1,r1,q1⟩:=aW;exact⟨x,σ,H1,I1,r1,q1⟩
def VA (c:TT)(t u:TS):TS:=λD σ H=>c σ H λb H1=>if b=true then t D σ H1 else u D σ H1
def cS {c:Expr}{a b:List Stmt}{tc:TT}(hc:PT X c tc)(ha:B_ X a t)(hb:B_ X b u):PS X (.If c a b pos) (VA tc t u):=by
 intro ah s σ H D I h;refine wpAny_If (cM (hc ah s σ H _ I h) λd s1 aW=>?_);obtain⟨H1,I1,q1⟩:=aW;cases d with
 | true=>exact ha ah s1 σ H1 D I1 q1
 | false=>exact hb ah s1 σ H1 D I1 q1
def MO:TS:=λ_ _ _=>False
def ij:PS X st MO:=λ_ _ _ _ _ _ h=>h.elim
end
abbrev TG:=V->St->Hp->(St->143)->Prop
abbrev My:=List V->St->Hp->(St->143)->Prop
def PG (X:Cx)(target:Expr)(t:TG):Prop :=
 ∀(ah:z0e)(s:Shared)(σ:St)(H:Hp)(v:V)(u:Value)(Q:St->143),141->RelV v u->t v σ H Q ->
  wpAny 154 X.A (assign target X.env u) (λ_ s'=>∃σ' H',Inv X ah σ' H' s'/\Q σ' H') X.xe s
def Tx (X:Cx)(ts:z0q)(t:My):Prop :=
 ∀(ah:z0e)(s:Shared)(σ:St)(H:Hp)(vs:List V)(us:z0m)(Q:St->143),141->bh vs us->t vs σ H Q ->
  wpAny 154 X.A (assignInOrder ((assignEach ts X.env).map (·.2)) us) (λ_ s'=>∃σ' H',Inv X ah σ' H' s'/\Q σ' H') X.xe s
abbrev Zl:=V->V->Hp->VK->Prop
def PIp (X:Cx)(op:Operator)(t:Zl):Prop :=
 ∀(ah:z0e)(s:Shared)(σ:St)(H:Hp)(x y:V)(v u:Value)(Q:VK),141->RelV x v->RelV y u->t x y H Q ->
  wpAny 154 X.A (inplaceOp op v u) (EP X ah σ Q) X.xe s
section
variable {X:Cx}{pos:Pos}
def eB (i:Nat):TG:=λv σ H Q=>Q (σ.set i (some v)) H
def aw {i:Nat}{x:Str}(hN:X.N.Nodup)(hi:X.N[i]?=some x)(hx:Loc X.env.scope x)(hf:X.fn x=true\/X.env.scope.names.lookup x=some .local:=by first | exact .inl rfl | exact .inr rfl | assumption):PG X (.Name x pos) (eB i):=by
 intro ah s σ H v u Q I r h;exact wpAny_assign_Name (q_ I hN hi hx r (λs' I'=>⟨_,H,I',h⟩) hf)
def Ij:My:=λvs σ H Q=>vs=[]/\Q σ H
def kJ (t:TG)(u:My):My:=λvs σ H Q=>Mx vs λv r=>t v σ H λσ' H'=>u r σ' H' Q
def bV:Tx X [] Ij:=by
 intro ah s σ H vs us Q I r h;obtain⟨e,h⟩:=h;subst e;cases r;exact assignInOrder_nil ⟨σ,H,I,h⟩
def aE {e:Expr}{t:TG}{u:My}(h1:PG X e t)(h2:Tx X es u)
  (hs:(assignEach (e::es) X.env).map (·.2)=assign e X.env::(assignEach es X.env).map (·.2):=by rfl):Tx X (e::es) (kJ t u):=by
 intro ah s σ H vs us Q I r h;obtain⟨v,vr,e1,h⟩:=h;subst e1;cases r with
 | cons r rr =>
  rw [hs];refine assignInOrder_cons (cM (h1 ah s σ H _ _ _ I r h) λ_ s1 aW=>?_);obtain⟨σ1,H1,I1,q1⟩:=aW;exact h2 ah s1 σ1 H1 _ _ Q I1 rr q1
def BE (K:aU) (n:Nat)(t:My):TG:=λv σ H Q=>Tq v (aQ K H) n λxs=>t xs σ H Q
def dZ {k:Nat}{t:My}(hc:X.calm=true)(h:Tx X es t)
  (hn:(assignEach es X.env).length=n:=by rfl)(qy:(assignEach es X.env).findIdx? 84=none:=by rfl):PG X (.Tuple es k pos) (BE X.K n t):=by
 intro ah s σ H v u Q I r hw;obtain⟨a,xs,e1,hq,hl,hw⟩:=hw;subst e1;cases r;obtain⟨aK,rv,ht,hz⟩:=I.tuple hq;refine assign_Tuple_tuple (I.ok.hd hc) ht (by simp [hn,<-hl,rv.length]) qy λh' hx=>?_;have I1:Inv X ah σ H 221:=I.kept (t':=s.toks) λb o e=>hx b o (aR (aP e)) e;exact h ah _ σ H xs _ Q I1 (by simpa using rv) hw
def Qy (te:TE)(g:TG):TS:=λD σ H=>te σ H λx H1=>g x σ H1 D.nx
def aG {i:Nat}{x:Str}{e:Expr}(hN:X.N.Nodup)(hi:X.N[i]?=some x)(hx:Loc X.env.scope x)(he:PE X e te)(hs:swapsWith e (some (.Name x pos')) pos.line X.env=pure false:=by rfl)(hf:X.fn x=true\/X.env.scope.names.lookup x=some .local:=by first | exact .inl rfl | exact .inr rfl | assumption) :
  PS X (.Assign [.Name x pos'] e pos) (Qy te (eB i)):=by
 intro ah s σ H D I h;refine wpAny_Assign_Name (cM (he ah s σ H _ I h) λv s1 aW=>?_) hs;obtain⟨y,H1,I1,r1,q1⟩:=aW;exact q_ I1 hN hi hx r1 (λs2 I2=>⟨_,H1,I2,q1⟩) hf
def VE (i:Nat)(te:TE)(ti:Zl):TS:=λD σ H=>∃x,σ[i]?=some (some x)/\te σ H λy H1=>ti x y H1 λz H2=>D.nx (σ.set i (some z)) H2
def Nj {i:Nat}{x:Str}{e:Expr}(hN:X.N.Nodup)(hi:X.N[i]?=some x)(hx:Loc X.env.scope x)(he:PE X e te)(ho:PIp X op ti)(hf:X.fn x=true\/X.env.scope.names.lookup x=some .local:=by first | exact .inl rfl | exact .inr rfl | assumption) :
  PS X (.AugAssign (.Name x pos') op e pos) (VE i te ti):=by
 intro ah s σ H D I h;obtain⟨v,e1,h⟩:=h;obtain⟨m,hn,hl⟩:=I.loc;have vis:Vd X.env.scope x:=by rcases hx with k | k;exact .inl k;exact .inr (.inl k)
 obtain⟨u,r,l⟩:=hl i x v hi e1 vis;refine wpAny_AugAssign_Name ?_;have go:wpAny 154 X.A (eval e X.env) (λw s₂=>wpAny 154 X.A (inplaceOp op u w) (λr s₃=>wpAny 154 X.A (storeName X.env x r) (λ_=>SP X ah D .next) X.xe s₃) X.xe s₂) X.xe s:=by
  refine cM (he ah s σ H _ I h) λw s1 aW=>?_;obtain⟨y,H1,I1,r1,q1⟩:=aW;refine cM (ho ah s1 σ H1 v y u w _ I1 r r1 q1) λz s2 aW=>?_;obtain⟨zv,H2,I2,r2,q2⟩:=aW;exact q_ I2 hN hi hx r2 (λs3 I3=>⟨_,H2,I3,q2⟩) hf
 rcases l with ⟨hk,hm⟩ | ⟨hk,c,hc,ja⟩
 .exact vC I.ok.kind hk hn hm go
 rcases hk with hk | hk
 .exact wpAny_loadName_cell I.ok.kind hk hc ja go
 rcases hx with k | k
 .have:X.env.scope.names.lookup x=some .free:=hk;rw [k] at this;cases this
 have:X.env.scope.names.lookup x=some .free:=hk;rw [k] at this;cases this
def ipI (f:Int->Int->Int):Zl:=λx y H Q=>∃i j,x=.int i/\y=.int j/\Q (.int (f i j)) H
def NP:PIp X .Add (ipI λi j=>i+j):=by
 intro ah s σ H x y v u Q I r1 r2 h;obtain⟨i,j,e1,e2,q⟩:=h;subst e1;subst e2;obtain⟨t,rfl⟩:=r1;obtain⟨t',rfl⟩:=r2;exact iadd_int ⟨.int _,H,I.tok _,⟨_,rfl⟩,q⟩
end
section
variable {X:Cx}{pos:Pos}
def MM (c:TT)(tb:TS):TS:=λD σ H=>∃W:Nat->St->143,(∃m,W m σ H)/\∀m σ H,W m σ H ->
 c σ H λb H1=>if b=true then ∃N:St->143,(∀σ' H',N σ' H'->∃m',m' < m/\W m' σ' H')/\tb { D with nx:=N,ct:=N,bk:=D.nx } σ H1 else D.nx σ H1
def kb {c:Expr}{body:List Stmt}{tc:TT}{tb:TS}(hp:PassesOwn 154 X.A X.env X.xe)(hc:PT X c tc)(hb:B_ X body tb):PS X (.While c body [] pos) (MM tc tb):=by
 intro ah s σ H D I h;obtain⟨W,⟨m0,w0⟩,turn⟩:=h;refine wpAny_While (codeAny_whileLoop (λn s'=>∃σ' H',Inv X ah σ' H' s'/\W n σ' H') ?_ m0 ⟨σ,H,I,w0⟩);rintro n s1 ⟨σ1,H1,I1,w1⟩;refine mj hp (cM (hc ah s1 σ1 H1 _ I1 (turn n σ1 H1 w1)) λb s2 aW=>?_);obtain⟨H2,I2,q2⟩:=aW;cases b with
 | true =>
  obtain⟨N,hN,q2⟩:=q2;rw [au rfl];refine mj hp (cM (hb ah s2 σ1 H2 _ I2 q2) λf s3 q3=>?_);cases f with
  | next =>
   obtain⟨σ3,H3,I3,n3⟩:=q3;obtain⟨m',hm,w3⟩:=hN σ3 H3 n3;exact⟨m',hm,σ3,H3,I3,w3⟩
  | cont =>
   obtain⟨σ3,H3,I3,n3⟩:=q3;obtain⟨m',hm,w3⟩:=hN σ3 H3 n3;exact⟨m',hm,σ3,H3,I3,w3⟩
  | brk=>exact q3
  | ret v=>exact q3
 | false =>
  rw [ar bG];exact wpAny_execs_nil ⟨σ1,H2,I2,q2⟩
end
structure It where
 go:Nat->143
 oR:Nat->Hp->V->143
 stop:Nat->143
def um (X:Cx)(ah:z0e)(H:Hp)(b:Addr):Prop :=
 H b=none/\b≠X.env.locals/\b∉X.fs/\(b∈X.ex\/X.s₀.heap.objs.size<=b)/\(∀x c,X.env.cells.lookup x=some c->c≠b)/\∀p∈X.pn++ah,p.1≠b
def Inv.ue {σ:St}{s:Shared}{b:Addr}(I:141)(hb:s.heap.objs.size<=b)(hn:H' b=none):um X ah H' b:=by
 refine⟨hn,gP (eU I.lt hb),I.Wi hb,.inr (dU I.sz hb),λx c e z=>?_,λp hp z=>?_⟩
 .obtain⟨v,q⟩:=I.cell x c e;exact absurd (eU q.lt (by rw [z];exact hb)) (iV _)
 exact absurd (eU (aP (I.pin p hp).1) (by rw [z];exact hb)) (iV _)
structure Turn (P:Program)(w:World)(K:aU)(tg:Expr)(J:It)(fp:z0p)(it:Addr)(tn:Nat->Heap->Prop):Prop where
 mem:it∈fp
 obj:∀i h,tn i h->∀b∈fp,∃o,h.get? b=85/\∀v,o.data≠.cell v
 keep:∀i h h',tn i h->(∀b∈fp,∀o,h.get? b=85->h'.get? b=85)->tn i h'
 item:∀(X:Cx),X.prog=P->X.w=w->X.K=K->X.calm=true->∀(i:Nat)(ah:z0e)(s:Shared)(σ:St)(H:Hp)(E:z0b),141->(∀b∈fp,um X ah H b)->tn i s.heap->J.go i H ->
  wpAny 163 X.A (pyNext (.ref it)) (λr s1=>∃u,r=some u /\
   wpAny 163 X.A (letOwnedTupleGo tg (.ref it) u) (λ_ s2=>∃x H',Inv X ah σ H' s2/\RelV x u/\J.oR i H x H'/\tn (i+1) s2.heap/\∀b∈fp,H' b=none) E s1) E s
 done:∀(X:Cx),X.prog=P->X.w=w->X.K=K->X.calm=true->∀(i:Nat)(ah:z0e)(s:Shared)(σ:St)(H:Hp)(E:z0b),141->(∀b∈fp,um X ah H b)->tn i s.heap->J.stop i H ->
  wpAny 163 X.A (pyNext (.ref it)) (λr s1=>r=none/\Inv X ah σ H s1) E s
 self:∀(A:Around) (i:Nat)(s:Shared)(Q:z0b)(E:z0b),tn i s.heap->Q (.ref it) s->wpAny 163 A (pyIter (.ref it)) Q E s
abbrev TI:=St->Hp->(It->143)->Prop
def PIE (X:Cx)(ah:z0e)(σ:St)(tg:Expr)(R:It->143)(Uv:Value)(s2:Shared):Prop :=
 ∃(it:Addr)(fp:z0p)(tn:Nat->Heap->Prop)(J:It)(H':Hp),Uv=.ref it/\Inv X ah σ H' s2/\Turn X.prog X.w X.K tg J fp it tn/\tn 0 s2.heap/\(∀b∈fp,um X ah H' b)/\R J H'
def PI (X:Cx)(tg iter:Expr)(wi:TI):Prop :=
 ∀(ah:z0e)(s:Shared)(σ:St)(H:Hp)(R:It->143),141->wi σ H R ->
  wpAny 154 X.A (eval iter X.env) (λv s1=>wpAny 154 X.A (pyIter v) (PIE X ah σ tg R) X.xe s1) X.xe s
def De {E:z0b}{s:Shared}{u:Value}{o:Obj}{n:String}{Q:Unit->151}(ho:s.heap.get? it=85)(hc:o.cls=.type n)(hd:o.data=.fields vs)
  (hn:["enumerate","zip","dict_itemiterator","dict_reverseitemiterator","odict_iterator","itertools.zip_longest","itertools.pairwise"].contains n=false)(hQ:Q () s):wpAny M A (letOwnedTupleGo tg (.ref it) u) Q E s:=by
 unfold letOwnedTupleGo;cases tg <;> first
  | exact ax hQ
  | (cases u <;> first
    | exact ax hQ
    | (refine ao (wpAny_load ho ?_)
       rw [hc,hd];show wpAny M A (if (["enumerate","zip","dict_itemiterator","dict_reverseitemiterator","odict_iterator","itertools.zip_longest","itertools.pairwise"].contains n && vs[0]? == some (rawInt _))=true then _ else _) Q E s;rw [ar (by intro h;rw [hn,Bool.false_and] at h;cases h)];exact ax hQ))
def l_ (K:aU)(a:Addr):It :=
 ⟨λi H=>∃xs x,aJ K H a xs/\xs[i]?=some x,λi H x H'=>H'=H/\∀xs,aJ K H a xs->xs[i]?=some x,λi H=>∃xs,aJ K H a xs/\xs.length<=i⟩
def tF (K:aU)(a:Addr):It :=
 ⟨λi H=>∃xs x,aQ K H a xs/\xs[i]?=some x,λi H x H'=>H'=H/\∀xs,aQ K H a xs->xs[i]?=some x,λi H=>∃xs,aQ K H a xs/\xs.length<=i⟩
def P_ (lo:Int) (n:Nat):It:=⟨λi _=>i < n,λi H x H'=>H'=H/\x=.int (lo+i),λi _=>n<=i⟩
def DI {K:aU}(a it:Addr):Turn P w K tg (l_ K a) [it] it (λi h=>h.IsListIter it a i) where
 mem:=by simp
 obj:=λi h st b hb=>by
  have e:b=it:=by simpa using hb
  subst e;obtain⟨o,e,c,d⟩:=st;exact⟨o,e,λv z=>by rw [d] at z;cases z⟩
 keep:=λi h h' st k=>st.at λo e=>k it 88 o e
 item:=by
  intro X hP hw hK hc i ah s σ H E I hf st hg;subst hP hw hK;obtain⟨xs,x,hq,hx⟩:=hg;obtain⟨aK,rv,p,hz⟩:=I.list hq;obtain⟨u,hu,ru⟩:=rv.get hx;obtain⟨f0,f1,f2,f3,f4,f5⟩:=hf it 88;refine wpAny_pyNext_list_item st p.isList (x:=u) (by simpa using hu) λh' x_ sb=>?_;have I1:Inv X ah σ H 221:=I.turned (t':=s.toks) (λb o hb e=>(sb.2 b hb).trans e) f0 f1 f3 f4 f5;obtain⟨o,e,c,d⟩:=id x_;exact⟨u,rfl,De (s:=221) e c d nofun ⟨x,H,I1,ru,⟨rfl,λys hy=>by rw [I.rQ hy hq];exact hx⟩,x_,λb hb=>(hf b hb).1⟩⟩
 done:=by
  intro X hP hw hK hc i ah s σ H E I hf st hg;subst hP hw hK;obtain⟨xs,hq,hx⟩:=hg;obtain⟨aK,rv,p,hz⟩:=I.list hq;obtain⟨f0,f1,f2,f3,f4,f5⟩:=hf it 88;have hl:=rv.length;exact vK (I.ok.hd hc) st p.isList (by simp;omega) 465
 self:=λ_ _ _ _ _ st h=>wpAny_pyIter_listiter st h
def Aj {K:aU}(a it:Addr):Turn P w K tg (tF K a) [it] it (λi h=>h.IsTupleIter it a i) where
 mem:=by simp
 obj:=λi h st b hb=>by
  have e:b=it:=by simpa using hb
  subst e;obtain⟨o,e,c,d⟩:=st;exact⟨o,e,λv z=>by rw [d] at z;cases z⟩
 keep:=λi h h' st k=>st.at λo e=>k it 88 o e
 item:=by
  intro X hP hw hK hc i ah s σ H E I hf st hg;subst hP hw hK;obtain⟨xs,x,hq,hx⟩:=hg;obtain⟨aK,rv,p,hz⟩:=I.tuple hq;obtain⟨u,hu,ru⟩:=rv.get hx;obtain⟨f0,f1,f2,f3,f4,f5⟩:=hf it 88;refine wpAny_pyNext_tuple_item st (show s.heap.IsTuple a aK.toArray from p) (x:=u) (by simpa using hu) λh' x_ sb=>?_;have I1:Inv X ah σ H 221:=I.turned (t':=s.toks) (λb o hb e=>(sb.2 b hb).trans e) f0 f1 f3 f4 f5;obtain⟨o,e,c,d⟩:=id x_;exact⟨u,rfl,De (s:=221) e c d nofun ⟨x,H,I1,ru,⟨rfl,λys hy=>by rw [I.uw hy hq];exact hx⟩,x_,λb hb=>(hf b hb).1⟩⟩
 done:=by
  intro X hP hw hK hc i ah s σ H E I hf st hg;subst hP hw hK;obtain⟨xs,hq,hx⟩:=hg;obtain⟨aK,rv,p,hz⟩:=I.tuple hq;obtain⟨f0,f1,f2,f3,f4,f5⟩:=hf it 88;have hl:=rv.length;exact wpAny_pyNext_tuple_end (I.ok.hd hc) st (show s.heap.IsTuple a aK.toArray from p) (by simp;omega) 465
 self:=λ_ _ _ _ _ st h=>wpAny_pyIter_tupleiter st h
def Ak {K:aU}(it:Addr) (lo:Int) (n:Nat):Turn P w K tg (P_ lo n) [it] it (λi h=>IsRangeIter h it (lo+(i:Nat) * 1) ((n:Int) - (i:Nat)) 1) where
 mem:=by simp
 obj:=λi h st b hb=>by
  have e:b=it:=by simpa using hb
  subst e;exact⟨_,st,λv z=>by
   have z':Data.fields _=Data.cell v:=z;cases z'⟩
 keep:=λi h h' st k=>k it 88 _ st
 item:=by
  intro X hP hw hK hc i ah s σ H E I hf st hg;subst hP hw hK;obtain⟨f0,f1,f2,f3,f4,f5⟩:=hf it 88;have W:=Walks.range (prog:=X.prog) (w:=X.w) (I.ok.hd hc) it lo 1 n;refine W.item i s _ _ hg st λv h' tk hv x_ kk=>?_;obtain⟨t,rfl⟩:=hv;have I1:Inv X ah σ H { s with heap:=h',toks:=tk }:=I.turned (λb o hb e=>kk b o (by simpa using hb) e) f0 f1 f3 f4 f5;refine⟨_,rfl,De (s:={ s with heap:=h',toks:=tk }) (n := "range_iterator") x_ rfl rfl nofun ⟨.int (lo+i),H,I1,⟨t,?_⟩,⟨rfl,rfl⟩,x_,λb hb=>(hf b hb).1⟩⟩;rw [Int.mul_one]
 done:=by
  intro X hP hw hK hc i ah s σ H E I hf st hg;subst hP hw hK;obtain⟨f0,f1,f2,f3,f4,f5⟩:=hf it 88;exact wpAny_pyNext_range_end (I.ok.hd hc) st (by have:n<=i:=hg;omega) 465
 self:=λ_ _ _ _ _ st h=>wpAny_pyIter_rangeiter st h
section
variable {X:Cx}{tg:Expr}
def RD (K:aU)(tl:TE):TI:=λσ H R=>tl σ H λx H1=>Ts x (λa=>∃xs,aJ K H1 a xs) λa=>R (l_ K a) H1
def W4 (K:aU)(tl:TE):TI:=λσ H R=>tl σ H λx H1=>Ts x (λa=>∃xs,aQ K H1 a xs) λa=>R (tF K a) H1
def aV {l:Expr}{tl:TE}(hl:PE X l tl):PI X tg l (RD X.K tl):=by
 intro ah s σ H R I h;refine cM (hl ah s σ H _ I h) λv s1 aW=>?_;obtain⟨x,H1,I1,r1,q1⟩:=aW;obtain⟨a,e,⟨xs,hq⟩,q⟩:=q1;subst e;cases r1;obtain⟨aK,rv,p,hz⟩:=I1.list hq;refine mr p.isList ?_;refine⟨s1.heap.objs.size,[s1.heap.objs.size],_,_,H1,rfl,I1.kept (t':=s1.toks) λb o e=>a0 _ e,DI a _,⟨_,bB _ rfl,rfl,rfl⟩,λb hb=>?_,q⟩;have e:b=s1.heap.objs.size:=by simpa using hb
 subst e;exact I1.ue (aH _) (I1.bI.fresh (aH _))
def gO {l:Expr}{tl:TE}(hl:PE X l tl):PI X tg l (W4 X.K tl):=by
 intro ah s σ H R I h;refine cM (hl ah s σ H _ I h) λv s1 aW=>?_;obtain⟨x,H1,I1,r1,q1⟩:=aW;obtain⟨a,e,⟨xs,hq⟩,q⟩:=q1;subst e;cases r1;obtain⟨aK,rv,p,hz⟩:=I1.tuple hq;refine vv (show s1.heap.IsTuple a aK.toArray from p) ?_;refine⟨s1.heap.objs.size,[s1.heap.objs.size],_,_,H1,rfl,I1.kept (t':=s1.toks) λb o e=>a0 _ e,Aj a _,⟨_,bB _ rfl,rfl,rfl⟩,λb hb=>?_,q⟩;have e:b=s1.heap.objs.size:=by simpa using hb
 subst e;exact I1.ue (aH _) (I1.bI.fresh (aH _))
def Gp {σ:St}{s:Shared}{R:It->143}{E:z0b}{lo hi:Int}{t u v:Tok}{tk:Nat}(I:141)(h1:-(2 ^ 62)<=lo)(h2:lo < 2 ^ 62)(h3:-(2 ^ 62)<=hi)(h4:hi < 2 ^ 62)
  (q:R (P_ lo (hi - lo).toNat) H):wpAny 154 X.A (pyIter 398) (PIE X ah σ tg R) E { s with heap:=s.heap.push { cls:=.type "range",data:=.fields #[.int lo t,.int hi u,.int 1 v] },toks:=tk }:=by
 refine wpAny_pyIter_range (IsRange.new ..) (small_one h1 h2 h3 h4) ?_;have I1:Inv X ah σ H { s with heap:=s.heap.push { cls:=.type "range",data:=.fields #[.int lo t,.int hi u,.int 1 v] },toks:=tk }:=I.kept λb o e=>a0 _ e;refine⟨(s.heap.push { cls:=.type "range",data:=.fields #[.int lo t,.int hi u,.int 1 v] }).objs.size,[(s.heap.push { cls:=.type "range",data:=.fields #[.int lo t,.int hi u,.int 1 v] }).objs.size],_,_,H,rfl,
  I1.kept (t':=tk) λb o e=>a0 _ e,Ak _ lo (hi - lo).toNat,?_,λb hb=>?_,q⟩
 .have e1:lo+((0:Nat):Int) * 1=lo:=by simp
  have e2:(((hi - lo).toNat:Nat):Int) - ((0:Nat):Int)=Builtin.Range.rangeSize lo hi 1:=by rw [rangeSize_one];split <;> omega
  show IsRangeIter _ _ (lo+((0:Nat):Int) * 1) ((((hi - lo).toNat:Nat):Int) - ((0:Nat):Int)) 1;rw [e1,e2];exact bB _ rfl
 have e:b=(s.heap.push { cls:=.type "range",data:=.fields #[.int lo t,.int hi u,.int 1 v] }).objs.size:=by simpa using hb
 subst e;exact I1.ue (aH _) (I1.bI.fresh (aH _))
def RB (ta:TA):TI:=λσ H R=>ta σ H λvs H1=>XRg vs λj=>R (P_ 0 j.toNat) H1
def g7 {a:Expr}{ta:TA}(hg:Gl X "range")(hm:X.mg "range"=none)(ha:PA X [a] ta)(hs:starEach [a] X.env=[(false,eval a X.env)]:=by rfl):PI X tg (.Call (.Name "range" p) [a] [] pos) (RB ta):=by
 intro ah s σ H R I h;refine Call_ (ir I hg hm boot_range (qY 460 hs rfl));obtain⟨vs,H1,I1,r1,q1⟩:=aW;obtain⟨j,e,q1,q2,q⟩:=q1;subst e;cases r1 with
 | cons r rr =>
  cases rr;obtain⟨t,rfl⟩:=r;exact call_range_1 (Gp I1 ∅ ∅ q1 q2 (by simpa using q))
def VB (wi:TI)(g:TG)(tb:TS):TS:=λD σ H=>wi σ H λJ H1=>∃W:Nat->Nat->St->143,(∃m,W 0 m σ H1)/\∀i m σ H,W i m σ H ->
 (J.stop i H/\D.nx σ H)\/(J.go i H/\∃N:St->143,(∀σ' H',N σ' H'->∃m',m' < m/\W (i+1) m' σ' H')/\∀x H',J.oR i H x H'->g x σ H' λσ2 H2=>tb { D with nx:=N,ct:=N,bk:=D.nx } σ2 H2)
def oY (fp:z0p)(h:Heap):z0e:=fp.filterMap λb=>(h.get? b).map λo=>(b,o)
def gB {h:Heap}{b:Addr}{o:Obj}(hb:b∈fp)(e:h.get? b=85):(b,o)∈oY fp h:=vy.mpr ⟨b,hb,by rw [e];rfl⟩
def Eg {h:Heap}{p:Addr×Obj}(hp:p∈oY fp h):p.1∈fp/\h.get? p.1=some p.2:=by
 obtain⟨b,hb,e⟩:=vy.mp hp;cases q:h.get? b with
 | none=>rw [q] at e;cases e
 | some o =>
  rw [q] at e;have e':(b,o)=p:=jE e;subst e';exact⟨hb,q⟩
def Inv.pinned {σ:St}{s:Shared}(I:141)(hf:∀b∈fp,um X ah H b)(ho:∀b∈fp,∃o,160/\∀v,o.data≠.cell v):Inv X (ah++oY fp s.heap) σ H s :=
 I.CV λp hp=>(cD.mp hp).elim (λz=>I.pin p (gi _ z)) λz=>by
  obtain⟨hb,e⟩:=Eg z;obtain⟨f0,f1,f2,_⟩:=hf p.1 hb;obtain⟨o,e',d⟩:=ho p.1 hb;rw [e] at e';cases e';exact⟨e,f0,f1,f2,d⟩
def Inv.j8 {σ:St}(I:Inv X (ah++pl) σ H s):141:=I.CV λp hp=>I.pin p (gi _ (mX _ hp))
def bJ {body:List Stmt}{wi:TI}{g:TG}{tb:TS}(hp:PassesOwn 154 X.A X.env X.xe)(hc:X.calm=true)(hi:PI X tg iter wi)(hg:PG X tg g)(hb:B_ X body tb)
  (hs:∀x,foldedSetIterable iter X.env x=pure x:=by intro _;rfl):PS X (.For tg iter body [] pos) (VB wi g tb):=by
 intro ah s σ H D I h;refine wpAny_For (cM (hi ah s σ H _ I h) λv s1 h1=>cM h1 λUv s2 h2=>?_) hs;obtain⟨it,fp,tn,J,H2,e,I2,T,Fm,f2,W,⟨m0,w0⟩,turn⟩:=h2;subst e;have rb:∀{H':Hp},(∀b∈fp,H' b=none)->∀b∈fp,um X ah H' b:=λhn b hb=>⟨hn b hb,(f2 b hb).2⟩;refine codeAny_forLoop_any (λn s'=>∃i σ' H',Inv X ah σ' H' s'/\tn i s'.heap/\(∀b∈fp,H' b=none)/\W i n σ' H') ?_ m0 ⟨0,σ,H2,I2,Fm,λb hb=>(f2 b hb).1,w0⟩;rintro n s3 ⟨i,σ3,H3,I3,MV,fr3,w3⟩;rcases turn i n σ3 H3 w3 with ⟨stop,qn⟩ | ⟨go,N,hN,step⟩
 .refine mj hp (cM (T.done X rfl rfl rfl hc i ah s3 σ3 H3 X.xe I3 (rb fr3) MV stop) λr s4 ⟨hr,I4⟩=>?_);subst hr;exact wpAny_execs_nil ⟨σ3,H3,I4,qn⟩
 refine mj hp (cM (T.item X rfl rfl rfl hc i ah s3 σ3 H3 X.xe I3 (rb fr3) MV go) λr s4 ⟨u,hr,h4⟩=>?_);subst hr;refine mj hp (cM h4 λ_ s5 aW=>?_);obtain⟨x,H5,I5,r5,y5,DO,Sv⟩:=aW;have I5':=I5.pinned (rb Sv) (T.obj _ _ DO);refine mj hp (cM (hg _ s5 σ3 H5 x u _ I5' r5 (step x H5 y5)) λ_ s6 aW=>?_);obtain⟨σ6,H6,I6,q6⟩:=aW;refine mj hp (cM (hb _ s6 σ6 H6 _ I6 q6) λf s7 q7=>?_);have again:∀{σ7:St}{H7:Hp},Inv X (ah++oY fp s5.heap) σ7 H7 s7->N σ7 H7->∃m,m < n/\∃i σ' H',Inv X ah σ' H' s7/\tn i s7.heap/\(∀b∈fp,H' b=none)/\W i m σ' H':=λ{σ7 H7} I7 n7=>by
  obtain⟨m',hm,w7⟩:=hN σ7 H7 n7;refine⟨m',hm,i+1,σ7,H7,I7.j8,T.keep _ _ _ DO λb hb o e=>(I7.pin (b,o) (gi _ (gi _ (gB hb e)))).1,λb hb=>?_,w7⟩;obtain⟨o,e,d⟩:=T.obj _ _ DO b hb;exact(I7.pin (b,o) (gi _ (gi _ (gB hb e)))).2.1
 cases f with
 | next=>obtain⟨σ7,H7,I7,n7⟩:=q7;exact again I7 n7
 | cont=>obtain⟨σ7,H7,I7,n7⟩:=q7;exact again I7 n7
 | brk=>obtain⟨σ7,H7,I7,q7⟩:=q7;exact⟨σ7,H7,I7.j8,q7⟩
 | ret v=>obtain⟨x7,σ7,H7,I7,r7,q7⟩:=q7;exact⟨x7,σ7,H7,I7.j8,r7,q7⟩
end
def cO {K:aU}{a:Addr}{xs:List V}{g:TG}{tb:TS}{D:Ends}{σ:St}(Pv:Nat->St->143)(h0:Pv 0 σ H)(hl:∀i σ H,i<=xs.length->Pv i σ H->aJ K H a xs)
  (hs:∀i x σ H,xs[i]?=some x->Pv i σ H->g x σ H λσ2 H2=>tb { D with nx:=Pv (i+1),ct:=Pv (i+1),bk:=D.nx } σ2 H2)(hd:∀σ H,Pv xs.length σ H->D.nx σ H) :
  ∃W:Nat->Nat->St->143,(∃m,W 0 m σ H)/\∀i m σ H,W i m σ H ->
   ((l_ K a).stop i H/\D.nx σ H)\/((l_ K a).go i H/\∃N:St->143,(∀σ' H',N σ' H'->∃m',m' < m/\W (i+1) m' σ' H')/\∀x H',(l_ K a).oR i H x H'->g x σ H' λσ2 H2=>tb { D with nx:=N,ct:=N,bk:=D.nx } σ2 H2):=by
 refine⟨λi m σ H=>m=xs.length - i/\i<=xs.length/\Pv i σ H,⟨xs.length,by simp,cY _,h0⟩,?_⟩;rintro i m σ H ⟨rfl,hi,p⟩;have q:=hl i σ H hi p;by_cases gR:i < xs.length
 .refine 471;obtain⟨e,y⟩:=y;subst e;exact hs i x σ _ (y xs q) p
 have e:i=xs.length:=by omega
 subst e;exact .inl ⟨⟨xs,q,aH _⟩,hd σ H p⟩
def qC {K:aU}{a:Addr}{xs:List V}{g:TG}{tb:TS}{D:Ends}{σ:St}(Pv:Nat->St->143)(h0:Pv 0 σ H)(hl:∀i σ H,i<=xs.length->Pv i σ H->aQ K H a xs)
  (hs:∀i x σ H,xs[i]?=some x->Pv i σ H->g x σ H λσ2 H2=>tb { D with nx:=Pv (i+1),ct:=Pv (i+1),bk:=D.nx } σ2 H2)(hd:∀σ H,Pv xs.length σ H->D.nx σ H) :
  ∃W:Nat->Nat->St->143,(∃m,W 0 m σ H)/\∀i m σ H,W i m σ H ->
   ((tF K a).stop i H/\D.nx σ H)\/((tF K a).go i H/\∃N:St->143,(∀σ' H',N σ' H'->∃m',m' < m/\W (i+1) m' σ' H')/\∀x H',(tF K a).oR i H x H'->g x σ H' λσ2 H2=>tb { D with nx:=N,ct:=N,bk:=D.nx } σ2 H2):=by
 refine⟨λi m σ H=>m=xs.length - i/\i<=xs.length/\Pv i σ H,⟨xs.length,by simp,cY _,h0⟩,?_⟩;rintro i m σ H ⟨rfl,hi,p⟩;have q:=hl i σ H hi p;by_cases gR:i < xs.length
 .refine 471;obtain⟨e,y⟩:=y;subst e;exact hs i x σ _ (y xs q) p
 have e:i=xs.length:=by omega
 subst e;exact .inl ⟨⟨xs,q,aH _⟩,hd σ H p⟩
def g_ {lo:Int}{g:TG}{tb:TS}{D:Ends}{σ:St}(Pv:Nat->St->143)(h0:Pv 0 σ H)
  (hs:∀i σ H,i < n->Pv i σ H->g (.int (lo+i)) σ H λσ2 H2=>tb { D with nx:=Pv (i+1),ct:=Pv (i+1),bk:=D.nx } σ2 H2)(hd:∀σ H,Pv n σ H->D.nx σ H) :
  ∃W:Nat->Nat->St->143,(∃m,W 0 m σ H)/\∀i m σ H,W i m σ H ->
   ((P_ lo n).stop i H/\D.nx σ H)\/((P_ lo n).go i H/\∃N:St->143,(∀σ' H',N σ' H'->∃m',m' < m/\W (i+1) m' σ' H')/\∀x H',(P_ lo n).oR i H x H'->g x σ H' λσ2 H2=>tb { D with nx:=N,ct:=N,bk:=D.nx } σ2 H2):=by
 refine⟨λi m σ H=>m=n - i/\i<=n/\Pv i σ H,⟨n,by simp,cY _,h0⟩,?_⟩;rintro i m σ H ⟨rfl,hi,p⟩;by_cases gR:i < n
 .refine .inr ⟨gR,Pv (i+1),λσ' H' p'=>⟨n - (i+1),∅,rfl,gR,p'⟩,λx H' y=>?_⟩;obtain⟨e,y⟩:=y;subst e y;exact hs i σ _ gR p
 have e:i=n:=by omega
 subst e;exact .inl ⟨aH _,hd σ H p⟩
abbrev R2:=V->V->Hp->VK->Prop
def oj (X:Cx)(f:Value->Value->Sem Value)(r:R2):Prop :=
 ∀(ah:z0e)(s:Shared)(σ:St)(H:Hp)(x y:V)(v u:Value)(Q:VK),141->RelV x v->RelV y u->r x y H Q ->
  wpAny 154 X.A (f v u) (EP X ah σ Q) X.xe s
def Zj (X:Cx)(f:Value->Sem Value)(r:V->Hp->VK->Prop):Prop :=
 ∀(ah:z0e)(s:Shared)(σ:St)(H:Hp)(x:V)(v:Value)(Q:VK),141->RelV x v->r x H Q ->
  wpAny 154 X.A (f v) (EP X ah σ Q) X.xe s
def gk (X:Cx)(f:Value)(r:List V->Hp->VK->Prop):Prop :=
 ∀(ah:z0e)(s:Shared)(σ:St)(H:Hp)(xs:List V)(us:z0m)(Q:VK),141->bh xs us->r xs H Q ->
  wpAny 154 X.A (call f us) (EP X ah σ Q) X.xe s
def Zk (X:Cx)(r:V->Hp->(Bool->143)->Prop):Prop :=
 ∀(ah:z0e)(s:Shared)(σ:St)(H:Hp)(x:V)(v:Value)(Q:Bool->143),141->RelV x v->r x H Q ->
  wpAny 154 X.A (truthy v) (TP X ah σ Q) X.xe s
def TZ (r:R2)(ta tb:TE):TE:=λσ H Q=>ta σ H λx H1=>tb σ H1 λy H2=>r x y H2 Q
def tUn (r:V->Hp->VK->Prop)(ta:TE):TE:=λσ H Q=>ta σ H λx H1=>r x H1 Q
def rI (C:Int->Int->Prop)(g:Int->Int->V):R2:=λx y H Q=>XI2 x y C λi j=>Q (g i j) H
def Pd (g:Int->Int->V):R2:=λx y H Q=>XI0 x y λi j=>Q (g i j) H
def rU (g:Int->V):V->Hp->VK->Prop:=λx H Q=>Ze x λi=>Q (g i) H
section
variable {X:Cx}{a b c:Expr}{ta tb tc:TE}{pos:Pos}
def OS (ha:PE X a ta)(hb:PE X b tb){σ:St}{R:V->V->143}(I:141)
  (h:ta σ H λx H1=>tb σ H1 λy H2=>R x y H2){f:Value->Value->Sem Value}
  (hf:∀v u s2 x y H2,Inv X ah σ H2 s2->RelV x v->RelV y u->R x y H2->wpAny 154 X.A (f v u) Q X.xe s2) :
  wpAny 154 X.A (eval a X.env) (λv s₁=>wpAny 154 X.A (eval b X.env) (λu s₂=>wpAny 154 X.A (f v u) Q X.xe s₂) X.xe s₁) X.xe s:=by
 refine cM (ha ah s σ H _ I h) λv s1 aW=>?_;obtain⟨x,H1,I1,r1,q1⟩:=aW;refine cM (hb ah s1 σ H1 _ I1 q1) λu s2 aW=>?_;obtain⟨y,H2,I2,r2,q2⟩:=aW;exact hf v u s2 x y H2 I2 r1 r2 q2
def cC {r:R2}(ho:oj X (binaryOp op) r)(ha:PE X a ta)(hb:PE X b tb):PE X (.BinOp a op b pos) (TZ r ta tb):=by
 intro ah s σ H Q I h;exact wpAny_BinOp (OS ha hb I h λv u s2 x y H2 I2 rx ry q=>ho ah s2 σ H2 x y v u Q I2 rx ry q)
def Gy {r:V->Hp->VK->Prop}(ho:Zj X (unaryOp op) r)(ha:PE X a ta):PE X (.UnaryOp op a pos) (tUn r ta):=by
 intro ah s σ H Q I h;refine UnaryOp_ (cM (ha ah s σ H _ I h) λv s1 aW=>?_);obtain⟨x,H1,I1,r1,q1⟩:=aW;exact ho ah s1 σ H1 x v Q I1 r1 q1
def Z5 {f:Value->Value->Sem Value}{C:Int->Int->Prop}{g:Int->Int->Int}
  (rule:∀(i j:Int)(t u:Tok)(s:Shared)(Q:z0b)(E:z0b),C i j->Q (.int (g i j) s.toks) { s with toks:=s.toks+1 }->wpAny 154 X.A (f (.int i t) (.int j u)) Q E s) :
  oj X f (rI C λi j=>.int (g i j)):=by
 intro ah s σ H x y v u Q I rx ry h;obtain⟨i,j,rfl,rfl,hc,q⟩:=h;obtain⟨t,rfl⟩:=rx;obtain⟨t',rfl⟩:=ry;exact rule i j t t' s _ _ hc ⟨.int (g i j),H,I.tok _,⟨_,rfl⟩,q⟩
def Q0 {f:Value->Value->Sem Value}{g:Int->Int->Int}
  (rule:∀(i j:Int)(t u:Tok)(s:Shared)(Q:z0b)(E:z0b),Q (.int (g i j) s.toks) { s with toks:=s.toks+1 }->wpAny 154 X.A (f (.int i t) (.int j u)) Q E s) :
  oj X f (Pd λi j=>.int (g i j)):=by
 intro ah s σ H x y v u Q I rx ry h;obtain⟨i,j,rfl,rfl,q⟩:=h;obtain⟨t,rfl⟩:=rx;obtain⟨t',rfl⟩:=ry;exact rule i j t t' s _ _ ⟨.int (g i j),H,I.tok _,⟨_,rfl⟩,q⟩
def Q2 {f:Value->Value->Sem Value}{g:Int->Int->Bool}
  (rule:∀(i j:Int)(t u:Tok)(s:Shared)(Q:z0b)(E:z0b),Q (.bool (g i j)) s->wpAny 154 X.A (f (.int i t) (.int j u)) Q E s) :
  oj X f (Pd λi j=>.bl (g i j)):=by
 intro ah s σ H x y v u Q I rx ry h;obtain⟨i,j,rfl,rfl,q⟩:=h;obtain⟨t,rfl⟩:=rx;obtain⟨t',rfl⟩:=ry;exact rule i j t t' s _ _ ⟨.bl (g i j),H,I,rfl,q⟩
def TV (i j:Int):Prop:=0 < j/\j < 1073741824
def mE:oj X (binaryOp .Add) (Pd λi j=>.int (i+j)):=Q0 λ_ _ _ _ _ _ _ q=>add_int q
def Nn:oj X (binaryOp .Sub) (Pd λi j=>.int (i - j)):=Q0 λ_ _ _ _ _ _ _ q=>sub_int q
def fX:oj X (binaryOp .FloorDiv) (rI TV λi j=>.int (i / j)):=Z5 λi j _ _ _ _ _ hc q=>by
 have h1:(0:Int) < j:=hc.1;have h2:j < 1073741824:=hc.2;exact floordiv_int ∅ (by rw [Int.fdiv_eq_ediv_of_nonneg i ∅];exact q) (.inl (PyProof.noPylong_small ∅))
def gA:oj X (binaryOp .Mod) (rI (λ_ j=>0 < j) λi j=>.int (i % j)):=Z5 λi j _ _ _ _ _ hc q=>by
 have h1:(0:Int) < j:=hc;exact mod_int' ∅ (by rw [Int.fmod_eq_emod_of_nonneg i ∅];exact q)
def unI {f:Value->Sem Value}{g:Int->Int}
  (rule:∀(i:Int)(t:Tok)(s:Shared)(Q:z0b)(E:z0b),Q (.int (g i) s.toks) { s with toks:=s.toks+1 }->wpAny 154 X.A (f (.int i t)) Q E s) :
  Zj X f (rU λi=>.int (g i)):=by
 intro ah s σ H x v Q I rx h;obtain⟨i,rfl,q⟩:=h;obtain⟨t,rfl⟩:=rx;exact rule i t s _ _ ⟨.int (g i),H,I.tok _,⟨_,rfl⟩,q⟩
def Ai:Zj X (unaryOp .USub) (rU λi=>.int (-i)):=unI λ_ _ _ _ _ q=>neg_int q
end
def QI:V->V->Bool
 | .dY,.dY=>true | .dY,.int _=>true | .int _,.dY=>true | .dY,.bl _=>true | .bl _,.dY=>true | .dY,.str _=>true | .str _,.dY=>true
 | .int _,.int _=>true | .bl _,.bl _=>true | .str _,.str _=>true | .B4 _,.B4 _=>true
 | .int _,.str _=>true | .str _,.int _=>true | .bl _,.str _=>true | .str _,.bl _=>true
 | _,_=>false
def rEq:R2:=λx y H Q=>QI x y=true/\Q (.bl (decide (x=y))) H
def rNe:R2:=λx y H Q=>QI x y=true/\Q (.bl (!decide (x=y))) H
def Dm {i j:Int}:decide (V.int i=V.int j)=(i == j):=by
 rw [hV];simp
def IF {i j:Bool}:decide (V.bl i=V.bl j)=(i == j):=by
 rw [hV];simp
def Dl {i j:Str}:decide (V.str i=V.str j)=(i == j):=by
 rw [hV];simp
def Dn {i j:Array UInt8}:decide (V.B4 i=V.B4 j)=(i.toList == j.toList):=by
 rw [hV];cases i;cases j;simp
section
variable {X:Cx}{a b c:Expr}{ta tb tc:TE}{pos:Pos}
def cm {σ:St}{Q:VK}{k k':Bool}(I:141)(q:Q (.bl k) H)(e:k=k'):EP X ah σ Q (.bool k') s:=by
 subst e;exact⟨.bl k,H,I,rfl,q⟩
def nP:oj X (compareOp .Eq) rEq:=by
 intro ah s σ H x y v u Q I rx ry h;obtain⟨hs,q⟩:=h;cases x with
 | dY =>
  cases rx;cases y with
  | dY=>cases ry;exact PySem.EqNone.eq_none_none (cm I q 88)
  | bl j=>cases ry;exact PySem.EqNone.eq_none_bool (cm I q 88)
  | int j=>obtain⟨t',rfl⟩:=ry;exact PySem.EqNone.eq_none_int (cm I q 88)
  | str j=>obtain⟨t',rfl⟩:=ry;exact PySem.EqNone.eq_none_str (cm I q 88)
  | _=>exact 454
 | bl i =>
  cases rx;cases y with
  | dY=>cases ry;exact PySem.EqNone.eq_bool_none (cm I q 88)
  | bl j=>cases ry;exact eq_bool (cm I q IF)
  | str j=>obtain⟨t',rfl⟩:=ry;exact PySem.EqMixed.eq_bool_str (cm I q 88)
  | _=>exact 454
 | int i =>
  obtain⟨t,rfl⟩:=rx;cases y with
  | dY=>cases ry;exact PySem.EqNone.eq_int_none (cm I q 88)
  | int j=>obtain⟨t',rfl⟩:=ry;exact eq_int (cm I q Dm)
  | str j=>obtain⟨t',rfl⟩:=ry;exact PySem.EqMixed.eq_int_str (cm I q 88)
  | _=>exact 454
 | str i =>
  obtain⟨t,rfl⟩:=rx;cases y with
  | dY=>cases ry;exact PySem.EqNone.eq_str_none (cm I q 88)
  | bl j=>cases ry;exact PySem.EqMixed.eq_str_bool (cm I q 88)
  | int j=>obtain⟨t',rfl⟩:=ry;exact PySem.EqMixed.eq_str_int (cm I q 88)
  | str j=>obtain⟨t',rfl⟩:=ry;exact eq_str (cm I q Dl)
  | _=>exact 454
 | B4 i =>
  obtain⟨t,rfl⟩:=rx;cases y with
  | B4 j=>obtain⟨t',rfl⟩:=ry;exact PySem.W.eq_bytes (cm I q Dn)
  | _=>exact 454
 | _=>cases y <;> exact 454
def G1:oj X (compareOp .NotEq) rNe:=by
 intro ah s σ H x y v u Q I rx ry h;obtain⟨hs,q⟩:=h;cases x with
 | dY =>
  cases rx;cases y with
  | dY=>cases ry;exact PySem.EqNone.ne_none_none (cm I q 88)
  | bl j=>cases ry;exact PySem.EqNone.ne_none_bool (cm I q 88)
  | int j=>obtain⟨t',rfl⟩:=ry;exact PySem.EqNone.ne_none_int (cm I q 88)
  | str j=>obtain⟨t',rfl⟩:=ry;exact PySem.EqNone.ne_none_str (cm I q 88)
  | _=>exact 454
 | bl i =>
  cases rx;cases y with
  | dY=>cases ry;exact PySem.EqNone.ne_bool_none (cm I q 88)
  | bl j=>cases ry;exact ne_bool (cm I q (congrArg not IF))
  | str j=>obtain⟨t',rfl⟩:=ry;exact PySem.EqMixed.ne_bool_str (cm I q 88)
  | _=>exact 454
 | int i =>
  obtain⟨t,rfl⟩:=rx;cases y with
  | dY=>cases ry;exact PySem.EqNone.ne_int_none (cm I q 88)
  | int j=>obtain⟨t',rfl⟩:=ry;exact ne_int (cm I q (congrArg not Dm))
  | str j=>obtain⟨t',rfl⟩:=ry;exact PySem.EqMixed.ne_int_str (cm I q 88)
  | _=>exact 454
 | str i =>
  obtain⟨t,rfl⟩:=rx;cases y with
  | dY=>cases ry;exact PySem.EqNone.ne_str_none (cm I q 88)
  | bl j=>cases ry;exact PySem.EqMixed.ne_str_bool (cm I q 88)
  | int j=>obtain⟨t',rfl⟩:=ry;exact PySem.EqMixed.ne_str_int (cm I q 88)
  | str j=>obtain⟨t',rfl⟩:=ry;exact ne_str (cm I q (congrArg not Dl))
  | _=>exact 454
 | B4 i =>
  obtain⟨t,rfl⟩:=rx;cases y with
  | B4 j=>obtain⟨t',rfl⟩:=ry;exact PySem.W.ne_bytes (cm I q (congrArg not Dn))
  | _=>exact 454
 | _=>cases y <;> exact 454
def uK:oj X (compareOp .Lt) (Pd λi j=>.bl (decide (i < j))):=Q2 λ_ _ _ _ _ _ _ q=>lt_int q
def yG:oj X (compareOp .Gt) (Pd λi j=>.bl (decide (j < i))):=Q2 λ_ _ _ _ _ _ _ q=>gt_int q
def cv (b:Expr)(h:op≠.In:=by decide)(h2:op≠.NotIn:=by decide):behindInMarks op b=false:=by
 have e1:(op == CmpOp.In)=false:=by cases op <;> first | rfl | exact absurd rfl h
 have e2:(op == CmpOp.NotIn)=false:=by cases op <;> first | rfl | exact absurd rfl h2
 cases b <;> simp [behindInMarks,e1,e2]
def qr {r:R2}(ho:oj X (compareOp op) r)(ha:PE X a ta)(hb:PE X b tb)(hm:behindInMarks op b=false):PE X (.Compare a [op] [b] pos) (TZ r ta tb):=by
 intro ah s σ H Q I h;exact wpAny_Compare1 (OS ha hb I h λv u s2 x y H2 I2 rx ry q=>ho ah s2 σ H2 x y v u Q I2 rx ry q) hm
def Ql (t:TE):TT:=λσ H Q=>t σ H λx H'=>XB x λk=>Q k H'
def bj {r:R2}(ho:oj X (compareOp op) r)(ha:PE X a ta)(hb:PE X b tb)(hm:behindInMarks op b=false):PT X (.Compare a [op] [b] pos) (Ql (TZ r ta tb)):=by
 intro ah s σ H Q I h;refine wpAny_isTrue_Compare1 (cM (ha ah s σ H _ I h) λv s1 ⟨x,H1,I1,r1,q1⟩=>cM (hb ah s1 σ H1 _ I1 q1) λu s2 ⟨y,H2,I2,r2,q2⟩ =>
  cM (ho ah s2 σ H2 x y v u _ I2 r1 r2 q2) λc s3 ⟨z,H3,I3,r3,k,e,q3⟩=>?_) hm
 subst e;cases r3;exact jr ⟨H3,I3,q3⟩
def I9 (K:aU)(x:V)(H:Hp)(k:Bool):Prop :=
 match x with
 | .dY=>k=false
 | .bl b=>k=b
 | .int i=>k=(i != 0)
 | .str y=>y.length<=sizeLine/\k=((y.length:Int) != 0)
 | .B4 y=>y.size<=sizeLine/\k=((y.size:Int) != 0)
 | .ref p=>(∃xs,aJ K H p xs/\k=!xs.isEmpty)\/(∃xs,aQ K H p xs/\k=!xs.isEmpty)\/∃kvs,H p=184/\k=!kvs.isEmpty
 | _=>False
def Bs {κ:Type}{kvs:List (κ×V)}{vs:List (κ×Value)}(r:KV kvs vs):(!vs.isEmpty)=!kvs.isEmpty:=by
 cases r <;> rfl
def rW {xs:List V}{aK:z0m}(r:bh xs aK):(!aK.toArray.isEmpty)=!xs.isEmpty:=by
 cases r <;> simp
def xj:(sizeLine:Nat) < 2 ^ 63:=by rw [fO];decide
def MJ:Zk X (λx H Q=>∃k,I9 X.K x H k/\Q k H):=by
 intro ah s σ H x v Q I rx h;obtain⟨k,e,q⟩:=h;have hl:=xj;have hs:sizeLine=16777216:=fO;cases x with
 | dY =>
  cases rx;have e':k=false:=e;subst e';exact truthy_none ⟨H,I,q⟩
 | bl b =>
  cases rx;have e':k=b:=e;subst e';exact jr ⟨H,I,q⟩
 | int i =>
  obtain⟨t,rfl⟩:=rx;have e':k=(i != 0):=e;subst e';exact PySem.P.truthy_int ⟨H,I,q⟩
 | str y =>
  obtain⟨t,rfl⟩:=rx;obtain⟨hy,e'⟩:y.length<=sizeLine/\k=((y.length:Int) != 0):=e;subst e';exact PySem.P.truthy_str ∅ ⟨H,I.tok _,q⟩
 | B4 y =>
  obtain⟨t,rfl⟩:=rx;obtain⟨hy,e'⟩:y.size<=sizeLine/\k=((y.size:Int) != 0):=e;subst e';exact PySem.W.truthy_bytes ∅ ⟨H,I.tok _,q⟩
 | ref p =>
  cases rx;have e':(∃xs,aJ X.K H p xs/\k=!xs.isEmpty)\/(∃xs,aQ X.K H p xs/\k=!xs.isEmpty)\/∃kvs,H p=184/\k=!kvs.isEmpty:=e;rcases e' with ⟨xs,hx,e'⟩ | ⟨xs,hx,e'⟩ | ⟨kvs,hx,e'⟩
  .subst e';obtain⟨aK,r,pl,hz⟩:=I.list hx;have bM:=r.length;exact wpAny_truthy_list pl.isList (by simp only [cu];omega) ⟨H,I.tok _,by rw [rW r];exact q⟩
  .subst e';obtain⟨aK,r,pl,hz⟩:=I.tuple hx;have bM:=r.length;exact truthy_tuple pl (by simp only [cu];omega) ⟨H,I.tok _,by rw [rW r];exact q⟩
  subst e';obtain⟨hz,hS,vs,r,m⟩:kvs.length<=sizeLine/\(p == sysModules)=false/\∃vs,KV kvs vs/\s.heap.DictOf (aI X.prog X.w) p vs:=I.bI p _ hx;have bM:kvs.length=vs.length:=a9 r;exact wpAny_truthy_dict hS m ∅ ⟨H,I.tok _,by rw [Bs r];exact q⟩
 | _=>exact(show False from e).elim
def ig (ha:PE X a ta)(he:∀whole,isTrue a X.env whole=(do let v <-whole;standAt a.pos;holding [v] (truthy v))) :
  PT X a (λσ H Q=>ta σ H λx H'=>∃k,I9 X.K x H' k/\Q k H'):=by
 intro ah s σ H Q I h;refine isTrue_plain (cM (ha ah s σ H _ I h) λv s1 aW=>?_) (he _);obtain⟨x,H1,I1,r1,q1⟩:=aW;exact MJ ah s1 σ H1 x v Q I1 r1 q1
def vals1 {x:V}(r:bh [x] us):∃u,us=[u]/\RelV x u:=by
 cases r with
 | cons r1 r2=>cases r2;exact⟨_,rfl,r1⟩
def vals2 {x y:V}(r:bh [x,y] us):∃u w',us=[u,w']/\RelV x u/\RelV y w':=by
 cases r with
 | cons r1 r2 =>
  cases r2 with
  | cons r3 r4=>cases r4;exact⟨_,_,rfl,r1,r3⟩
def E5 (hc:X.calm=true):gk X (.builtin "max") (λxs H Q=>∃i j,xs=[.int i,.int j]/\Q (.int (if j > i then j else i)) H):=by
 intro ah s σ H xs us Q I r h;obtain⟨i,j,rfl,q⟩:=h;obtain⟨u,w',rfl,⟨t,rfl⟩,⟨t',rfl⟩⟩:=vals2 r;refine max_two_ints (I.ok.hd hc) λh' tk k=>⟨_,H,I.kept k,?_,q⟩;by_cases hj:j > i
 .rw [au hj,au hj];exact⟨_,rfl⟩
 rw [ar hj,ar hj];exact⟨_,rfl⟩
def E7:gk X (.type "int") (λxs H Q=>(∃i,xs=[.int i]/\Q (.int i) H)\/∃k,xs=[.bl k]/\Q (.int (if k then 1 else 0)) H):=by
 intro ah s σ H xs us Q I r h;rcases h with ⟨i,rfl,q⟩ | ⟨k,rfl,q⟩
 .obtain⟨u,rfl,t,rfl⟩:=vals1 r;exact call_int_int ⟨.int i,H,I,⟨_,rfl⟩,q⟩
 obtain⟨u,rfl,r1⟩:=vals1 r;cases r1;exact call_int_bool ⟨.int (if k then 1 else 0),H,I.tok _,⟨_,rfl⟩,q⟩
end
structure Ca (h:Heap)(x dx C:Addr)(mA:z0c):Prop where
 obj:h.get? x=some (PySem.W.instObj C dx)
 ns:h.Ns1 dx mA
 ne:dx≠x
def Er {h:Heap}(n:h.Ns1 dx mA):∃od,h.get? dx=some od/\∀name,PySem.W.lookIn name od=some (mA name):=by
 obtain⟨o,es,ep,ho,hd,hk,_,hm⟩:=n;refine⟨o,ho,λname=>?_⟩;have e:=hm name;unfold nsFind findBy at e;rw [<-Array.find?_toList] at e;unfold PySem.W.lookIn;rw [hd];dsimp only
 split
 .rename_i y q
  rw [q] at e;exact congrArg some e
 rename_i q
 rw [q] at e;have a:es.toList.any (·.refKey)=false:=by
  rw [List.any_eq_false];intro y hy;obtain⟨z,t,Bx⟩:=hk y (qT.mp hy);simp [DictEntry.refKey,Bx]
 have a':¬es.toList.any (·.refKey)=true:=by rw [a];exact bG
 rw [ar a'];exact congrArg some e
def Ca.look {h:Heap}{x dx C:Addr}(I:Ca h x dx C mA):∃od,PySem.W.InstAt h x (PySem.W.instObj C dx) C (some od)/\∀name,PySem.W.lookIn name od=some (mA name) :=
 let ⟨od,ho,hl⟩:=Er I.ns
 ⟨od,⟨I.obj,rfl,rfl,ho⟩,hl⟩
section
variable {prog:Program}{w:World}{A:Around}{E:z0b}{s:Shared}{K:aU}{x dx C f:Addr}{mA:z0c}{name:Str}{v:Value}
def get_map (X:K.In s.heap)(I:Ca s.heap x dx C mA)(hg:PySem.W.plainGet K C name=true)(hh:PySem.W.hasDictIn K C=true)
  (ha:PySem.W.findIn K (.ref C) name=some none)(hv:mA name=some v)(hv':PySem.W.handedIn v=true)(h:Q v { s with toks:=s.toks+1 }) :
  wpAny 182 A (getAttr (.ref x) name expr) Q E s:=by
 obtain⟨od,J,hl⟩:=I.look;exact PySem.W.get_value X J (PySem.W.plainGet_of hg).1 (PySem.W.findObj_own hh ha rfl (by rw [hl,hv])) hv' h
def Ih {Q:Value×z0m->151}(X:K.In s.heap)(I:Ca s.heap x dx C mA)(hg:PySem.W.plainGet K C name=true)
  (hf:PySem.W.findIn K (.ref C) name=some (some (.ref f)))(ht:PySem.W.isFn K (.ref f)=true)(hv:mA name=none)(h:Q (.ref f,[.ref x]) s) :
  wpAny 182 A (getMethod (.ref x) name pl) Q E s:=by
 obtain⟨od,J,hl⟩:=I.look;exact PySem.W.method_fn X J (PySem.W.plainGet_of hg).1 (PySem.W.plainGet_of hg).2 hf (beq_iff_eq.mp ht) (by show (PySem.W.lookIn name od).map (·.isSome)=some false;rw [hl,hv];rfl) h
def JF {ns:z0s}{Q:Unit->151}(X:K.In s.heap)(I:Ca s.heap x dx C mA)
  (hs:PySem.W.findIn K (.ref C) "__setattr__"=some (some (.builtin "object.__setattr__")))(hp:PySem.W.plainOver K C=true)(ht:PySem.W.takerIn K C name=some none)(hh:PySem.W.hasDictIn K C=true)
  (hw:PySem.Within mA ns)(hsz:ns.length<=sizeLine)
  (h:∀h',Ca h' x dx C (λy=>if y=name then some v else mA y)->Heap.SameBut dx s.heap h'->Q () { s with heap:=h',toks:=s.toks+2 }) :
  wpAny 182 A (setAttr (.ref x) name v) Q E s:=by
 obtain⟨od,J,hl⟩:=I.look;refine PySem.W.set_plain X J hs (PySem.W.osa_open (s:={ s with toks:=s.toks+1 }) (r:=none) X J hp ht λb=>?_);obtain⟨cd,hc,EH⟩:=PySem.W.any_some hh;have hx:s.heap.get? x=some ⟨.ref C,some dx,.plain,#[]⟩:=I.obj;refine ao (ax (ao (ao (wpAny_loadPart hx (ao (PySem.W.Looks.here (s:={ s with toks:=s.toks+1 }) (PySem.W.looks_clsIn X hc) ?_))))));rw [EH];refine ax (a:=some dx) (ao (ax (ao ?_)));refine wpAny_nsSet1 (s:={ s with toks:=s.toks+1 }) I.ns λh' LX hs2=>?_;obtain⟨oD,esD,epD,hoD,hdD,hcD⟩:=LX.count (PySem.Within.cons name v hw);refine ao (wpAny_lookBehind hoD (by rw [hdD];exact pastItsLine_dict (dU hcD (by rw [dW];omega))) ?_);exact ax (h _ ⟨(hs2.2 _ (cV I.ne)).trans I.obj,LX,I.ne⟩ hs2)
def Hr {R:Result->151}(X:K.In s.heap)(hm:PySem.W.makesIn K C=true)
  (hi:PySem.W.findIn K (.ref C) "__init__"=some (some (.ref f)))(hf:PySem.W.typeIn K (.ref f)=some (.type "function"))
  (h:codeAny 182 (A.under (.builtin "type.__call__" ⟨.ref C::vs,kw⟩)) (.call (.ref f) ⟨.ref 255::vs,kw⟩) (PySem.W.InitBack 255 R)
   { s with heap:=(s.heap.push PySem.W.emptyDict).push (PySem.W.instObj C s.heap.objs.size) }) :
  codeAny 182 A (.call (.ref C) ⟨vs,kw⟩) R s:=by
 obtain⟨hh,g,d,t,os⟩:=s;exact PySem.W.make_core (PySem.W.makes_of X hm) (PySem.W.looks_findIn X hi) (λself=>PySem.W.bind_fn X self hf) (.inl rfl) h
end
def dF (f:Str)(v:V):List (Str×V)->List (Str×V)
 | []=>[(f,v)]
 | (g,x)::r=>if g=f then (g,v)::r else (g,x)::dF f v r
theorem pQ (f g:Str)(v:V):∀fs:List (Str×V),(dF f v fs).lookup g=if g=f then some v else fs.lookup g
 | []=>by
  show List.lookup g [(f,v)]=_;by_cases h:g=f
  .have hb:(g == f)=true:=beq_iff_eq.mpr h;simp only [List.lookup,hb,au h]
  have hb:(g == f)=false:=iZ.mpr h;simp only [List.lookup,hb,ar h]
 | (k,x)::r=>by
  have ih:=pQ f g v r;rw [show dF f v ((k,x)::r)=(if k=f then (k,v)::r else (k,x)::dF f v r) from rfl];by_cases hk:k=f
  .rw [au hk];by_cases h:g=k
   .have hb:(g == k)=true:=beq_iff_eq.mpr h;simp only [List.lookup,hb,au (h.trans hk)]
   have hb:(g == k)=false:=iZ.mpr h;simp only [List.lookup,hb,ar (λe:g=f=>h (e.trans hk.symm))]
  rw [ar hk];by_cases h:g=k
  .have hb:(g == k)=true:=beq_iff_eq.mpr h;simp only [List.lookup,hb,ar (λe:g=f=>hk (h.symm.trans e))]
  have hb:(g == k)=false:=iZ.mpr h;simp only [List.lookup,hb];exact ih
theorem o8 (f:Str)(v:V):∀fs:List (Str×V),f∈(dF f v fs).map 84/\∀g,g∈fs.map 84->g∈(dF f v fs).map 84
 | []=>⟨by simp [dF],λg h=>by simp at h⟩
 | (k,x)::r=>by
  obtain⟨i1,i2⟩:=o8 f v r;rw [show dF f v ((k,x)::r)=(if k=f then (k,v)::r else (k,x)::dF f v r) from rfl];by_cases hk:k=f
  .rw [au hk];subst hk;exact⟨by simp,λg h=>by simpa using h⟩
  rw [ar hk];refine⟨?_,λg h=>?_⟩
  .rw [bY];exact b9 _ i1
  rw [bY] at h ⊢;rcases aX.mp h with e | e
  .exact aX.mpr (.inl e)
  exact b9 _ (i2 g e)
theorem pR (f:Str)(v:V):∀fs:List (Str×V),(dF f v fs).length<=fs.length+1
 | []=>by simp [dF]
 | (k,x)::r=>by
  have ih:=pR f v r;rw [show dF f v ((k,x)::r)=(if k=f then (k,v)::r else (k,x)::dF f v r) from rfl];by_cases hk:k=f
  .rw [au hk,dW,dW];omega
  rw [ar hk,dW,dW];omega
def jB.some_of {v:V}{o:z0j}(r:jB (some v) o):∃u,o=some u/\RelV v u:=by
 cases o with
 | none=>exact(show False from r).elim
 | some u=>exact⟨u,rfl,r⟩
def jB.none_of {o:z0j}(r:jB none o):o=none:=by
 cases o with
 | none=>rfl
 | some u=>exact(show False from r).elim
def EI {v:V}{u:Value}(r:RelV v u):PySem.W.handedIn u=true:=by
 cases v with
 | dY=>cases (show u=Value.none from r);rfl
 | bl b=>cases (show u=Value.bool b from r);rfl
 | int i=>obtain⟨t,e⟩:=(show ∃t,u=Value.int i t from r);cases e;rfl
 | str x=>obtain⟨t,e⟩:=(show ∃t,u=Value.str x t from r);cases e;rfl
 | B4 b=>obtain⟨t,e⟩:=(show ∃t,u=Value.bytes b t from r);cases e;rfl
 | Sx b=>obtain⟨t,e⟩:=(show ∃t,u=Value.float b t from r);cases e;rfl
 | ref a=>cases (show u=Value.ref a from r);rfl
 | ty n=>cases (show u=Value.type n from r);rfl
section
variable {P:Program}{w:World}{H H':Hp}{h h':Heap}{a C dx:Addr}{fs Mf:List (Str×V)}
def xr (bI:mS P w H h)(e:H a=some (.ins C dx fs)):∃mA,Ca h a dx C mA/\(∀f,jB (fs.lookup f) (mA f))/\PySem.Within mA (fs.map 84)/\fs.length<=1000/\H dx=some (.own a):=by
 obtain⟨d,z,ne,ob,mA,n,r,q⟩:=(show bO P w H h a (.ins C dx fs) from bI a _ e);exact⟨mA,⟨ob,n,ne⟩,r,q,z,d⟩
end
structure FE (K:aU)(C:Addr):Prop where
 pg:PySem.W.plainGet K C Str.empty=true
 hd:PySem.W.hasDictIn K C=true
 po:PySem.W.plainOver K C=true
 sa:PySem.W.findIn K (.ref C) "__setattr__"=some (some (.builtin "object.__setattr__"))
def FE.get {K:aU}(c:FE K C)(f:Str):PySem.W.plainGet K C f=true:=c.pg
def dI (K:aU)(C:Addr)(f:Str):Prop:=PySem.W.findIn K (.ref C) f=some none
def dI.Qj {K:aU}{f:Str}(n:dI K C f):PySem.W.takerIn K C f=some none:=by
 unfold PySem.W.takerIn;rw [show PySem.W.findIn K (.ref C) f=some none from n];rfl
structure Meth (K:aU)(C:Addr)(m:Str)(f:Addr):Prop where
 at_:PySem.W.findIn K (.ref C) m=some (some (.ref f))
 fn:PySem.W.isFn K (.ref f)=true
 kp:PySem.W.keepIn K (.ref f)=true
section
variable {X:Cx}{ah:z0e}{σ:St}{H:Hp}{s:Shared}{a C dx:Addr}{fs:List (Str×V)}{f:Str}{v:V}{A:Around}{E:z0b}
def BD {b:Bool}(I:141)(e:H a=some (.ins C dx fs))(c:FE X.K C)(n:dI X.K C f)(l:fs.lookup f=some v)
  (h:∀u s',Inv X ah σ H s'->RelV v u->Q u s'):wpAny 154 A (getAttr (.ref a) f b) Q E s:=by
 obtain⟨mA,O,r,_,_,_⟩:=xr I.bI e;obtain⟨u,hu,ru⟩:=jB.some_of (v:=v) (o:=mA f) (by rw [<-l];exact r f);exact get_map I.xp O (c.get f) c.hd n hu (EI ru) (h u _ (I.tok _) ru)
def sh {g:Addr}{Q:Value×z0m->151}(I:141)(e:H a=some (.ins C dx fs))(c:FE X.K C)(k:Meth X.K C m g)(l:fs.lookup m=none)
  (h:Q (.ref g,[.ref a]) s):wpAny 154 A (getMethod (.ref a) m pl) Q E s:=by
 obtain⟨mA,O,r,_,_,_⟩:=xr I.bI e;have hn:mA m=none:=jB.none_of (by rw [<-l];exact r m);exact Ih I.xp O (c.get m) k.at_ k.fn hn h
def Ax {u:Value}{Q:Unit->151}(I:141)(e:H a=some (.ins C dx fs))(c:FE X.K C)(n:dI X.K C f)(hl:fs.length < 1000)(ry:RelV y u)
  (h:∀s',Inv X ah σ (upd H a (.ins C dx (dF f y fs))) s'->Q () s'):wpAny 154 A (setAttr (.ref a) f u) Q E s:=by
 obtain⟨mA,O,r,wi,_,ho⟩:=xr I.bI e;have hz:(fs.map 84).length<=sizeLine:=by rw [aA,fO];omega
 refine JF I.xp O c.sa c.po n.Qj c.hd wi hz λh' O' sb=>h _ ?_;have hd:∃o,h'.get? dx=85:=let ⟨o,_,_,e',_⟩:=O'.ns;⟨o,e'⟩;refine I.write (x:=a) (e:=dx) (by rw [e];exact True.intro) (.inr ho) (λb q hb z=>(sb.2 b hb).trans z) hd ?_;refine⟨by rw [ai O.ne];exact ho,?_,O.ne,O'.obj,_,O'.ns,λg=>?_,λg hg=>?_⟩
 .have:=pR f y fs;omega
 .show jB ((dF f y fs).lookup g) (if g=f then some u else mA g);rw [pQ];by_cases q:g=f
  .rw [au q,au q];exact ry
  rw [ar q,ar q];exact r g
 by_cases q:g=f
 .rw [q];exact(o8 f y fs).1
 refine(o8 f y fs).2 g (wi g λz=>hg ?_);show (if g=f then some u else mA g)=none;rw [ar q];exact z
def Inv.made (I:141):Inv X ah σ (upd (upd H s.heap.objs.size (.own 255)) 255 (.ins C s.heap.objs.size []))
  { s with heap:=(s.heap.push PySem.W.emptyDict).push (PySem.W.instObj C s.heap.objs.size) }:=by
 have e1:(s.heap.push PySem.W.emptyDict).get? s.heap.objs.size=some PySem.W.emptyDict:=bB s.heap rfl;have e2:((s.heap.push PySem.W.emptyDict).push (PySem.W.instObj C s.heap.objs.size)).get? 255=some (PySem.W.instObj C s.heap.objs.size):=by
  have:=bB (s.heap.push PySem.W.emptyDict) (o:=PySem.W.instObj C s.heap.objs.size) rfl;rwa [iW] at this
 have e3:(s.heap.push PySem.W.emptyDict).Ns s.heap.objs.size (λ_=>none):=⟨PySem.W.emptyDict,#[],_,e1,rfl,(λe he=>absurd he 88),λ_=>rfl⟩;have I1:=I.laid (a:=s.heap.objs.size) (o:=.own 255) (h':=s.heap.push PySem.W.emptyDict) (t':=s.toks) (λb u q=>a0 _ q) (aH _) ⟨_,e1⟩;refine I1.laid (a:=203) (o:=.ins C s.heap.objs.size []) (t':=s.toks) (λb u q=>a0 _ q) (Nat.le_of_eq (iW _ _)) ?_;have ne:s.heap.objs.size≠203:=aR (jP _);refine⟨by rw [ai ne,ae],cY _,ne,e2,λ_=>none,(Heap.Ns1.of_empty e3).at λo q=>a0 _ q,λ_=>True.intro,λy hy=>absurd rfl hy⟩
def K_ {e:Expr}{f:Str}(hb:attributeBase e f env (eval e env)=eval e env)
  (h:wpAny 182 A (eval e env) (λo s₁=>wpAny 182 A (getAttr o f true) Q E s₁) E s):wpAny 182 A (eval (.Attribute e f pos) env) Q E s :=
 Attribute_any_ h (by rw [arm_eval_Attribute,hb])
end
inductive Tt (K:aU)(H:Hp)(f:Str)(x:V)(R:V->Prop):Prop
|mk(a C dx:Addr)(fs:List (Str×V))(v:V)(e:x=.ref a)(h:H a=some (.ins C dx fs))(c:FE K C)(n:dI K C f)(l:fs.lookup f=some v)(q:R v)
inductive XSf (K:aU)(H:Hp)(f:Str)(x:V)(R:Addr->Addr->Addr->List (Str×V)->Prop):Prop
|mk(a C dx:Addr)(fs:List (Str×V))(e:x=.ref a)(h:H a=some (.ins C dx fs))(c:FE K C)(n:dI K C f)(l:fs.length < 1000)(q:R a C dx fs)
def VC (K:aU)(ta:TE)(f:Str):TE:=λσ H Q=>ta σ H λx H1=>Tt K H1 f x λv=>Q v H1
def VQ (K:aU)(ta tv:TE)(f:Str):TS:=λD σ H=>tv σ H λy H1=>ta σ H1 λx H2=>XSf K H2 f x λa C dx fs=>D.nx σ (upd H2 a (.ins C dx (dF f y fs)))
section
variable {X:Cx}{o e value:Expr}{f:Str}{pos pos' An:Pos}{ta tv:TE}
def dH (he:PE X e ta)(hb:attributeBase e f X.env (eval e X.env)=eval e X.env):PE X (.Attribute e f pos) (VC X.K ta f):=by
 intro ah s σ H Q I h;refine K_ hb (cM (he ah s σ H _ I h) λu s1 aW=>?_);obtain⟨x,H1,I1,rx,a,C,dx,fs,v,ex,ea,c,n,l,q⟩:=aW;subst ex;obtain rfl:u=Value.ref a:=rx;exact BD I1 ea c n l λu' s2 I2 ru=>⟨v,H1,I2,ru,q⟩
def fU (ha:PE X o ta)(hv:PE X value tv)(hs:swapsWith value (some (.Attribute o f pos')) pos.line X.env=pure false):PS X (.Assign [.Attribute o f pos'] value pos) (VQ X.K ta tv f):=by
 intro ah s σ H D I h;refine plainObj_wpAny_Assign_Attribute (cM (hv ah s σ H _ I h) λu s1 aW=>?_) hs;obtain⟨y,H1,I1,ry,q⟩:=aW;refine cM (ha ah s1 σ H1 _ I1 q) λov s2 aW=>?_;obtain⟨x,H2,I2,rx,a,C,dx,fs,ex,ea,c,n,l,q2⟩:=aW;subst ex;obtain rfl:ov=Value.ref a:=rx;exact Ax I2 ea c n l ry λs3 I3=>⟨σ,_,I3,q2⟩
def LF {apos:Pos}{σ:St}(he:PE X e te)(I:141)
  (h:te σ H λx H1=>∃a C dx fs g,x=.ref a/\H1 a=some (.ins C dx fs)/\FE X.K C/\Meth X.K C m g/\fs.lookup m=none /\
   ∀s1,Inv X ah σ H1 s1->wpAny 154 X.A (callWith pos (.ref g) [.ref a] (backTo pos (starEach args X.env)) (backToKw pos (keywordEach [] X.env))) Q X.xe s1)
  (ht:eval (.Call (.Attribute e m apos) args [] pos) X.env=(do
   let ov <-eval e X.env
   standAt apos.atName
   let (f,first) <-holding [ov] (getMethod ov m pl)
   callWith pos f first (backTo pos (starEach args X.env)) (backToKw pos (keywordEach [] X.env)))) :
  wpAny 154 X.A (eval (.Call (.Attribute e m apos) args [] pos) X.env) Q X.xe s:=by
 refine PySem.W.methodCall_KW (pl:=pl) (cM (he ah s σ H _ I h) λu s1 aW=>?_) ht;obtain⟨x,H1,I1,rx,a,C,dx,fs,g,ex,ea,c,k,l,q⟩:=aW;subst ex;obtain rfl:u=Value.ref a:=rx;exact sh I1 ea c k l (q s1 I1)
end
section
variable {X:Cx}{ah:z0e}{σ:St}{H:Hp}{s:Shared}{A:Around}{E:z0b}{Q:z0b}{c:Value}{b:Bool}
end
structure fA (k:Nat)(A:Around):Prop where
 hd:A.handled=none
 dp:A.depth+3 * k+5 < recursionLimit
 un:A.units+16 * k+200 < cLine
 gd:A.guards=some []
def fA.mono {j k:Nat}(r:fA k A)(h:j<=k):fA j A:=⟨r.hd,by have:=r.dp;omega,by have:=r.un;omega,r.gd⟩
theorem fA.deeper {k:Nat}{A:Around}(r:fA (k+1) A)(env:Env):fA k (A.deeper env) :=
 ⟨r.hd,by have:=r.dp;show A.depth+1+3 * k+5 < _;omega,by have:=r.un;show A.units+3+16 * k+200 < _;omega,r.gd⟩
def Bg {A:Around}:(A.under (.builtin "type.__call__" ⟨.ref C::us,kw⟩)).depth=A.depth+1:=by
 first | rfl | simp [Around.under,Code.weight,Code.isCreation,Code.isGuard,Code.isCaller,Code.frames,Code.isFrame,guardIds]
def Bf {A:Around}:(A.under (.builtin "type.__call__" ⟨.ref C::us,kw⟩)).units=A.units+1:=by
 first | rfl | simp [Around.under,Code.cUnits,Code.frames,Code.isFrame]
def yT {A:Around}:(A.under (.builtin "type.__call__" ⟨.ref C::us,kw⟩)).guards=A.guards:=by
 first | rfl | simp [Around.under,Code.guards,Code.isGuard,guardIds,pushGuards]
def fA.make {k:Nat}{A:Around}(r:fA (k+1) A)(C:Addr)(us:z0m)(kw:z0d):fA k (A.under (.builtin "type.__call__" ⟨.ref C::us,kw⟩)) :=
 ⟨r.hd,by have:=r.dp;rw [Bg];omega,by have:=r.un;rw [Bf];omega,by rw [yT];exact r.gd⟩
theorem fA.depth {k:Nat}{A:Around}(r:fA k A):A.depth < recursionLimit:=by have:=r.dp;omega
theorem fA.units {k:Nat}{A:Around}(r:fA k A):A.units+64 < cLine:=by have:=r.un;omega
def q9:TA:=λ_ H Q=>Q [] H
def fQ (ta:TE)(tr:TA):TA:=λσ H Q=>ta σ H λx H1=>tr σ H1 λxs H2=>Q (x::xs) H2
section
variable {X:Cx}{e:Expr}{es:z0q}{te:TE}{t:TA}{pos:Pos}
def aq:PA X [] q9:=λ_ _ _ _ H Q I h=>jZ ⟨[],H,I,.nil,h⟩
def af (ha:PE X e te)(hr:PA X es t)(hs:461:=by rfl):PA X (e::es) (fQ te t):=by
 intro pos ah s σ H Q I h;rw [hs];show wpAny _ _ (spliced ((false,eval e X.env)::backTo pos (starEach es X.env))) _ _ s;refine jQ (cM (ha ah s σ H _ I h) λu s1 aW=>?_);obtain⟨x,H1,I1,r1,q1⟩:=aW;refine cM (hr pos ah s1 σ H1 _ I1 q1) λus s2 aW=>?_;obtain⟨xs,H2,I2,r2,q2⟩:=aW;exact⟨x::xs,H2,I2,.cons r1 r2,q2⟩
def tT (t:TA):TE:=λσ H Q=>t σ H λxs H1=>xs.length<=sizeLine/\∀p,H1 p=none->Q (.ref p) (upd H1 p (.tup xs))
def Qs (t:TA):TE:=λσ H Q=>t σ H λxs H1=>xs.length<=sizeLine/\∀p,H1 p=none->Q (.ref p) (upd H1 p (.lst xs))
def bq {x1}(h:PA X es t):PE X (.Tuple es x1 pos) (tT t):=by
 intro ah s σ H Q I hq;refine wpAny_Tuple_spliced (cM (h pos ah s σ H _ I hq) λus s1 aW=>?_);obtain⟨xs,H1,I1,r,z,q⟩:=aW;refine⟨by rw [<-r.length];exact z,?_⟩;have hf:H1 s1.heap.objs.size=none:=I1.bI.fresh (aH _);refine⟨.ref s1.heap.objs.size,upd H1 s1.heap.objs.size (.tup xs),I1.laid (t':=s1.toks) (λb u e=>a0 _ e) (aH _) ?_,rfl,q _ hf⟩;exact⟨z,us,r,⟨_,bB _ rfl,rfl,_,rfl⟩⟩
def bc (h:PA X es t):PE X (.List es pos) (Qs t):=by
 intro ah s σ H Q I hq;refine wpAny_List_spliced (cM (h pos ah s σ H _ I hq) λus s1 aW=>?_);obtain⟨xs,H1,I1,r,z,q⟩:=aW;refine⟨by rw [<-r.length];exact z,?_⟩;have hf:H1 s1.heap.objs.size=none:=I1.bI.fresh (aH _);refine⟨.ref s1.heap.objs.size,upd H1 s1.heap.objs.size (.lst xs),I1.laid (t':=s1.toks) (λb u e=>a0 _ e) (aH _) ?_,rfl,q _ hf⟩;exact⟨z,us,0,r,bB _ rfl⟩
end
abbrev Sp:=List V->Hp->VK->XK->Prop
abbrev MA:=List Env->Hp->Shared->XK->Value->151
structure zS (P:Program)(w:World)(K:aU)(mg:z0c)(base:Heap)(A:Around)(outer:List Env)(s:Shared)(H:Hp):Prop where
 frames:A.frames=some outer
 mod:Mod K mg base
 bs:∀b o,base.get? b=85->160/\H b=none
 K8:base.objs.size<=s.heap.objs.size
 qd:s.heap.FunFrames base outer
 Oj:∀b∈EK outer,H b=none
 bI:mS P w H s.heap
 bare:AllBare s.gens
def CE (outer:List Env)(P:Program)(w:World)(H:Hp)(s:Shared)(Q:VK)(u:Value)(s':Shared):Prop :=
 ∃v H',s'.os=s.os/\AllBare s'.gens/\Un (EK outer) [] H H' s.heap s'.heap/\mS P w H' s'.heap/\RelV v u/\Q v H'
def CR (CX:MA)(outer:List Env)(P:Program)(w:World)(H:Hp)(s:Shared)(Q:VK)(E:XK)(r:Result)(s':Shared):Prop :=
 match r with
 | .ok (.ret u)=>CE outer P w H s Q u s'
 | .ok _=>False
 | .error e=>CX outer H s E e s'
structure bS (P:Program)(w:World)(K:aU)(mg:z0c)(base:Heap)(CX:MA) (k:Nat)(f:Addr)(fd:FuncData) (ps:z0s)(sp:Sp):Prop where
 len:∀vs H Q E,sp vs H Q E->vs.length=ps.length
 run:∀(A:Around)(outer:List Env)(s:Shared)(H:Hp)(args:Args)(us:z0m)(vs:List V)(Q:VK)(E:XK),fA k A->zS P w K mg base A outer s H->BindsTo s fd args (ps.zip us)->bh vs us->sp vs H Q E ->
  codeAny 163 A (.call (.ref f) args) (CR CX outer P w H s Q E) s
theorem bS.mono {K:aU}{j k:Nat}{f:Addr}(F:bS P w K mg base CX j f fd ps sp)(h:j<=k) :
  bS P w K mg base CX k f fd ps sp:=⟨F.len,λA outer s H args us vs Q E hr=>F.run A outer s H args us vs Q E (hr.mono h)⟩
def zS.make {K:aU}{A:Around}(e:zS P w K mg base A outer s H)(C:Addr)(us:z0m)(kw:z0d) :
  zS P w K mg base (A.under (.builtin "type.__call__" ⟨.ref C::us,kw⟩)) outer s H:=⟨by first | exact e.frames | (simpa [Around.under,Code.envs,Code.isFrame,pushEnvs] using e.frames),e.mod,e.bs,e.K8,e.qd,e.Oj,e.bI,e.bare⟩
section
variable {X:Cx}{ah:z0e}{σ:St}{H:Hp}{s s':Shared}
def Inv.Ot (I:141):zS X.prog X.w X.K X.mg X.base X.A X.stack s H :=
 ⟨I.ok.frames,I.ok.mod,I.bs,dU I.ok.K8 I.sz,I.stack,I.Cu,I.bI,I.bare⟩
def Inv.after {Q:VK}{u:Value}(I:141)(h:CE X.stack X.prog X.w H s Q u s'):EP X ah σ Q u s':=by
 obtain⟨v,H',os,bare,un,bI,r,q⟩:=h;obtain⟨hh,g,d,t,QZ⟩:=s';obtain rfl:QZ=s.os:=os;exact⟨v,H',I.call (h':=hh) (g':=g) (d':=d) (t':=t) (ch:=[]) un bI bare (λb z=>absurd z 88),r,q⟩
end
def Ln (sp:Sp)(dvs:List V)(E:XK)(t:TA):TE:=λσ H Q=>t σ H λvs H1=>sp (vs++dvs) H1 Q E
def Qq (C:Addr)(m:Str)(sp:Sp)(dvs:List V)(E:XK)(ta:TE)(t:TA):TE:=λσ H Q=>ta σ H λx H1=>∃a dx fs,x=.ref a/\H1 a=some (.ins C dx fs)/\fs.lookup m=none /\
 t σ H1 λvs H2=>sp (x::(vs++dvs)) H2 Q E
def Qr (C:Addr)(sp:Sp)(dvs:List V)(E:XK)(t:TA):TE:=λσ H Q=>t σ H λvs H1=>∀x dx,H1 x=none->H1 dx=none->dx≠x ->
 sp (.ref x::(vs++dvs)) (upd (upd H1 dx (.own x)) x (.ins C dx [])) (λv H2=>v=.dY/\Q (.ref x) H2) E
def Binds (K:aU)(fd:FuncData) (ps:z0s)(ds:z0m):Prop :=
 ∀(s:Shared)(us:z0m),K.In s.heap->(us++ds).length=ps.length->BindsTo s fd ⟨us,[]⟩ (ps.zip (us++ds))
def Binds.all {K:aU}{ps:z0s}(h:∀us:z0m,us.length=ps.length->bindArgs fd ⟨us,[]⟩=pure (ps.zip us)):Binds K fd ps []:=λs us _ hl=>by
 rw [fq] at hl ⊢;exact .of_eq (h us hl)
def Passes (CX:MA)(X:Cx)(E:XK):Prop:=∀(ah:z0e)(σ:St)(H:Hp)(s:Shared)(e:Value)(s':Shared),141->CX X.stack H s E e s'->X.xe e s'
section
variable {X:Cx}{CX:MA}{k:Nat}{f C:Addr}{fd:FuncData}{ps:z0s}{sp:Sp}{dvs:List V}{ds:z0m}{E:XK}{x m:Str}{p pos apos:Pos}{e o:Expr}{es:z0q}{ta:TE}{t:TA}
def Gi {σ:St}{Q:VK}(F:bS X.prog X.w X.K X.mg X.base CX k f fd ps sp)(hr:fA k X.A)(hb:Binds X.K fd ps ds)(hd:bh dvs ds)(hx:Passes CX X E)
  (I:141)(r:bh vs us)(h:sp (vs++dvs) H Q E):wpAny 154 X.A (call (.ref f) us) (EP X ah σ Q) X.xe s:=by
 have r2:bh (vs++dvs) (us++ds):=r.append hd;have hl:(us++ds).length=ps.length:=by rw [<-r2.length];exact F.len _ _ _ _ h
 refine jS (jU (F.run X.A X.stack s H ⟨us,[]⟩ (us++ds) (vs++dvs) Q E hr I.Ot (hb s us I.xp hl) r2 h) λr s' hq=>?_);cases r with
 | error e=>exact hx ah σ H s e s' I hq
 | ok fl =>
  cases fl with
  | ret u=>exact I.after hq
  | next=>exact False.elim hq
  | brk=>exact False.elim hq
  | cont=>exact False.elim hq
def J1 (F:bS X.prog X.w X.K X.mg X.base CX k f fd ps sp)(hr:fA k X.A)(hg:Gl X x)(hm:X.mg x=some (.ref f))(hk:PySem.W.keepIn X.K (.ref f)=true)(hb:Binds X.K fd ps ds)(hd:bh dvs ds)(hx:Passes CX X E)
  (ha:PA X (e::es) t)(EG:(x == ("__debug__":Str))=false:=by decide)(he:461:=by rfl)(t_:(backTo pos (starEach es X.env)).any 84=false:=by rfl) :
  PE X (.Call (.Name x p) (e::es) [] pos) (Ln sp dvs E t):=by
 intro ah s σ H Q I h;refine mW (xm I hg hm ?_ EG);refine PySem.W.callWith_K (h₀:=X.base) I.ok.mod.Rv hk 460 he t_;obtain⟨vs,H1,I1,r,q⟩:=aW;refine⟨I1.xp,?_⟩;exact Gi F hr hb hd hx I1 r q
def CZ (he:PE X o ta)(c:FE X.K C)(hm:Meth X.K C m f)(F:bS X.prog X.w X.K X.mg X.base CX k f fd ps sp)(hr:fA k X.A)(hb:Binds X.K fd ps ds)(hd:bh dvs ds)(hx:Passes CX X E)(ha:PA X (e::es) t)
  (qy:461:=by rfl)(t_:(backTo pos (starEach es X.env)).any 84=false:=by rfl)
  (ht:eval (.Call (.Attribute o m apos) (e::es) [] pos) X.env=(do
   let ov <-eval o X.env
   standAt apos.atName
   let (f,first) <-holding [ov] (getMethod ov m pl)
   callWith pos f first (backTo pos (starEach (e::es) X.env)) (backToKw pos (keywordEach [] X.env))):=by rfl) :
  PE X (.Call (.Attribute o m apos) (e::es) [] pos) (Qq C m sp dvs E ta t):=by
 intro ah s σ H Q I h;refine PySem.W.methodCall_KW (pl:=pl) (cM (he ah s σ H _ I h) λu s1 aW=>?_) ht;obtain⟨x,H1,I1,rx,a,dx,fs,ex,ea,l,q⟩:=aW;subst ex;obtain rfl:u=Value.ref a:=rx;refine sh I1 ea c hm l ?_;refine PySem.W.callWith_K (first:=[.ref a]) (h₀:=X.base) I.ok.mod.Rv hm.kp (cM (ha pos ah s1 σ H1 _ I1 q) λus s2 aW=>?_) qy t_;obtain⟨vs,H2,I2,r,q2⟩:=aW;refine⟨I2.xp,?_⟩;exact Gi (us:=.ref a::us) (vs:=.ref a::vs) F hr hb hd hx I2 (.cons rfl r) q2
structure Mk (K:aU)(C f:Addr):Prop where
 makes:PySem.W.makesIn K C=true
 init:PySem.W.findIn K (.ref C) "__init__"=some (some (.ref f))
 fn:PySem.W.isFn K (.ref f)=true
 kp:PySem.W.keepIn K (.ref C)=true
def Gh {σ:St}{Q:VK}(M:Mk X.K C f)(F:bS X.prog X.w X.K X.mg X.base CX k f fd ps sp)(hr:fA (k+1) X.A)(hb:Binds X.K fd ps ds)(hd:bh dvs ds)
  (hx:Passes CX X E)(I:141)(r:bh vs us)
  (h:∀x dx,H x=none->H dx=none->dx≠x->sp (.ref x::(vs++dvs)) (upd (upd H dx (.own x)) x (.ins C dx [])) (λv H2=>v=.dY/\Q (.ref x) H2) E) :
  wpAny 154 X.A (call (.ref C) us) (EP X ah σ Q) X.xe s:=by
 have hq:=h 255 s.heap.objs.size (I.bI.fresh (gp _)) (I.bI.fresh (aH _)) (aR (jP _));have I2:=Inv.made (C:=C) I;have r2:bh (V.ref 255::(vs++dvs)) (Value.ref 255::(us++ds)):=.cons rfl (r.append hd);have hl:(Value.ref 255::us++ds).length=ps.length:=by
  have e:=r2.length;rw [F.len _ _ _ _ hq] at e;exact e.symm
 refine jS (Hr (f:=f) I.xp M.makes M.init (beq_iff_eq.mp M.fn) (jU (F.run _ X.stack _ _ ⟨Value.ref 255::us,[]⟩ (Value.ref 255::(us++ds)) _ _ E (hr.make C us [])
  (I2.Ot.make C us []) (hb _ (Value.ref 255::us) I2.xp hl) r2 hq) λr s' KC=>?_))
 cases r with
 | error e=>exact hx ah σ _ _ e s' I2 KC
 | ok fl =>
  cases fl with
  | ret u =>
   obtain⟨v,H',I3,rv,ev,q3⟩:=I2.after KC;subst ev;exact⟨rv,⟨V.ref 255,H',I3,rfl,q3⟩⟩
  | next=>exact False.elim KC
  | brk=>exact False.elim KC
  | cont=>exact False.elim KC
def qp (M:Mk X.K C f)(F:bS X.prog X.w X.K X.mg X.base CX k f fd ps sp)(hr:fA (k+1) X.A)(hg:Gl X x)(hm:X.mg x=some (.ref C))(hb:Binds X.K fd ps ds)(hd:bh dvs ds)(hx:Passes CX X E)
  (ha:PA X (e::es) t)(EG:(x == ("__debug__":Str))=false:=by decide)(he:461:=by rfl)(t_:(backTo pos (starEach es X.env)).any 84=false:=by rfl) :
  PE X (.Call (.Name x p) (e::es) [] pos) (Qr C sp dvs E t):=by
 intro ah s σ H Q I h;refine mW (xm I hg hm ?_ EG);refine PySem.W.callWith_K (h₀:=X.base) I.ok.mod.Rv M.kp 460 he t_;obtain⟨vs,H1,I1,r,q⟩:=aW;refine⟨I1.xp,?_⟩;exact Gh M F hr hb hd hx I1 r q
end
section
variable {X:Cx}{CX:MA}{k:Nat}{f C:Addr}{fd:FuncData}{ps ks:z0s}{sp:Sp}{E:XK}{x m:Str}{p pos apos aaj:Pos}{e o:Expr}{es:z0q}{kws:List Keyword}{te ta:TE}{t tk:TA}{nm:Option Str}
variable {g:z0m->z0m->z0m}{gV:List V->List V->List V}
end
structure aN (N P:z0s)(sc:Scope):Prop where
 kind:sc.kind=.function
 co:sc.isCoroutine=false
 gen:sc.isGenerator=false
 nd:N.Nodup
 pre:N.take P.length=P
 par:∀x∈P,sc.names.lookup x=some .local\/sc.names.lookup x=some .cell
 Nw:∀y∈sc.names,y.2≠.free
def jK {N P:z0s}{sc:Scope}(a:sc.kind=.function)(b:sc.isCoroutine=false)(c:sc.isGenerator=false)(d:N.take P.length=P)(e:N.Nodup/\(∀x∈P,sc.names.lookup x=some .local\/sc.names.lookup x=some .cell)/\∀y∈sc.names,y.2≠.free):aN N P sc:=⟨a,b,c,e.1,d,e.2.1,e.2.2⟩
theorem u9 {kindOf:Str->Option NameKind}{x:Str}:∀{binds:z0d}{m:z0c},(∀v,(x,v)∉binds)->bindL kindOf binds m x=m x
 | [],_,_=>rfl
 | (n,v)::r,m,h=>by
  unfold bindL;rw [u9 λw hw=>h w (b9 _ hw)]
  split
  .have:x≠n:=by rintro rfl;exact h v bP
   simp [this]
  rfl
theorem va {kindOf:Str->Option NameKind}{x:Str}:∀{binds:z0d}{m:z0c},(∀v,(x,v)∉binds)->bindC kindOf binds m x=m x
 | [],_,_=>rfl
 | (n,v)::r,m,h=>by
  unfold bindC;rw [va λw hw=>h w (b9 _ hw)]
  split
  .rfl
  have:x≠n:=by rintro rfl;exact h v bP
  simp [this]
theorem u_ {kindOf:Str->Option NameKind}{x:Str}{v:Value}:∀{P:z0s}{vs:z0m}{i:Nat}{m:z0c},P.Nodup->P[i]?=some x->vs[i]?=some v->kindOf x=some .local ->
  bindL kindOf (P.zip vs) m x=some v
 | [],_,_,_,_,h,_,_=>by simp at h
 | _::_,[],_,_,_,_,h,_=>by simp at h
 | p::P,w::vs,0,m,nd,h1,h2,hk=>by
  simp at h1 h2;subst h1;subst h2;show bindL kindOf ((p,w)::P.zip vs) m p=_;unfold bindL;rw [u9 λv hv=>(jo.mp nd).1 (List.of_mem_zip hv).1,au hk];simp
 | p::P,w::vs,i+1,m,nd,h1,h2,hk=>by
  show bindL kindOf ((p,w)::P.zip vs) m x=_;unfold bindL;exact u_ (i:=i) (jo.mp nd).2 (by simpa using h1) (by simpa using h2) hk
theorem vc {kindOf:Str->Option NameKind}{x:Str}{v:Value}:∀{P:z0s}{vs:z0m}{i:Nat}{m:z0c},P.Nodup->P[i]?=some x->vs[i]?=some v->kindOf x≠some .local ->
  bindC kindOf (P.zip vs) m x=some v
 | [],_,_,_,_,h,_,_=>by simp at h
 | _::_,[],_,_,_,_,h,_=>by simp at h
 | p::P,w::vs,0,m,nd,h1,h2,hk=>by
  simp at h1 h2;subst h1;subst h2;show bindC kindOf ((p,w)::P.zip vs) m p=_;unfold bindC;rw [va λv hv=>(jo.mp nd).1 (List.of_mem_zip hv).1,ar hk];simp
 | p::P,w::vs,i+1,m,nd,h1,h2,hk=>by
  show bindC kindOf ((p,w)::P.zip vs) m x=_;unfold bindC;exact vc (i:=i) (jo.mp nd).2 (by simpa using h1) (by simpa using h2) hk
def start (N:z0s)(vs:List V):St:=vs.map some++List.replicate (N.length - vs.length) none
def pD (CX:MA)(P:Program)(w:World)(K:aU)(mg:z0c)(base:Heap) (N:z0s)(qual:Str)(scope:Scope)(f:Addr)(cd:Value)(A:Around)(outer:List Env)(s:Shared)(H:Hp)(E:XK):Cx where
 prog:=P
 w:=w
 K:=K
 mg:=mg
 base:=base
 A:=A.deeper (envOfC qual scope s.heap.objs.size f cd)
 N:=N
 s₀:=s
 H₀:=H
 env:=envOfC qual scope s.heap.objs.size f cd
 outer:=outer
 stack:=envOfC qual scope s.heap.objs.size f cd::outer
 ex:=[]
 calm:=true
 fn:=λ_=>true
 pn:=[]
 xe:=λe s'=>wpAny 163 (A.deeper (envOfC qual scope s.heap.objs.size f cd)) (leaving (envOfC qual scope s.heap.objs.size f cd) e) (λ_ Nd=>CX outer H s E e Nd) (λe' Nd=>CX outer H s E e' Nd) s'
def zD {sc:Scope}{x:Str}(h:sc.names.lookup x=some .cell):∃c,(cellsFrom n sc.names []).lookup x=some c:=by
 have q:=PySem.W.cellsFrom_some sc.names n [] (.inl h);exact lQ.mp q
def uQ {K:aU}{N ps:z0s}{scope:Scope}{f:Addr}{A:Around}{s s1:Shared}{E:XK}{vs:List V}
  (S:aN N ps scope)(hd:A.handled=none)(e0:zS P w K mg base A outer s H)(hl:vs.length=ps.length)(r:bh vs us)
  (x:InCallC s s.heap.objs.size (bindL (envOfC qual scope s.heap.objs.size f cd).kindOf (ps.zip us) λ_=>none) (cellsFrom 255 scope.names []) (bindC (envOfC qual scope s.heap.objs.size f cd).kindOf (ps.zip us) λ_=>none) s1) :
  Inv (pD CX P w K mg base N qual scope f cd A outer s H E) [] (start N vs) H s1:=by
 have t_:ps.length<=N.length:=by have:=congrArg List.length S.pre;rw [dB] at this;omega
 obtain⟨h1,tk,rfl,hk⟩:=x.done;have Wk:∀b:Addr,b∉(pD CX P w K mg base N qual scope f cd A outer s H E).ex:=λb z=>absurd (show b∈([]:z0p) from z) 88;refine⟨⟨e0.mod,S.kind,rfl,rfl,aH _,λy z c h1 h2=>?_,λy hy=>?_,λy c _ h=>?_,λ_=>hd,Around.frames_deeper e0.frames,.inr ⟨rfl,rfl⟩,λb z=>absurd z (Wk b),e0.bs,e0.K8,λb _ _=>Wk b,λb z=>absurd z (Wk b),e0.qd,e0.Oj⟩,
  rfl,e0.bare,Un.kept hk,⟨_,x.toInCall.ns,λi y v h1 h2 h3=>?_⟩,λy c h=>⟨_,x.cell y c h⟩,e0.bI.fresh (aH _),λy c h=>?_,λp hp=>absurd (show p∈([]:z0e) from hp) 88,e0.bI.kept hk,?_⟩
 .exact name_of_addr x.apart (qS h1) (qS h2)
 .have hy:scope.names.lookup y=some .cell\/scope.names.lookup y=some .free:=hy;rcases hy with hy | hy
  .exact zD hy
  exact absurd rfl (S.Nw _ (qS hy))
 .exact iJ (x.above y c (qS h))
 .have hi:i < vs.length:=by
   unfold start at h2;by_cases hi:i < vs.length
   .exact hi
   rw [qW (by simpa using hi)] at h2;rw [List.getElem?_replicate] at h2
   split at h2 <;> cases h2
  have ha:vs[i]?=some v:=by
   unfold start at h2;rw [vX (by simpa using hi),aS] at h2;cases e:vs[i]? with
   | none=>rw [e] at h2;cases h2
   | some a=>rw [e] at h2;cases h2;rfl
  obtain⟨u,hu,rv⟩:=r.get ha;have hp:ps[i]?=some y:=by
   rw [<-S.pre,List.getElem?_take_of_lt ∅];exact h1
  have ndP:ps.Nodup:=by rw [<-S.pre];exact S.nd.sublist (vx _ _)
  refine⟨u,rv,?_⟩;rcases S.par y (bE hp) with k | k
  .exact .inl ⟨k,u_ ndP hp hu k⟩
  obtain⟨c,e⟩:=zD (n:=203) k;refine .inr ⟨.inl k,c,e,?_⟩;have q:=x.cell y c e;rw [vc ndP hp hu (by show scope.names.lookup y≠_;rw [k];decide)] at q;exact q
 .exact e0.bI.fresh (iJ (x.above y c (qS h)))
 unfold start;show _=N.length;rw [bH,aA,List.length_replicate];omega
def Iq {K:aU}{k:Nat}{f:Addr}{body:List Stmt}{dV kV doc pm dP ct oc:Value}
  {N ps:z0s}(lk:K.lookup f=some ⟨oc,od,.func (PySem.W.fnOf name qual params body scope dV kV doc pm an dP ct),wW⟩)(xA:PySem.W.codeIn K dP qual=true)(S:aN N ps scope)
  (len:∀vs H Q E,sp vs H Q E->vs.length=ps.length)
  (jb:∀(A:Around)(outer:List Env)(s:Shared)(H:Hp)(vs:List V)(Q:VK)(E:XK),fA k (A.deeper (envOfC qual scope s.heap.objs.size f dP))->sp vs H Q E ->
   ∃t,B_ (pD CX P w K mg base N qual scope f dP A outer s H E) body t/\t { nx:=λ_ H'=>Q .dY H',rt:=Q } (start N vs) H) :
  bS P w K mg base CX (k+1) f (PySem.W.fnOf name qual params body scope dV kV doc pm an dP ct) ps sp:=by
 refine⟨len,λA outer s H args us vs Q E hr e0 hb r Fs=>?_⟩;have hl:=len _ _ _ _ Fs;have KX:K.In s.heap:=e0.mod.Rv.keeps λb o e=>(e0.bs b o e).1;have lim:s.heap.NoLimit:=e0.mod.nolimit.keeps λb o e=>(e0.bs b o e).1;have i_:∀y∈ps.zip us,scope.names.lookup y.1=some .local\/(scope.names.lookup y.1=some .cell/\((cellsFrom 255 scope.names []).lookup y.1).isSome=true):=λ⟨n,v⟩ hy=>by
  rcases S.par n (List.of_mem_zip hy).1 with q | q
  .exact .inl q
  exact .inr ⟨q,PySem.W.cellsFrom_some _ _ _ (.inl q)⟩
 refine codeAny_call_function hr.depth (KX _ _ lk) rfl S.co S.gen rfl (PySem.W.codeRec_of KX xA) (hb _ _ _ _ ?_);refine wpAny_newFunctionEnv_cells S.kind i_ λenv he s1 x=>?_;subst he;refine⟨lim.keeps x.toInCall.keep,codeAny_func ?_⟩;obtain⟨t,ht,hq⟩:=jb A outer s H vs Q E (hr.deeper _) Fs;have I:Inv (pD CX P w K mg base N qual scope f dP A outer s H E) [] (start N vs) H s1:=uQ S hr.hd e0 hl r x;refine dw (ht [] s1 (start N vs) H _ I hq) (λfl s' hs=>?_) λe s' hs=>hs;have fin:∀{σ':St}{H':Hp}{v:V}{u:Value},Inv (pD CX P w K mg base N qual scope f dP A outer s H E) [] σ' H' s'->RelV v u->Q v H'->CE outer P w H s Q u s' :=
  λ{σ' H' v u} J rv q=>⟨v,H',J.os,J.bare,J.base,J.bI,rv,q⟩
 cases fl with
 | ret u =>
  obtain⟨v,σ',H',J,rv,q⟩:=hs;exact fin J rv q
 | next =>
  obtain⟨σ',H',J,q⟩:=hs;exact fin (v:=V.dY) (u:=Value.none) J rfl q
 | brk =>
  obtain⟨_,_,_,q⟩:=hs;exact False.elim q
 | cont =>
  obtain⟨_,_,_,q⟩:=hs;exact False.elim q
section
variable {X:Cx}{x:Str}{p pos:Pos}{e:Expr}{es:z0q}{t:TA}{id T:String}{r:List V->Hp->VK->Prop}
def ZM (r:List V->Hp->VK->Prop)(t:TA):TE:=λσ H Q=>t σ H λvs H1=>r vs H1 Q
def bL (hc:gk X (.builtin id) r)(hg:Gl X x)(hm:X.mg x=none)(hv:bootBuiltins x=some (.builtin id))(ha:PA X (e::es) t)(hn:x ≠ "__name__" := by decide)(EG:(x == ("__debug__":Str))=false:=by decide)
  (he:461:=by rfl)(t_:(backTo pos (starEach es X.env)).any 84=false:=by rfl):PE X (.Call (.Name x p) (e::es) [] pos) (ZM r t):=by
 intro ah s σ H Q I h;refine mW (ir I hg hm hv ?_ hn EG);refine PyProof.Rows.callWith_builtin1 460 he t_;obtain⟨vs,H1,I1,r1,q1⟩:=aW;exact hc ah s1 σ H1 vs us Q I1 r1 q1
def a8 (hc:gk X (.type T) r)(hg:Gl X x)(hm:X.mg x=none)(hv:bootBuiltins x=some (.type T))(ha:PA X (e::es) t)(hn:x ≠ "__name__" := by decide)(EG:(x == ("__debug__":Str))=false:=by decide)
  (he:461:=by rfl)(t_:(backTo pos (starEach es X.env)).any 84=false:=by rfl):PE X (.Call (.Name x p) (e::es) [] pos) (ZM r t):=by
 intro ah s σ H Q I h;refine mW (ir I hg hm hv ?_ hn EG);refine qY 460 he t_;obtain⟨vs,H1,I1,r1,q1⟩:=aW;exact hc ah s1 σ H1 vs us Q I1 r1 q1
end
end L2
namespace HT
open PySem PyProof.Rows
section
open PySem.SeqAt
open PySem.AutoSeq1 (wpAny_loadPart')
open PySem.MeetsSeq PySem.MeetsSeq2 PySem.MeetsSeq3
end
section
variable {prog:Program}{w:World}{A:Around}{E:z0b}{s:Shared}
def K7 {t b:Addr}{vs ws:z0m}(ht:IsTup s.heap t vs.toArray)(hb:IsTup s.heap b ws.toArray)(hv:vs≠[])
  (h1:ws=[]->Q (.ref t) s)(h2:ws≠[]->Q 398 { s with heap:=s.heap.push { cls:=183,data:=.seq (vs++ws).toArray } })
  (hsz:vs.length+ws.length<=sizeLine):wpAny 182 A (binaryOp .Add (.ref t) (.ref b)) Q E s:=by
 obtain⟨⟨cls,dd,data,sl⟩,ho,hc,n,hd⟩:=id ht;obtain⟨⟨YT,P4,data2,O8⟩,qz,Sk,n2,hd2⟩:=id hb;simp only at hc hd Sk hd2;subst hc hd Sk hd2;have e:vs.toArray++ws.toArray=(vs++ws).toArray:=by simp
 by_cases hw:ws=[]
 .exact concat_meets ⟨_,ho,rfl⟩ ⟨_,qz,rfl⟩ noFill_tuple_add seq_tuple_add z8 z9 (Ab _ _)
   (tuple_addW1 t b vs.toArray ws.toArray n n2 dd P4 sl O8 (by simpa using hv) (by simp [hw])) ⟨ho,qz,h1 hw⟩
 refine concat_meets ⟨_,ho,rfl⟩ ⟨_,qz,rfl⟩ noFill_tuple_add seq_tuple_add z8 z9 (Ab _ _)
  (tuple_addW2 t b vs.toArray ws.toArray n n2 dd P4 sl O8 (by simpa using hv) (by simpa using hw) (by rw [cu,cu];exact hsz)) ⟨ho,qz,?_⟩
 rw [e];exact h2 hw
def rA (n d:Nat):z0n->Nat
 | none=>d
 | some v=>if v < 0 then (v+(n:Int)).toNat else min v.toNat n
def qm (n d k:Nat):rA n d (some (k:Int))=min k n:=by
 show (if (k:Int) < 0 then ((k:Int)+(n:Int)).toNat else min (k:Int).toNat n)=min k n;rw [ar ∅,eQ]
end
end HT
namespace L2
open PySem PySem.Spec PyProof.Rows
abbrev TO:=St->Hp->(z0n->143)->Prop
def PO (X:Cx)(e:Option Expr)(t:TO):Prop :=
 ∀(ah:z0e)(s:Shared)(σ:St)(H:Hp)(Q:z0n->143),141->t σ H Q ->
  wpAny 154 X.A (evalPart e X.env) (λu s'=>∃o H',Inv X ah σ H' s'/\IsPart u o/\Q o H') X.xe s
def JB:TO:=λ_ H Q=>Q none H
def Qm (t:TE):TO:=λσ H Q=>t σ H λx H1=>Ze x λi=>Q (some i) H1
def intsAre_of {ns:z0t}:∀{us:z0m},bh (ns.map V.int) us->IntsAre us ns:=by
 induction ns with
 | nil=>intro us r;rw [jj] at r;cases r;exact .nil
 | cons n ns ih =>
  intro us r;rw [bY] at r;cases r with
  | cons r1 r2 =>
   obtain⟨t,e⟩:=r1;subst e;exact .cons n t (ih r2)
section
variable {X:Cx}{e:Expr}{te:TE}{lo hi:Option Expr}{tl th:TO}{pos p2:Pos}
def k_:PO X none JB:=by
 intro ah s σ H Q I h;rw [evalPart_none];exact ax ⟨none,H,I,.none,h⟩
def iC (h:PE X e te):PO X (some e) (Qm te):=by
 intro ah s σ H Q I hw;rw [evalPart_some];refine cM (h ah s σ H _ I hw) λu s1 aW=>?_;obtain⟨x,H1,I1,r1,q1⟩:=aW;obtain⟨i,rfl,q⟩:=q1;obtain⟨t,rfl⟩:=r1;exact⟨some i,H1,I1,.int i t,q⟩
def SlR (X:Cx)(r:V->z0n->z0n->Hp->VK->Prop):Prop :=
 ∀(ah:z0e)(s:Shared)(σ:St)(H:Hp)(x:V)(v vl vu:Value)(lo hi:z0n)(sl:Addr)(Q:VK),141->RelV x v->s.heap.IsSliceOf sl vl vu .none->IsPart vl lo->IsPart vu hi->r x lo hi H Q ->
  ∃T id,typeLookup (.type T) "__getitem__"=pure (some (.builtin id))/\s.TypeIs v T/\wpAny 154 X.A (getItem v (.ref sl)) (EP X ah σ Q) X.xe s
def tSl (r:V->z0n->z0n->Hp->VK->Prop)(te:TE)(tl th:TO):TE:=λσ H Q=>te σ H λx H1=>tl σ H1 λl H2=>th σ H2 λu H3=>r x l u H3 Q
def ik {r:V->z0n->z0n->Hp->VK->Prop}(hr:SlR X r)(he:PE X e te)(hl:PO X lo tl)(hu:PO X hi th):PE X (.Subscript e (.Slice lo hi none p2) pos) (tSl r te tl th):=by
 intro ah s σ H Q I h;refine Subscript_ (cM (he ah s σ H _ I h) λv s1 aW=>?_);obtain⟨x,H1,I1,r1,q1⟩:=aW;refine wpAny_Slice (cM (hl ah s1 σ H1 _ I1 q1) λvl s2 aW=>?_);obtain⟨l,H2,I2,pl,q2⟩:=aW;refine cM (hu ah s2 σ H2 _ I2 q2) λvu s3 aW=>?_;obtain⟨u,H3,I3,pu,q3⟩:=aW;rw [evalPart_none];refine ax ?_;have I4:Inv X ah σ H3 { s3 with heap:=s3.heap.push { cls:=.type "slice",data:=.fields #[vl,vu,.none] } }:=I3.kept (t':=s3.toks) λb ob q=>a0 _ q;obtain⟨T,id,hT,ht,hg⟩:=hr ah { s3 with heap:=s3.heap.push { cls:=.type "slice",data:=.fields #[vl,vu,.none] } } σ H3 x v vl vu l u s3.heap.objs.size Q I4 r1 (Heap.IsSliceOf.new ..) pl pu q3;show wpAny 154 X.A (subscriptTail e (.Slice lo hi none p2) v (.ref s3.heap.objs.size)) (EP X ah σ Q) X.xe { s3 with heap:=s3.heap.push { cls:=.type "slice",data:=.fields #[vl,vu,.none] } };exact tail_any (ops:=[.ref s3.heap.objs.size,v]) ht hT hg (by with_unfolding_all rfl)
def lG (xs:List V)(lo hi:z0n):List V:=(xs.drop (HT.rA xs.length 0 lo)).take (HT.rA xs.length xs.length hi - HT.rA xs.length 0 lo)
def zq (xs:List V)(lo hi:z0n):(lG xs lo hi).length<=xs.length:=by
 unfold lG;rw [dB,qN];omega
def QU (K:aU):R2:=λx y H Q=>∃a b xs ys,x=.ref a/\y=.ref b/\aQ K H a xs/\aQ K H b ys/\xs≠[]/\xs.length+ys.length<=sizeLine /\
 (ys=[]->Q (.ref a) H)/\(ys≠[]->∀p,H p=none->Q (.ref p) (upd H p (.tup (xs++ys))))
def bh.qt {xs:List V}(r:bh xs us):us=[]↔xs=[]:=by
 cases r with
 | nil=>simp
 | cons _ _=>simp
def J_:oj X (binaryOp .Add) (QU X.K):=by
 intro ah s σ H x y v u Q I rx ry h;obtain⟨a,b,xs,ys,rfl,rfl,ha,hb,hx,hz,q1,q2⟩:=h;cases rx;cases ry;obtain⟨aK,r1,p1,_⟩:=I.tuple ha;obtain⟨cX,r2,p2,_⟩:=I.tuple hb;refine HT.K7 p1 p2 (λz=>hx (r1.qt.mp z)) (λz=>⟨.ref a,H,I,rfl,q1 (r2.qt.mp z)⟩) (λz=>?_) (by rw [<-r1.length,<-r2.length];exact hz);refine⟨186,_,I.laid (t':=s.toks) (o:=.tup (xs++ys)) (λb ob q=>a0 _ q) (aH _) ?_,rfl,q2 (λw=>z (r2.qt.mpr w)) _ (I.bI.fresh (aH _))⟩;exact⟨by rw [bH];exact hz,_,r1.append r2,IsTup.new _ _⟩
end
def NO (n:Nat) (i:Int):z0o:=if 0<=i then (if i < n then some i.toNat else none) else if -(n:Int)<=i then some (i+n).toNat else none
def tq {α:Type}(xs:List α) (i:Int):Option α:=(NO xs.length i).bind λj=>xs[j]?
def Ky {i:Int}(h:NO n i=some j):seqIndex? i n=some j/\j < n/\-(n:Int)<=i/\i < n:=by
 unfold NO at h;by_cases h0:0<=i
 .rw [au h0] at h;by_cases h1:i < n
  .rw [au h1] at h;have e:i.toNat=j:=jE h;exact⟨by rw [seqIndex_of h0 h1,e],∅,∅,h1⟩
  rw [ar h1] at h;cases h
 rw [ar h0] at h;by_cases h1:-(n:Int)<=i
 .rw [au h1] at h;have e:(i+n).toNat=j:=jE h;exact⟨by rw [seqIndex_neg ∅ h1,e],∅,h1,∅⟩
 rw [ar h1] at h;cases h
def Dw {α:Type}{xs:List α}{i:Int}{v:α}(h:tq xs i=some v):∃j,seqIndex? i xs.length=some j/\xs[j]?=some v/\j < xs.length/\-(xs.length:Int)<=i/\i < xs.length:=by
 unfold tq at h;cases e:NO xs.length i with
 | none=>rw [e] at h;cases h
 | some j =>
  rw [e] at h;obtain⟨h1,h2,h3,h4⟩:=Ky e;exact⟨j,h1,h,h2,h3,h4⟩
def aZ {α:Type}{xs:List α}{j:Nat}{v:α}(h:xs[j]?=some v):tq xs (j:Int)=some v:=by
 have hj:j < xs.length:=(bw.mp h).1;have e:NO xs.length (j:Int)=some j:=by
  unfold NO;rw [au ∅,au ∅];simp
 unfold tq;rw [e];exact h
def Lh (b:Expr):Prop:=∀o i,subscripted b false o i=operate [o,i] (getItem o i)
def TF (X:Cx)(r:R2):Prop :=
 ∀(value slice:Expr)(ah:z0e)(s:Shared)(σ:St)(H:Hp)(x y:V)(v u:Value)(Q:VK),141->RelV x v->RelV y u->r x y H Q ->
  subscripted slice false v u=operate [v,u] (getItem v u)->wpAny 154 X.A (subscriptTail value slice v u) (EP X ah σ Q) X.xe s
def MtR (X:Cx)(id:String)(r:V->List V->Hp->VK->Prop):Prop :=
 ∀(ah:z0e)(s:Shared)(σ:St)(H:Hp)(x:V)(xs:List V)(v:Value)(us:z0m)(Q:VK),141->RelV x v->bh xs us->r x xs H Q ->
  wpAny 154 X.A (call (.builtin id) (v::us)) (EP X ah σ Q) X.xe s
section
variable {X:Cx}{a b:Expr}{ta tb:TE}{pos:Pos}
def aY {r:R2}(hr:TF X r)(ha:PE X a ta)(hb:PE X b tb)(hs:Lh b):PE X (.Subscript a b pos) (TZ r ta tb):=by
 intro ah s σ H Q I h;exact Subscript_ (OS ha hb I h λv u s2 x y H2 I2 rx ry q=>hr a b ah s2 σ H2 x y v u Q I2 rx ry q (hs _ _))
inductive Zd (S:Addr->List V->Prop)(x y:V)(R:V->Prop):Prop
|mk(p:Addr)(xs:List V) (i:Int)(v:V)(e:x=.ref p)(e2:y=.int i)(s:S p xs)(a:tq xs i=some v)(q:R v)
def QS (K:aU):R2:=λx y H Q=>Zd (aJ K H) x y λv=>Q v H
def QR (K:aU):R2:=λx y H Q=>Zd (aQ K H) x y λv=>Q v H
def bW:TF X (QS X.K):=by
 intro value slice ah s σ H x y v u Q I rx ry h hs;obtain⟨p,xs,i,z,rfl,rfl,hq,he,q⟩:=h;cases rx;obtain⟨t,rfl⟩:=ry;obtain⟨aK,r,pl,hz⟩:=I.list hq;obtain⟨j,h1,h2,h3,h4,h5⟩:=Dw he;obtain⟨w,ew,wM⟩:=r.get h2;have hl:=r.length;have hn:=xj;have fin:EP X ah σ Q w s:=⟨z,H,I,wM,q⟩;by_cases h0:0<=i
 .have hj:i.toNat=j:=by
   rw [seqIndex_of h0 h5] at h1;exact jE h1
  exact item_listR pl.isList h0 ∅ (by rw [hj];simpa using ew) fin hs
 have hj:(i+(aK.toArray.size:Int)).toNat=j:=by
  rw [seqIndex_neg ∅ h4] at h1;rw [cu,<-hl];exact jE h1
 exact subscriptTail_builtinR (x:=w) pl.isList.typeIs slot_list_getitem.lookup
  (wpAny_getItem_list_neg (Q:=λr s'=>r=w/\EP X ah σ Q r s') pl.isList ∅ (by rw [cu] <;> omega) ∅ (by rw [hj];simpa using ew) ⟨rfl,fin⟩) hs
def bR:TF X (QR X.K):=by
 intro value slice ah s σ H x y v u Q I rx ry h hs;obtain⟨p,xs,i,z,rfl,rfl,hq,he,q⟩:=h;cases rx;obtain⟨t,rfl⟩:=ry;obtain⟨aK,r,pl,hz⟩:=I.tuple hq;obtain⟨j,h1,h2,h3,h4,h5⟩:=Dw he;obtain⟨w,ew,wM⟩:=r.get h2;have hl:=r.length;have hn:=xj;have fin:EP X ah σ Q w s:=⟨z,H,I,wM,q⟩;exact subscriptTail_builtinR (x:=w) pl.typeIs slot_tuple_getitem.lookup
  (getItem_tuple (j:=j) (Q:=λr s'=>r=w/\EP X ah σ Q r s') pl ∅ ∅ (by rw [cu,<-hl];exact h1) (by simpa using ew) ⟨rfl,fin⟩) hs
def wx (lo hi:z0n) (n:Nat):(sliceBounds lo hi none n).1=((HT.rA n 0 lo:Nat):Int)/\(sliceBounds lo hi none n).2.1=((HT.rA n n hi:Nat):Int)/\(sliceBounds lo hi none n).2.2=1:=by
 refine⟨?_,?_,rfl⟩
 .cases lo with
  | none=>simp [sliceBounds,HT.rA]
  | some i =>
   simp only [sliceBounds,HT.rA,Option.getD_none,show (1:Int) > 0 by decide,if_true];by_cases h:i < 0
   .simp only [h,if_true] <;> omega
   simp only [h,if_false] <;> omega
 cases hi with
 | none=>simp [sliceBounds,HT.rA]
 | some i =>
  simp only [sliceBounds,HT.rA,Option.getD_none,show (1:Int) > 0 by decide,if_true];by_cases h:i < 0
  .simp only [h,if_true] <;> omega
  simp only [h,if_false] <;> omega
def tV (aK:z0m)(lo hi:z0n):slicePick aK.toArray lo hi none=((aK.drop (HT.rA aK.length 0 lo)).take (HT.rA aK.length aK.length hi - HT.rA aK.length 0 lo)).toArray:=by
 obtain⟨h1,h2,h3⟩:=wx lo hi aK.toArray.size;unfold slicePick;rw [h1,h2,h3];simp only [sliceRange_one,pick_run,cu] <;> rfl
def V0 (K:aU):V->z0n->z0n->Hp->VK->Prop:=λx lo hi H Q=>XSq x (aJ K H) λxs=>∀p,H p=none->Q (.ref p) (upd H p (.lst (lG xs lo hi)))
def jv:SlR X (V0 X.K):=by
 intro ah s σ H x v vl vu lo hi sl Q I rx hs pl pu h;obtain⟨a,xs,rfl,hx,q⟩:=h;cases rx;obtain⟨aK,r,ht,hz⟩:=I.list hx;have bM:=r.length;refine⟨"list",_,slot_list_getitem.lookup,ht.isList.typeIs,?_⟩;refine wpAny_getItem_list_slice ht.isList hs pl pu .none 88 ?_ (by rw [cu] <;> omega)
 rw [tV,<-bM];refine⟨186,_,I.laid (t':=s.toks) (o:=.lst (lG xs lo hi)) (λb ob q=>a0 _ q) (aH _) ?_,rfl,q _ (I.bI.fresh (aH _))⟩;exact⟨dU (zq xs lo hi) hz,_,0,(r.drop (HT.rA xs.length 0 lo)).take (HT.rA xs.length xs.length hi - HT.rA xs.length 0 lo),bB _ rfl⟩
def gT:V->Bool
 | .dY=>true
 | .bl _=>true
 | .int _=>true
 | .str _=>true
 | _=>false
def uY:V->V->Bool
 | .dY,.dY=>true
 | .bl a,.bl b=>a == b
 | .bl a,.int b=>(if a then 1 else 0) == b
 | .int a,.bl b=>a == (if b then 1 else 0)
 | .int a,.int b=>a == b
 | .str a,.str b=>a == b
 | _,_=>false
def BN {y x:V}{u v:Value}(ry:RelV y u)(rx:RelV x v)(fy:gT y=true)(fx:gT x=true):SeqAt.EqAt A s u v (uY y x):=by
 cases y with
 | dY =>
  cases ry;cases x with
  | dY=>cases rx;exact SeqAt.EqAt.same _
  | bl b=>cases rx;exact SeqAt.EqAt.none_bool b
  | int b=>obtain⟨t,rfl⟩:=rx;exact SeqAt.EqAt.none_int b t
  | str b=>obtain⟨t,rfl⟩:=rx;exact SeqAt.EqAt.none_str b t
  | _=>exact absurd (show false=true from fx) bG
 | bl a =>
  cases ry;cases x with
  | dY=>cases rx;exact SeqAt.EqAt.bool_none a
  | bl b=>cases rx;exact SeqAt.EqAt.bool_bool a b
  | int b=>obtain⟨t,rfl⟩:=rx;exact SeqAt.EqAt.bool_int a b t
  | str b=>obtain⟨t,rfl⟩:=rx;exact SeqAt.EqAt.bool_str a b t
  | _=>exact absurd (show false=true from fx) bG
 | int a =>
  obtain⟨t',rfl⟩:=ry;cases x with
  | dY=>cases rx;exact SeqAt.EqAt.int_none a t'
  | bl b=>cases rx;exact SeqAt.EqAt.int_bool a t' b
  | int b=>obtain⟨t,rfl⟩:=rx;exact qO a t' b t
  | str b=>obtain⟨t,rfl⟩:=rx;exact SeqAt.EqAt.int_str a t' b t
  | _=>exact absurd (show false=true from fx) bG
 | str a =>
  obtain⟨t',rfl⟩:=ry;cases x with
  | dY=>cases rx;exact SeqAt.EqAt.str_none a t'
  | bl b=>cases rx;exact SeqAt.EqAt.str_bool a t' b
  | int b=>obtain⟨t,rfl⟩:=rx;exact SeqAt.EqAt.str_int a t' b t
  | str b=>obtain⟨t,rfl⟩:=rx;exact vq a t' b t
  | _=>exact absurd (show false=true from fx) bG
 | _=>exact absurd (show false=true from fy) bG
def ze (x:V)(u:Value):Bool:=match u with
 | .none=>uY .dY x
 | .bool b=>uY (.bl b) x
 | .int i _=>uY (.int i) x
 | .str z _=>uY (.str z) x
 | _=>false
def BM {x y:V}{u:Value}(r:RelV y u)(f:gT y=true):ze x u=uY y x:=by
 cases y with
 | dY=>cases r;rfl
 | bl b=>cases r;rfl
 | int i=>obtain⟨t,rfl⟩:=r;rfl
 | str z=>obtain⟨t,rfl⟩:=r;rfl
 | _=>exact absurd (show false=true from f) bG
theorem oh {x:V}:∀{xs:List V}{us:z0m},bh xs us->xs.all gT=true->us.any (ze x)=xs.any λy=>uY y x
 | _,_,.nil,_=>rfl
 | y::xs,u::us,.cons r t,f=>by
  rw [List.all_cons,oF] at f;rw [mi,mi,BM r f.1,oh t f.2]
theorem i7 {x:V}{v:Value}(rx:RelV x v)(fx:gT x=true):∀{xs:List V}{us:z0m},bh xs us->xs.all gT=true->∀u∈us,SeqAt.EqAt A s u v (ze x u)
 | _,_,.nil,_=>λu hu=>by cases hu
 | y::xs,u::us,.cons r t,f=>λu' hu=>by
  rw [List.all_cons,oF] at f;rcases aX.mp hu with rfl | hu
  .rw [BM r f.1];exact BN r rx f.1 fx
  exact i7 rx fx t f.2 u' hu
def RA (x:V)(xs:List V):Bool:=xs.any λy=>uY y x
inductive XIn (S:Addr->List V->Prop)(x y:V)(R:List V->Prop):Prop
|mk(p:Addr)(xs:List V)(e:y=.ref p)(s:S p xs)(f:gT x=true)(g:xs.all gT=true)(q:R xs)
def Ud (K:aU)(neg:Bool):R2:=λx y H Q=>XIn (λp xs=>aJ K H p xs\/aQ K H p xs) x y λxs=>Q (.bl (if neg then !RA x xs else RA x xs)) H
def oZ:oj X (compareOp .In) (Ud X.K false):=by
 intro ah s σ H x y v u Q I rx ry h;obtain⟨p,xs,rfl,hq,fx,fs,q⟩:=h;cases ry;rcases hq with hq | hq
 .obtain⟨aK,r,pl,hz⟩:=I.list hq;refine SeqAt.in_listAt (ze x) pl.isList (λw hw=>i7 rx fx r fs w (by simpa using hw)) ⟨.bl _,H,I,rfl,?_⟩;rw [show aK.toArray.any (ze x)=aK.any (ze x) by simp,oh r fs];exact q
 obtain⟨aK,r,pl,hz⟩:=I.tuple hq;refine SeqAt.in_tupleAt (ze x) pl (λw hw=>i7 rx fx r fs w (by simpa using hw)) ⟨.bl _,H,I,rfl,?_⟩;rw [show aK.toArray.any (ze x)=aK.any (ze x) by simp,oh r fs];exact q
def wX:oj X (compareOp .NotIn) (Ud X.K true):=by
 intro ah s σ H x y v u Q I rx ry h;obtain⟨p,xs,rfl,hq,fx,fs,q⟩:=h;cases ry;rcases hq with hq | hq
 .obtain⟨aK,r,pl,hz⟩:=I.list hq;refine SeqAt.notIn_listAt (ze x) pl.isList (λw hw=>i7 rx fx r fs w (by simpa using hw)) ⟨.bl _,H,I,rfl,?_⟩;rw [show aK.toArray.any (ze x)=aK.any (ze x) by simp,oh r fs];exact q
 obtain⟨aK,r,pl,hz⟩:=I.tuple hq;refine SeqAt.notIn_tupleAt (ze x) pl (λw hw=>i7 rx fx r fs w (by simpa using hw)) ⟨.bl _,H,I,rfl,?_⟩;rw [show aK.toArray.any (ze x)=aK.any (ze x) by simp,oh r fs];exact q
def bX:gk X (.builtin "len") (λxs H Q=>Lf xs (λp ys=>aJ X.K H p ys\/aQ X.K H p ys) λys=>Q (.int ys.length) H):=by
 intro ah s σ H xs us Q I r h;obtain⟨p,ys,rfl,hq,q⟩:=h;obtain⟨u,rfl,rx⟩:=vals1 r;cases rx;have hn:=xj;rcases hq with hq | hq
 .obtain⟨aK,r',pl,hz⟩:=I.list hq;have bM:=r'.length;exact Calls.call_len_list pl.isList (by simp only [cu] <;> omega) ⟨.int ys.length,H,I.tok _,⟨s.toks+1,by rw [cu,bM]⟩,q⟩
 obtain⟨aK,r',pl,hz⟩:=I.tuple hq;have bM:=r'.length;exact len_tuple pl (by simp only [cu] <;> omega) ⟨.int ys.length,H,I.tok _,⟨s.toks+1,by rw [cu,bM]⟩,q⟩
def dQ:gk X (.type "list") (λxs H Q=>Lf xs (λp ys=>aJ X.K H p ys\/aQ X.K H p ys) λys=>∀l,H l=none->Q (.ref l) (upd H l (.lst ys))):=by
 intro ah s σ H xs us Q I r h;obtain⟨p,ys,rfl,hq,q⟩:=h;obtain⟨u,rfl,rx⟩:=vals1 r;cases rx;have fin:∀(aK:z0m),bh ys aK->ys.length<=sizeLine->∀(h':Heap) (c':Nat),(∀b o',s.heap.get? b=some o'->h'.get? b=some o') ->
   h'.get? s.heap.objs.size=some { cls:=.type "list",dict:=none,data:=.seq aK.toArray c',slots:=#[] }->EP X ah σ Q 398 221:=λaK r' hz h' c' kp e =>
  ⟨186,_,I.laid (t':=s.toks) kp (aH _) (show bO X.prog X.w _ h' _ (.lst ys) from ⟨hz,aK,c',r',e⟩),rfl,q _ (I.bI.fresh (aH _))⟩
 rcases hq with hq | hq
 .obtain⟨aK,r',pl,hz⟩:=I.list hq;have bM:=r'.length;obtain⟨o,ho,hc,n,hd⟩:=pl.isList;exact call_list_seq p (.inl rfl) ho hc hd (λh' c' kp e=>fin aK r' hz h' c' kp e) (by simp only [cu] <;> omega)
 obtain⟨aK,r',pl,hz⟩:=I.tuple hq;have bM:=r'.length;obtain⟨o,ho,hc,n,hd⟩:=pl;exact call_list_seq p (.inr rfl) ho hc hd (λh' c' kp e=>fin aK r' hz h' c' kp e) (by simp only [cu] <;> omega)
def iT:gk X (183) (λxs H Q=>∃p ys,xs=[.ref p]/\((aJ X.K H p ys/\∀l,H l=none->Q (.ref l) (upd H l (.tup ys)))\/(aQ X.K H p ys/\Q (.ref p) H))):=by
 intro ah s σ H xs us Q I r h;obtain⟨p,ys,rfl,h⟩:=h;obtain⟨u,rfl,rx⟩:=vals1 r;cases rx;rcases h with ⟨hq,q⟩ | ⟨hq,q⟩
 .obtain⟨aK,r',pl,hz⟩:=I.list hq;have bM:=r'.length;refine call_tuple_list pl.isList (λh' kp=>?_) (by simp only [cu] <;> omega)
  have I1:Inv X ah σ H 221:=I.kept (t':=s.toks) kp;have I2:Inv X ah σ (upd H h'.objs.size (.tup ys)) { s with heap:=h'.push { cls:=183,data:=.seq aK.toArray } } :=
   I1.laid (t':=s.toks) (λb o e=>a0 _ e) (aH _) (show bO X.prog X.w _ _ _ (.tup ys) from ⟨hz,aK,r',IsTup.new _ _⟩)
  exact⟨.ref h'.objs.size,_,I2,rfl,q _ (I1.bI.fresh (aH _))⟩
 obtain⟨aK,r',pl,hz⟩:=I.tuple hq;exact call_tuple_same pl ⟨.ref p,H,I,rfl,q⟩
def ZJ (K:aU)(T:String)(x:V)(H:Hp):Prop:=match x with
 | .str _=>T = "str"
 | .int _=>T = "int"
 | .ref p=>(T = "list" /\ ∃xs,aJ K H p xs)\/(T = "tuple" /\ ∃o,K.lookup p=85/\o.cls=183 /\ o.dict=none) \/
   (T = "dict" /\ ((∃kvs,H p=184)\/∃kvs,H p=some (.dT kvs)))\/(T = "set" /\ ∃S n,H p=some (.set S n))
 | _=>False
def MI {σ:St}{s:Shared}{T:String}{x:V}{v:Value}(I:141)(r:RelV x v)(ty:ZJ X.K T x H) :
  s.TypeIs v T/\∀a,v=.ref a->∃ob,s.heap.get? a=some ob/\ob.dict=none:=by
 cases x with
 | str z =>
  obtain⟨t,rfl⟩:=r;cases (show T = "str" from ty);exact⟨typeIs_str s z t,λ_ e=>nomatch e⟩
 | int i =>
  obtain⟨t,rfl⟩:=r;cases (show T = "int" from ty);exact⟨typeIs_int s i t,λ_ e=>nomatch e⟩
 | ref p =>
  cases r;rcases ty with ⟨rfl,xs,hq⟩ | ⟨rfl,o,hk,hc,hd⟩ | ⟨rfl,hk⟩ | ⟨rfl,S,n,hk⟩
  .obtain⟨aK,_,pl,_⟩:=I.list hq;refine⟨pl.isList.typeIs,λa e=>?_⟩;cases e;obtain⟨o,n,e,c,hd,_⟩:=pl;exact⟨o,e,hd⟩
  .refine⟨⟨o,I.xp p o hk,hc⟩,λa e=>?_⟩;cases e;exact⟨o,I.xp _ o hk,hd⟩
  .have z:∃o,s.heap.get? p=85/\o.ExactDict:=by
    rcases hk with ⟨kvs,hk⟩ | ⟨kvs,hk⟩
    .obtain⟨_,_,_,_,o,_,_,e,ex,_⟩:=I.bI p _ hk;exact⟨o,e,ex⟩
    obtain⟨_,_,_,_,o,_,_,e,ex,_⟩:=I.bI p _ hk;exact⟨o,e,ex⟩
   obtain⟨o,e,ex⟩:=z;refine⟨⟨o,e,ex.1⟩,λa e2=>?_⟩;cases e2;exact⟨o,e,ex.2.1⟩
  obtain⟨o,_,_,_,e,ex,_⟩:=I.bI p _ hk;refine⟨⟨o,e,ex.1⟩,λa e2=>?_⟩;cases e2;exact⟨o,e,ex.2.1⟩
 | _=>exact False.elim ty
def tBM (K:aU)(T:String)(r:V->List V->Hp->VK->Prop)(to:TE)(t:TA):TE:=λσ H Q=>to σ H λx H1=>ZJ K T x H1/\t σ H1 λxs H2=>r x xs H2 Q
variable {o e:Expr}{es:z0q}{to:TE}{t:TA}{name:Str}{apos eD:Pos}{T id:String}{r:V->List V->Hp->VK->Prop}
def il (pa:PlainAttrs T)(slot:Slot T name id)(hty:typeOf (.builtin id)=pure (.type "method_descriptor"))(hm:MtR X id r)(ho:PE X o to)(ha:PA X (e::es) t)
  (Sn:attributeBase o name X.env (eval o X.env)=eval o X.env:=by rfl)
  (XJ:((backTo eD (starEach (e::es) X.env)).all (λx=>!x.1) && (backToKw eD (keywordEach [] X.env)).all (λx=>x.1.isSome)
   && decide ((e::es).length+([]:List Keyword).length+(if ([]:List Keyword).isEmpty then 0 else 1) < 30))=true:=by rfl)
  (R4:(apos.endLine == eD.line)=true:=by rfl)(hs:461:=by rfl)(NZ:(backTo eD (starEach es X.env)).any 84=false:=by rfl) :
  PE X (.Call (.Attribute o name apos) (e::es) [] eD) (tBM X.K T r to t):=by
 intro ah s σ H Q I h;refine wpAny_Call_method_late Sn XJ R4 rfl (cM (ho ah s σ H _ I h) λv s1 aW=>?_);obtain⟨x,H1,I1,r1,ty,q1⟩:=aW;obtain⟨h1,h2⟩:=MI I1 r1 ty;refine⟨T,id,pa,slot,hty,h1,h2,?_⟩;have hA:=ha eD ah s1 σ H1 _ I1 q1;rw [hs] at hA ⊢;refine qE (by show (false || (backTo eD (starEach es X.env)).any 84)=false;rw [NZ] <;> rfl) (oK ?_)
 refine cM hA λus s2 aW=>?_;obtain⟨vs,H2,I2,r2,q2⟩:=aW;exact hm ah s2 σ H2 x vs v us Q I2 r1 r2 q2
end
def Zn (X:Cx)(id:String)(r:V->List V->Hp->VK->Prop):Prop :=
 ∀(ah:z0e)(s:Shared)(σ:St)(H:Hp)(x:V)(xs:List V)(v:Value)(us:z0m)(Q:VK),141->RelV x v->bh xs us->r x xs H Q ->
  wpAny 154 X.A (call (.builtin id) (v::us)) (EP X ah σ Q) X.xe s
def bh.one:∀{x:V}{us:z0m},bh [x] us->∃u,us=[u]/\RelV x u
 | _,_,.cons r .nil=>⟨_,rfl,r⟩
def bh.zero:∀{us:z0m},bh [] us->us=[]
 | _,.nil=>rfl
section
variable {X:Cx}{ah:z0e}{σ:St}{H:Hp}{s:Shared}{l b:Addr}{xs ys zs:List V}
def Inv.Rj {aK tY:z0m}{f:z0k->z0k}(I:141)(hH:H l=some (.lst xs))
  (e:s.heap.get? l=some { cls:=.type "list",data:=.seq aK.toArray n })(hf:f aK.toArray=tY.toArray)(hv:bh ys tY)(hz:ys.length<=sizeLine) :
  Inv X ah σ (upd H l (.lst ys)) { s with heap:=s.heap.update l (Obj.mapSeq f),toks:=t' }:=by
 have q:=PySem.IsL.update e f;rw [hf] at q;refine I.write (x:=l) (e:=l) (by rw [hH];exact trivial) (.inl rfl) (λb' u hb hu=>(vL s.heap (Obj.mapSeq f) (cV hb)).trans hu) ⟨_,q⟩ ?_;exact⟨hz,tY,_,hv,q⟩
def Inv.WD (I:141)(hv:bh ys aK)(hz:ys.length<=sizeLine) :
  Inv X ah σ (upd H s.heap.objs.size (.lst ys)) { s with heap:=s.heap.push { cls:=.type "list",data:=.seq aK.toArray },toks:=t' } :=
 I.laid (λ_ _ q=>a0 _ q) (aH _) ⟨hz,aK,0,hv,bB _ rfl⟩
theorem Inv.fresh (I:141):H s.heap.objs.size=none:=I.bI.fresh (aH _)
def Inv.Hu (I:141)(hH:H l=some (.lst xs)):xs.length<=sizeLine/\∃(aK:z0m) (n:Nat),bh xs aK/\xs.length=aK.length/\s.heap.get? l=some { cls:=.type "list",data:=.seq aK.toArray n }:=by
 obtain⟨z,aK,n,r,e⟩:=I.bI l _ hH;exact⟨z,aK,n,r,r.length,e⟩
def Hk (h:n<=sizeLine):Builtin.List.listTooLong n=false:=by
 unfold Builtin.List.listTooLong;exact fK ∅
end
section
variable {X:Cx}
inductive Tu (H:Hp)(x:V)(vs:List V)(R:Addr->List V->V->Prop):Prop
|mk(l:Addr)(xs:List V)(y:V)(e:x=.ref l)(e2:vs=[y])(h:H l=some (.lst xs))(z:xs.length < sizeLine)(q:R l xs y)
def JT:V->List V->Hp->VK->Prop:=λx vs H Q=>Tu H x vs λl xs y=>Q .dY (upd H l (.lst (xs++[y])))
def cN:Zn X "list.append" JT:=by
 intro ah s σ H x vs v us Q I rx rv h;obtain⟨l,xs,y,rfl,rfl,hH,hz,q⟩:=h;cases rx;obtain⟨u,rfl,ru⟩:=rv.one;obtain⟨z,aK,n,r,hl,e⟩:=I.Hu hH;refine call_meets F.slot_list_append ⟨_,e,rfl⟩ F.entry_list_append (F.args_list_append_2 _ _) (PySem.list_append l aK.toArray n u (by rw [cu];omega)) ⟨e,?_⟩;refine⟨.dY,_,I.Rj (tY:=aK++[u]) hH e 88 (r.append (.cons ru .nil)) ?_,rfl,q⟩;rw [bH,lO];omega
def JS:V->List V->Hp->VK->Prop:=λx vs H Q=>∃l b xs zs,x=.ref l/\vs=[.ref b]/\H l=some (.lst xs)/\H b=some (.lst zs)/\xs.length+zs.length<=sizeLine/\Q .dY (upd H l (.lst (xs++zs)))
def En:Zn X "list.extend" JS:=by
 intro ah s σ H x vs v us Q I rx rv h;obtain⟨l,b,xs,zs,rfl,rfl,hH,hB,hz,q⟩:=h;cases rx;obtain⟨u,rfl,ru⟩:=rv.one;cases ru;obtain⟨z,aK,n,r,hl,e⟩:=I.Hu hH;obtain⟨z2,cX,n2,r2,rY,e2⟩:=I.Hu hB;have hsz:aK.toArray.size+cX.toArray.size<=sizeLine:=by rw [cu,cu];omega
 have R3:¬(!aK.toArray.isEmpty && Builtin.List.listTooLong (aK.toArray.size+cX.toArray.size))=true:=by
  rw [Hk hsz,Bool.and_false];exact bG
 refine call_meets F.slot_list_extend ⟨_,e,rfl⟩ F.entry_list_extend (F.args_list_extend_2 _ _)
  (AutoSeq1.list_extend_list_list_0 l aK.toArray n b cX.toArray n2 R3 (by rw [cu];omega) ∅) ⟨e,e2,?_⟩
 refine⟨.dY,_,I.Rj (tY:=aK++cX) hH e 88 (r.append r2) ?_,rfl,q⟩;rw [bH];omega
def V1:R2:=λx y H Q=>Zi (λl xs=>H l=some (.lst xs)) x y λxs zs=>∀p,H p=none->Q (.ref p) (upd H p (.lst (xs++zs)))
def A5:oj X (binaryOp .Add) V1:=by
 intro ah s σ H x y v u Q I rx ry h;obtain⟨l,b,xs,zs,rfl,rfl,hH,hB,hz,q⟩:=h;cases rx;cases ry;obtain⟨z,aK,n,r,hl,e⟩:=I.Hu hH;obtain⟨z2,cX,n2,r2,rY,e2⟩:=I.Hu hB;refine PySem.P.add_list e e2 ?_ (by rw [cu,cu];omega);have ea:aK.toArray++cX.toArray=(aK++cX).toArray:=by simp
 rw [ea];exact⟨.ref _,_,I.WD (t':=s.toks) (r.append r2) (by rw [bH];omega),rfl,q _ I.fresh⟩
end
section
variable {prog:Program}{w:World}{A:Around}{E:z0b}{s:Shared}
end
section
variable {X:Cx}
end
end L2
namespace vm
open PySem PySem.W PySem.Calls PyProof.Rows
def qa {P:Params}{h:Heap}:∀(ns:z0t)(vs:z0m),WellAll P h vs (ns.map WData.int)->IntsAre vs ns:=by
 intro ns
 induction ns with
 | nil =>
  intro vs w;rw [jj] at w;cases w;exact .nil
 | cons n ns ih =>
  intro vs w;rw [bY] at w;cases w with
  | cons a b =>
   cases a;exact .cons _ _ (ih _ b)
def DR {l:OpenLaw}(hn:l.most=some n){P:Params}{h:Heap}
  (KD:l.row.toRowW.claim.pre args=true)(W8:WellAll P h vals args) :
  ∃a vs ns,vals=[Value.ref a]/\args=[WData.list (ns.map WData.int)]/\h.get? a=some { cls:=.type "list",data:=.seq vs.toArray }/\IntsAre vs ns/\ns.length<=n:=by
 have hsh:WShape.hasAll [] args [.list .int]=true:=(pre_splitW KD).1;have hc:l.pre.holds [] { args:=args }=true:=(pre_splitW KD).2;obtain⟨d,r,rfl,h1,h2⟩:=hasAllW_cons hsh;obtain rfl:=hasAllW_nil h2;obtain⟨xs,rfl,h3⟩:=hasW_list h1;obtain⟨ns,rfl⟩:=items_int h3;have bM:ns.length<=n:=by
  unfold OpenLaw.pre at hc;have h4:(WTm.not (.lt (.lit (.int (n:Int))) (.len (.arg 0)))).holds [] { args:=[.list (ns.map .int)] }=true:=by
   have h4:=(holds_andW hc).1;rw [hn] at h4;exact h4
  have h5:=condW_of h4 (w_not (w_lt w_lit (w_len_list (w_arg rfl))));rw [aA] at h5;refine Nat.le_of_not_lt λq=>?_;have q':(n:Int) < ((ns.length:Nat):Int):=by omega
  first
   | (rw [cZ q'] at h5;exact absurd h5 nofun)
   | (simp at h5;omega)
 cases W8 with
 | cons w1 w2 =>
  cases w2;cases w1 with
  | list ho iR=>exact⟨_,_,ns,rfl,rfl,ho,qa ns _ iR,bM⟩
def DY (l:OpenLaw)(args:List WData):l.row.toRowW.claim.post args (.bool true) args=true :=
 postW_of (r:=l.row.toRowW) (X:=(true == true))
  (show WShape.has [] (.bool true) .bool=true by first | rfl | decide | simp [WShape.has,WShape.arms,WShape.armsAll])
  (show (WTm.eq .res (.lit (.bool true))).value [] { args:=args,res:=some (.bool true),after:=args }=some (.bool (true == true)) from w_eq_bool (w_res rfl) w_lit) rfl
def zH {l:OpenLaw}{q:Program}{loose:z0s}{d:DefRec}
  (hn:l.most=some n)(Se:d.params.defaults=[])
  (call:∀(w:World)(s₀ s₁:Shared)(mg mb:z0c)(fa:Addr)(o:Obj)(pm cd doc:Value)(a:Addr)(vs:z0m)(ns:z0t),
   Ground q loose [] XP w s₀ mg mb s₁.heap->YP w s₁.heap ->
   s₁.heap.get? fa=85->o.data=.func (docDef d.name d.params d.body d.scope pm cd doc)->s₁.heap.CodeRec cd d.name->mg d.name=some (.ref fa) ->
   s₁.heap.get? a=some { cls:=.type "list",data:=.seq vs.toArray }->IntsAre vs ns->ns.length<=n->s₁.gens=#[] ->
   codeAny (model l.prog w) callerA (.call (.ref fa) ⟨[.ref a],[]⟩) (λr s'=>r=.ok (.ret (.bool true))/\OldK s₁.heap s'.heap/\s'.os=s₁.os/\AllBare s'.gens) s₁) :
  WalkO q loose XP YP l.row.toRowW d [] (λf vs=>PySem.call f vs):=by
 intro w s₀ s₁ mg mb G Y fa o pm cd doc dV kV ho hd xA hD R1 hg args vals as KD aao hrd W8 hlo;obtain rfl:dV=.none:=Dflts.none hD Se;obtain rfl:kV=.none:=Dflts.noKw hD;obtain⟨a,vs,ns,rfl,rfl,N1,hints,bM⟩:=DR hn KD W8;refine enter_call (jU (call w s₀ s₁ mg mb fa o pm cd doc a vs ns G Y ho (fd_plain hd) xA R1 N1 hints bM hg) λr s' hq=>?_);obtain⟨rfl,h2,h3,h4⟩:=hq;exact⟨.inl ⟨.bool true,.bool true,[],rfl,λ_=>rfl,.bool true,DY l _,λ_=>⟨List.Pairwise.nil,λ_ hm=>(nomatch hm)⟩⟩,h2,h3,h4⟩
section
variable {prog:Program}{w:World}{A:Around}{E:z0b}{s:Shared}{K:Frag}
def o6 (h:Heap):Heap:={ h with objs:=#[] }
def jy (h:Heap)(b:Addr):(o6 h).get? b=none:=by
 cases e:(o6 h).get? b with
 | none=>rfl
 | some o=>exact absurd (aP e) (qJ _)
def ledger (h:Heap)(L d:Addr):z0e:=(List.range h.objs.size).filterMap λa=>if a=L\/a=d then none else (h.get? a).map λo=>(a,o)
def eI {h:Heap}{L d a:Addr}{o:Obj}:(a,o)∈ledger h L d↔a≠L/\a≠d/\h.get? a=85:=by
 unfold ledger;rw [vy];constructor
 .rintro⟨b,_,e⟩
  split at e
  .cases e
  rename_i hb
  obtain⟨o',ho,e'⟩:=bQ.mp e;cases e';exact⟨λq=>hb (.inl q),λq=>hb (.inr q),ho⟩
 rintro⟨n1,n2,ho⟩;refine⟨a,gG.mpr (aP ho),?_⟩;rw [ar (show ¬(a=L\/a=d) from λq=>q.elim n1 n2),ho] <;> rfl
def pO {h:Heap}{L d:Addr}(Fu:d≠L)(ho:h.get? d=some od):News (o6 h) L h ([]++(d,od)::ledger h L d):=by
 rintro⟨a,o⟩ hp;rcases aX.mp hp with e | hp
 .cases e;exact⟨ho,Fu,jy _ _⟩
 obtain⟨n1,n2,e⟩:=eI.mp hp;exact⟨e,n1,jy _ _⟩
def Im {h:Heap}{m:z0c}(n:h.Ns L m):Fr (o6 h) L h m :=
 ⟨n,λb o e=>(by rw [jy] at e;cases e),cY _⟩
end
end vm
namespace L2
open PySem PySem.Spec PyProof.Rows
theorem uu:∀{vs:z0m}{ns:z0t},IntsAre vs ns->bh (ns.map V.int) vs
 | _,_,.nil=>.nil
 | _,_,.cons n t h=>.cons ⟨t,rfl⟩ (uu h)
def cW (s:Stmt):Arguments:=match s with
 | .FunctionDef _ a _ _ _ _ _ _ _ _=>a
 | _=>{ posonlyargs:=[],args:=[],vararg:=none,kwonlyargs:=[],kw_defaults:=[],kwarg:=none,defaults:=[] }
def cg (s:Stmt):List Stmt:=match s with
 | .FunctionDef _ _ b _ _ _ _ _ _ _=>b
 | _=>[]
def az (s:Stmt):Scope:=match s with
 | .FunctionDef _ _ _ _ _ _ sc _ _ _=>sc
 | _=>{ kind:=.function,names:=[],isGenerator:=false,isCoroutine:=false }
abbrev fC:MA:=λ_ _ _ _ _ _=>False
abbrev E0:XK:=λ_ _ _=>False
def rH:Passes fC X E0:=λ_ _ _ _ _ _ _ h=>h.elim
structure iU (K:aU)(x qual:Str)(st:Stmt)(f:Addr)(fd:FuncData):Prop where
 ex:∃(oc:Value)(od:z0l)(kV doc pm:Value)(an:z0l)(dP ct:Value)(wW:z0a),
  fd=PySem.W.fnOf x qual (cW st) (cg st) (az st) .none kV doc pm an dP ct/\K.lookup f=some ⟨oc,od,.func fd,wW⟩/\PySem.W.codeIn K dP qual=true
 kp:PySem.W.keepIn K (.ref f)=true
section
variable {P:Program}{w:World}{K:aU}{mg:z0c}{base:Heap}
def iU.ok {x qual:Str}{st:Stmt}{f:Addr}{fd:FuncData}{N ps:z0s}{k:Nat}{sp:Sp}(F:iU K x qual st f fd)(S:aN N ps (az st))(len:∀vs H Q E,sp vs H Q E->vs.length=ps.length)
  (jb:∀(dP:Value)(A:Around)(outer:List Env)(s:Shared)(H:Hp)(vs:List V)(Q:VK)(E:XK),fA k (A.deeper (envOfC qual (az st) s.heap.objs.size f dP))->sp vs H Q E ->
   ∃t,B_ (pD fC P w K mg base N qual (az st) f dP A outer s H E).Ki (cg st) t/\t { nx:=λ_ H'=>Q .dY H',rt:=Q } (start N vs) H):bS P w K mg base fC (k+1) f fd ps sp:=by
 obtain⟨oc,od,kV,doc,pm,an,dP,ct,wW,rfl,lk,xA⟩:=F.ex;refine Iq lk xA S len λA outer s H vs Q E hr Fs=>?_;obtain⟨t,h,q⟩:=jb dP A outer s H vs Q E hr Fs;exact⟨t,h.Ki,q⟩
def iU.binds {x qual:Str}{st:Stmt}{f:Addr}{fd:FuncData}{ps:z0s}(F:iU K x qual st f fd)
  (h:∀(kV doc pm:Value)(an:z0l)(dP ct:Value)(us:z0m),us.length=ps.length->bindArgs (PySem.W.fnOf x qual (cW st) (cg st) (az st) .none kV doc pm an dP ct) ⟨us,[]⟩=pure (ps.zip us)):Binds K fd ps []:=by
 obtain⟨oc,od,kV,doc,pm,an,dP,ct,wW,rfl,lk,xA⟩:=F.ex;exact .all (h kV doc pm an dP ct)
def Ik {x qual:Str}{st:Stmt}{f:Addr}{oc:Value}{od an:z0l}{wW:z0a}{kV doc pm dP ct:Value}(l:K.lookup f=some ⟨oc,od,.func (PySem.W.fnOf x qual (cW st) (cg st) (az st) .none kV doc pm an dP ct),wW⟩)
  (c:PySem.W.codeIn K dP qual=true)(k:PySem.W.keepIn K (.ref f)=true):iU K x qual st f (PySem.W.fnOf x qual (cW st) (cg st) (az st) .none kV doc pm an dP ct):=⟨⟨oc,od,kV,doc,pm,an,dP,ct,wW,rfl,l,c⟩,k⟩
end
def eJ {A:Around}{k:Nat}(hr:fA k A):A.units+1 < cLine:=iu (Nat.add_le_add_left (by decide:1<=64) _) hr.units
section
variable {X:Cx}
def pv (i:Nat){x:Str}(hN:X.N[i]?=some x:=by rfl)(hv:Vd X.env.scope x:=by first | exact Or.inl rfl | exact Or.inr 86 | exact Or.inr (Or.inr rfl))(hd:(x == ("__debug__":Str))=false:=by decide)
  (xA:(x == ("__classdict__":Str))=false:=by decide):PE X (.Name x pos) (gH i):=Nk hN hv hd xA
end
def iP {A B:Prop}(h:B):if false=true then A else B:=by
 rw [ar bG];exact h
def tZ {A B:Prop}(h:A):if true=true then A else B:=by
 rw [au rfl];exact h
def dj {c A B:Prop} [Decidable c] (h1:c->A)(h2:¬c->B):if c then A else B:=by
 by_cases h:c
 .rw [au h];exact h1 h
 rw [ar h];exact h2 h
def aF (H H':Hp):Prop:=∀b o,H b=85->H' b=85
def aF.refl (H:Hp):aF H H:=λ_ _ h=>h
def aF.trans (a:aF H H1)(b:aF H1 H2):aF H H2:=λc o h=>b c o (a c o h)
def aF.free (e:aF H H')(h:H' l=Option.none):H l=Option.none:=by
 cases q:H l with
 | none=>rfl
 | some o =>
  rw [e l o q] at h;cases h
def aF.seq {K:aU}{a:Addr}{xs:List V}(e:aF H H')(h:aJ K H a xs):aJ K H' a xs:=by
 rcases h with (h | ⟨o,h⟩) | h
 .exact .inl (.inl (e _ _ h))
 .exact .inl (.inr ⟨o,e _ _ h⟩)
 exact .inr h
end L2
namespace HD
open PySem PySem.W
def Gj (st:SharedT->Thread->Option (SharedT×Thread))(ok:Thread->Bool):Nat->SharedT->Thread->Option SharedT
 | 0,_,_=>none
 | n+1,s,t=>match through t with
  | true=>some s
  | false=>match ok t with
   | false=>none
   | true=>match st s t with
    | some (s',t')=>Gj st ok n s' t'
    | none=>none
theorem CM {tb:String->Option Builtin}{p:Program}{w:World}{n₀:Nat}{ann:z0j}:∀{n:Nat}{s s':SharedT}{t:Thread},Gj (stepT (denote tb) p w) (stepOk n₀ ann) n s t=some s'->topRun tb p w n₀ ann n s.abs t=some s'.abs
 | 0,_,_,_,h=>by cases h
 | n+1,s,s',t,h=>by
  unfold Gj at h;unfold topRun;cases he:through t with
  | true=>rw [he] at h;cases h;rfl
  | false =>
   rw [he] at h;cases hk:stepOk n₀ ann t with
   | false=>rw [hk] at h;cases h
   | true =>
    rw [hk] at h;cases hs:stepT (denote tb) p w s t with
    | none=>rw [hs] at h;cases h
    | some r=>obtain⟨s₂,t₂⟩:=r;rw [hs] at h;rw [stepT_spec hs];exact CM h
def Z6:List Obj->Nat->BT->BT
 | [],_,t=>t
 | o::r,i,t=>Z6 r (i+1) (t.ins i o)
noncomputable def Du (P:Params):BT:=Z6 (boot_heap P).objs.toList 0 .nil
def E_ (P:Params):absHeap (Du P) 11 {}=boot_heap P:=by kernel_rfl
def Om {β:Type}:Obj->(Obj->β)->β
 | ⟨c,d,t,s⟩,k=>k ⟨c,d,t,s⟩
def qB {β:Type}:List Obj->(List Obj->β)->β
 | [],k=>k []
 | x::r,k=>Om x λy=>qB r λys=>k (y::ys)
theorem si {β:Type}:∀(l:List Obj)(k:List Obj->β),qB l k=k l
 | [],_=>rfl
 | ⟨c,d,t,s⟩::r,k=>by
  show qB r (λys=>k (⟨c,d,t,s⟩::ys))=_;rw [si r]
def Hw (p q:Program) (loose:z0s)(Xt:Shared->Bool){α:Type}(Yf:Shared->α)(g0:Bool)(h₀:Heap)(s:Shared) :=
 ((staticsOk (importedModules p.main.body) h₀ s.heap && namesBound p s.heap && gensDone s && laidKept h₀ s.heap),openSeen q loose (importedModules p.main.body) Xt g0 s,Yf s)
def F_ {β:Type}(f:Shared->β)(s:SharedT):β:=qB (s.tree.list s.n) λl=>f ⟨⟨l.toArray,s.life⟩,s.gens,s.drawn,s.toks,s.os⟩
def F8 {β:Type}(f:Shared->β)(s:SharedT):F_ f s=f s.abs:=si _ _
def Rn {p q:Program}{loose:z0s}{Xt:Shared->Bool}{α:Type}{Yf:Shared->α}{Ya:World->α}{N:Nat}{g0:Bool}{ann:z0j}{M:Nat}
  (G0:∀w:World,(fencedOpening treeTable p w N).map (λs=>(s.heap,s.gens,s.drawn,s.toks))=some (boot_heap w.params,Array.mk [],boot_drawn,boot_toks))
  (size:∀w:World,((boot_heap w.params).isNs mainGlobals && (Array.mk []:Array GenState).size == 0,(boot_heap w.params).objs.size,(boot_heap w.params).nsMap mainGlobals "__annotations__")=(true,11,ann))
  (run:∀(w:World)(os:OsState),(Gj (stepT (denote treeTable) p w) (stepOk 11 ann) M ⟨Du w.params,11,{},Array.mk [],boot_drawn,boot_toks,os⟩ (topStub p)).map (F_ (Hw p q loose Xt Yf g0 (boot_heap w.params)))=some (true,openGood q loose,Ya w))
  (le:Nat.ble M N=true):LeftO p q loose Xt Yf Ya N g0:=λw=>by
 obtain⟨⟨h,gs,d,k,os⟩,e,e'⟩:=bQ.mp (G0 w);obtain⟨rfl,rfl,rfl,rfl⟩:h=boot_heap w.params/\gs=Array.mk []/\d=boot_drawn/\k=boot_toks:=by simpa using e'
 obtain⟨z1,z2,z3⟩:_/\_/\_:=by simpa only [jV] using size w
 obtain⟨s',r0,l0⟩:=bQ.mp (run w os);rw [F8] at l0;obtain⟨l1,l2,l3⟩:_/\_/\_:=by simpa only [Hw,jV] using l0
 have r:=CM r0;have ea:SharedT.abs ⟨Du w.params,11,{},Array.mk [],boot_drawn,boot_toks,os⟩=⟨boot_heap w.params,Array.mk [],boot_drawn,boot_toks,os⟩:=by
  unfold SharedT.abs;rw [E_]
 rw [ea] at r;have r:=topRun_mono (N - M) _ _ _ _ r;rw [show M+(N - M)=N by have:=Nat.le_of_ble_eq_true le;omega] at r;have t:topFrom treeTable p w N ⟨boot_heap w.params,Array.mk [],boot_drawn,boot_toks,os⟩=some s'.abs:=by
  unfold topFrom;dsimp only;rw [z1,z2,z3,r];show (match staticsOk (importedModules p.main.body) (boot_heap w.params) s'.abs.heap && namesBound p s'.abs.heap && gensDone s'.abs && laidKept (boot_heap w.params) s'.abs.heap with | true=>_ | false=>_)=_
  rw [l1]
 unfold openEnds;rw [e];show (topFrom treeTable p w N _).map _=_;rw [t];exact congrArg some (Prod.ext l2 l3)
end HD
set_option maxHeartbeats 0
namespace HD
open PySem PySem.W L2 PySem.Challenge
def dE (P:Params)(x:Str)(t:Tok)(v:Value):DictEntry:=⟨PyData.keyHash P x,.str x t,v⟩
def top (p:Program) (i:Nat):Stmt:=p.main.body.getD i (.Pass ⟨0,0,0,0⟩)
def i5 (p:Program) (i j:Nat):Stmt:=match top p i with
 | .ClassDef _ _ _ body _ _ _ _ _ _ _=>body.getD j (.Pass ⟨0,0,0,0⟩)
 | _=>.Pass ⟨0,0,0,0⟩
def posOf (s:Stmt):Pos:=match s with
 | .FunctionDef _ _ _ _ _ _ _ _ _ p=>p
 | _=>⟨0,0,0,0⟩
def cF (a:Addr)(n q:Str)(i:Nat)(l m:Int)(x y:Addr)(u v s t:Value)(z:Int)(w:Nat):Addr×Obj:=(a,⟨.type "code",none,.fields #[.str n i,.str q (i+1),.str "/claim/cut.py" (i+2),.int l 0,.int m 0,.int 0 0,.int 0 0,.int 3 0,.ref x,.bool true,.int 181 0,.ref y,u,v,s,t,.int z 0,.int l 0,.str "/claim/cut.py" w],#[]⟩)
def fF (a:Addr)(n q:Str)(s:Stmt)(m:Value):Addr×Obj:=(a,⟨.type "function",none,.func (fnOf n q (cW s) (cg s) (az s) .none .none .none m none (.ref (a-1)) .none),#[]⟩)
def dR (P:Params)(x:Str)(t:Tok)(a:Addr):DictEntry:=dE P x t (.ref a)
def m0:Value:=.str "__main__" 164
def m1:Value:=.str "wright.rules" 194
def m2:Value:=.str "wright.deeds" 226
def m3:Value:=.str "wright.strengths" 234
def m4:Value:=.str "wright.begin_tables" 265
def m5:Value:=.str "wright.errors" 359
def m6:Value:=.str "wright.loops" 520
def m7:Value:=.str "wright.tree_sizes" 550
def m8:Value:=.str "wright.grammar_faults" 571
def m9:Value:=.str "wright.least_trees" 598
def m10:Value:=.str "wright.grammars" 684
def C4:Value:=.str "law_wright_k47_strengths" 727
noncomputable def K' (p:Program)(P:Params):Frag:=[
 (2,⟨.none,none,.dict #[] 0,#[]⟩),
 (3,⟨.type "dict",none,.dict #[dE P "__name__" 165 (.str "law_wright_k47_strengths" 727),dE P "__doc__" 166 (.none),dE P "__package__" 167 (.none),dE P "__loader__" 168 (.builtin "__main__.__loader__#opaque"),dE P "__spec__" 169 (.none),dR P "__annotations__" 170 6,dR P "__builtins__" 171 4,dE P "__file__" 173 (.str "/claim/cut.py" 172),dE P "__cached__" 174 (.none),dR P "_wall" 193 21,dR P "heads_of" 201 26,dR P "words_in" 207 31,dR P "numbers_by_name" 213 36,dR P "standings_by_part" 225 43,dR P "clashes_of" 233 48,dR P "put_right" 241 53,dR P "levels_of" 252 60,dR P "put_aside" 258 65,dR P "level_of_rule" 264 70,dR P "found_empties" 272 75,dR P "first_places" 283 82,dR P "BeginTable" 358 132,dR P "WrightError" 378 146,dR P "NoRules" 394 159,dR P "Twice" 419 178,dR P "Endless" 444 197,dR P "Unmet" 469 216,dR P "Loop" 494 235,dR P "Vast" 519 254,dR P "find_loop" 527 261,dR P "steps_with_like_rows" 533 266,dR P "way_back" 549 273,dR P "least_sizes" 557 278,dR P "greatest_empty_sizes" 564 285,dR P "settled_sizes" 570 290,dE P "MOST_RULES" 574 (.int (60) 573),dR P "refuse_faults" 580 295,dR P "refuse_twice" 591 302,dR P "names_met" 597 307,dR P "least_by_part" 605 312,dR P "rule_size" 611 317,dR P "empty_by_name" 617 322,dR P "LeastTrees" 683 365,dR P "Grammar" 726 394,dR P "_law_cell_at" 736 405,dR P "_law_rules" 748 412,dR P "_law_strengths" 754 417,dR P "_law_deeds" 760 422,dR P "_law_strength" 771 429,dR P "_law_aside" 777 434,dR P "law" 783 439] 51,#[]⟩),
 (cF 20 "_wall" "_wall" 187 1 1 15 16 .none (.ref 17) (.ref 18) (.ref 19) 191 192),
 (fF 21 "_wall" "_wall" (top p 0) m0),
 (cF 25 "heads_of" "heads_of" 196 5 1 22 23 .none .none .none (.ref 24) 199 200),
 (fF 26 "heads_of" "heads_of" (top p 2) m1),
 (cF 30 "words_in" "words_in" 202 7 1 27 28 .none .none .none (.ref 29) 205 206),
 (fF 31 "words_in" "words_in" (top p 3) m1),
 (cF 35 "numbers_by_name" "numbers_by_name" 208 15 1 32 33 .none .none .none (.ref 34) 211 212),
 (fF 36 "numbers_by_name" "numbers_by_name" (top p 4) m1),
 (cF 42 "standings_by_part" "standings_by_part" 214 20 1 37 38 .none (.ref 39) (.ref 40) (.ref 41) 223 224),
 (fF 43 "standings_by_part" "standings_by_part" (top p 5) m1),
 (cF 47 "clashes_of" "clashes_of" 228 27 1 44 45 .none .none .none (.ref 46) 231 232),
 (fF 48 "clashes_of" "clashes_of" (top p 7) m2),
 (cF 52 "put_right" "put_right" 236 33 2 49 50 .none .none .none (.ref 51) 239 240),
 (fF 53 "put_right" "put_right" (top p 9) m3),
 (cF 59 "levels_of" "levels_of" 242 40 1 54 55 .none (.ref 56) (.ref 57) (.ref 58) 250 251),
 (fF 60 "levels_of" "levels_of" (top p 10) m3),
 (cF 64 "put_aside" "put_aside" 253 46 4 61 62 .none .none .none (.ref 63) 256 257),
 (fF 65 "put_aside" "put_aside" (top p 11) m3),
 (cF 69 "level_of_rule" "level_of_rule" 259 59 2 66 67 .none .none .none (.ref 68) 262 263),
 (fF 70 "level_of_rule" "level_of_rule" (top p 12) m3),
 (cF 74 "found_empties" "found_empties" 267 63 1 71 72 .none .none .none (.ref 73) 270 271),
 (fF 75 "found_empties" "found_empties" (top p 14) m4),
 (cF 81 "first_places" "first_places" 273 74 2 76 77 .none (.ref 78) (.ref 79) (.ref 80) 281 282),
 (fF 82 "first_places" "first_places" (top p 15) m4),
 (cF 93 "__init__" "BeginTable.__init__" 296 83 2 90 91 .none .none .none (.ref 92) 299 300),
 (fF 94 "__init__" "BeginTable.__init__" (i5 p 16 0) m4),
 (cF 100 "find_begins" "BeginTable.find_begins" 302 94 3 95 96 .none (.ref 97) (.ref 98) (.ref 99) 311 312),
 (fF 101 "find_begins" "BeginTable.find_begins" (i5 p 16 1) m4),
 (cF 107 "words_of_part" "BeginTable.words_of_part" 314 102 2 102 103 .none (.ref 104) (.ref 105) (.ref 106) 319 320),
 (fF 108 "words_of_part" "BeginTable.words_of_part" (i5 p 16 2) m4),
 (cF 114 "first_words" "BeginTable.first_words" 322 105 2 109 110 .none (.ref 111) (.ref 112) (.ref 113) 327 328),
 (fF 115 "first_words" "BeginTable.first_words" (i5 p 16 3) m4),
 (cF 121 "all_empty" "BeginTable.all_empty" 330 108 2 116 117 .none (.ref 118) (.ref 119) (.ref 120) 335 336),
 (fF 122 "all_empty" "BeginTable.all_empty" (i5 p 16 4) m4),
 (cF 128 "words_of_parts" "BeginTable.words_of_parts" 338 111 3 123 124 .none (.ref 125) (.ref 126) (.ref 127) 344 345),
 (fF 129 "words_of_parts" "BeginTable.words_of_parts" (i5 p 16 5) m4),
 (131,⟨.type "dict",none,.dict #[dE P "__module__" 291 (.str "wright.begin_tables" 265),dE P "__firstlineno__" 295 (.int (81) 294),dR P "__init__" 301 94,dR P "find_begins" 313 101,dR P "words_of_part" 321 108,dR P "first_words" 329 115,dR P "all_empty" 337 122,dR P "words_of_parts" 346 129,dR P "__static_attributes__" 351 130,dR P "__dict__" 353 133,dR P "__weakref__" 355 134,dE P "__doc__" 356 (.none)] 4,#[]⟩),
 (132,⟨.type "type",none,.cls ⟨"BeginTable",[.type "object"],[.ref 132,.type "object"],131,"BeginTable",true,[],[],false,none,false⟩,#[none,none,some (.str "BeginTable" 284),some (.str "BeginTable" 292),some (.builtin "object.__new__"),some (.bool true)]⟩),
 (133,⟨.type "getset_descriptor",none,.fields #[.str "__dict__" 352,.ref 132,.builtin "function.__dict__",.builtin "function.__dict__#set"],#[]⟩),
 (134,⟨.type "getset_descriptor",none,.fields #[.str "__weakref__" 354,.ref 132,.builtin "ExceptionGroup.__weakref__",.none],#[]⟩),
 (145,⟨.type "dict",none,.dict #[dE P "__module__" 368 (.str "wright.errors" 359),dE P "__firstlineno__" 372 (.int (114) 371),dR P "__static_attributes__" 373 144,dR P "__weakref__" 375 147,dE P "__doc__" 376 (.none)] 3,#[]⟩),
 (146,⟨.type "type",none,.cls ⟨"WrightError",[.type "ValueError"],[.ref 146,.type "ValueError",.type "Exception",.type "BaseException",.type "object"],145,"WrightError",true,[],[.ref 159,.ref 178,.ref 197,.ref 216,.ref 235,.ref 254],false,none,false⟩,#[some (.ref 137),none,some (.str "WrightError" 361),some (.str "WrightError" 369),some (.builtin "ValueError.__new__"),some (.bool true)]⟩),
 (147,⟨.type "getset_descriptor",none,.fields #[.str "__weakref__" 374,.ref 146,.builtin "ExceptionGroup.__weakref__",.none],#[]⟩),
 (158,⟨.type "dict",none,.dict #[dE P "__module__" 386 (.str "wright.errors" 359),dE P "__firstlineno__" 390 (.int (116) 389),dR P "__static_attributes__" 391 157,dE P "__doc__" 392 (.none)] 2,#[]⟩),
 (159,⟨.type "type",none,.cls ⟨"NoRules",[.ref 146],[.ref 159,.ref 146,.type "ValueError",.type "Exception",.type "BaseException",.type "object"],158,"NoRules",true,[],[],false,none,false⟩,#[some (.ref 150),none,some (.str "NoRules" 379),some (.str "NoRules" 387),some (.builtin "ValueError.__new__"),some (.bool true)]⟩),
 (cF 174 "__init__" "Twice.__init__" 407 120 2 169 170 .none (.ref 171) (.ref 172) (.ref 173) 412 413),
 (fF 175 "__init__" "Twice.__init__" (i5 p 20 0) m5),
 (177,⟨.type "dict",none,.dict #[dE P "__module__" 402 (.str "wright.errors" 359),dE P "__firstlineno__" 406 (.int (118) 405),dR P "__init__" 414 175,dR P "__static_attributes__" 416 176,dE P "__doc__" 417 (.none)] 2,#[]⟩),
 (178,⟨.type "type",none,.cls ⟨"Twice",[.ref 146],[.ref 178,.ref 146,.type "ValueError",.type "Exception",.type "BaseException",.type "object"],177,"Twice",true,[],[],false,none,false⟩,#[some (.ref 162),none,some (.str "Twice" 395),some (.str "Twice" 403),some (.builtin "ValueError.__new__"),some (.bool true)]⟩),
 (cF 193 "__init__" "Endless.__init__" 432 125 2 188 189 .none (.ref 190) (.ref 191) (.ref 192) 437 438),
 (fF 194 "__init__" "Endless.__init__" (i5 p 21 0) m5),
 (196,⟨.type "dict",none,.dict #[dE P "__module__" 427 (.str "wright.errors" 359),dE P "__firstlineno__" 431 (.int (123) 430),dR P "__init__" 439 194,dR P "__static_attributes__" 441 195,dE P "__doc__" 442 (.none)] 2,#[]⟩),
 (197,⟨.type "type",none,.cls ⟨"Endless",[.ref 146],[.ref 197,.ref 146,.type "ValueError",.type "Exception",.type "BaseException",.type "object"],196,"Endless",true,[],[],false,none,false⟩,#[some (.ref 181),none,some (.str "Endless" 420),some (.str "Endless" 428),some (.builtin "ValueError.__new__"),some (.bool true)]⟩),
 (cF 212 "__init__" "Unmet.__init__" 457 130 2 207 208 .none (.ref 209) (.ref 210) (.ref 211) 462 463),
 (fF 213 "__init__" "Unmet.__init__" (i5 p 22 0) m5),
 (215,⟨.type "dict",none,.dict #[dE P "__module__" 452 (.str "wright.errors" 359),dE P "__firstlineno__" 456 (.int (128) 455),dR P "__init__" 464 213,dR P "__static_attributes__" 466 214,dE P "__doc__" 467 (.none)] 2,#[]⟩),
 (216,⟨.type "type",none,.cls ⟨"Unmet",[.ref 146],[.ref 216,.ref 146,.type "ValueError",.type "Exception",.type "BaseException",.type "object"],215,"Unmet",true,[],[],false,none,false⟩,#[some (.ref 200),none,some (.str "Unmet" 445),some (.str "Unmet" 453),some (.builtin "ValueError.__new__"),some (.bool true)]⟩),
 (cF 231 "__init__" "Loop.__init__" 482 135 2 226 227 .none (.ref 228) (.ref 229) (.ref 230) 487 488),
 (fF 232 "__init__" "Loop.__init__" (i5 p 23 0) m5),
 (234,⟨.type "dict",none,.dict #[dE P "__module__" 477 (.str "wright.errors" 359),dE P "__firstlineno__" 481 (.int (133) 480),dR P "__init__" 489 232,dR P "__static_attributes__" 491 233,dE P "__doc__" 492 (.none)] 2,#[]⟩),
 (235,⟨.type "type",none,.cls ⟨"Loop",[.ref 146],[.ref 235,.ref 146,.type "ValueError",.type "Exception",.type "BaseException",.type "object"],234,"Loop",true,[],[],false,none,false⟩,#[some (.ref 219),none,some (.str "Loop" 470),some (.str "Loop" 478),some (.builtin "ValueError.__new__"),some (.bool true)]⟩),
 (cF 250 "__init__" "Vast.__init__" 507 140 2 245 246 .none (.ref 247) (.ref 248) (.ref 249) 512 513),
 (fF 251 "__init__" "Vast.__init__" (i5 p 24 0) m5),
 (253,⟨.type "dict",none,.dict #[dE P "__module__" 502 (.str "wright.errors" 359),dE P "__firstlineno__" 506 (.int (138) 505),dR P "__init__" 514 251,dR P "__static_attributes__" 516 252,dE P "__doc__" 517 (.none)] 2,#[]⟩),
 (254,⟨.type "type",none,.cls ⟨"Vast",[.ref 146],[.ref 254,.ref 146,.type "ValueError",.type "Exception",.type "BaseException",.type "object"],253,"Vast",true,[],[],false,none,false⟩,#[some (.ref 238),none,some (.str "Vast" 495),some (.str "Vast" 503),some (.builtin "ValueError.__new__"),some (.bool true)]⟩),
 (cF 260 "find_loop" "find_loop" 522 144 1 257 258 .none .none .none (.ref 259) 525 526),
 (fF 261 "find_loop" "find_loop" (top p 26) m6),
 (cF 265 "steps_with_like_rows" "steps_with_like_rows" 528 148 1 262 263 .none .none .none (.ref 264) 531 532),
 (fF 266 "steps_with_like_rows" "steps_with_like_rows" (top p 27) m6),
 (cF 272 "way_back" "way_back" 534 157 3 267 268 .none (.ref 269) (.ref 270) (.ref 271) 547 548),
 (fF 273 "way_back" "way_back" (top p 28) m6),
 (cF 277 "least_sizes" "least_sizes" 552 173 1 274 275 .none .none .none (.ref 276) 555 556),
 (fF 278 "least_sizes" "least_sizes" (top p 30) m7),
 (cF 284 "greatest_empty_sizes" "greatest_empty_sizes" 558 175 1 279 280 .none (.ref 281) (.ref 282) (.ref 283) 562 563),
 (fF 285 "greatest_empty_sizes" "greatest_empty_sizes" (top p 31) m7),
 (cF 289 "settled_sizes" "settled_sizes" 565 177 3 286 287 .none .none .none (.ref 288) 568 569),
 (fF 290 "settled_sizes" "settled_sizes" (top p 32) m7),
 (cF 294 "refuse_faults" "refuse_faults" 575 190 2 291 292 .none .none .none (.ref 293) 578 579),
 (fF 295 "refuse_faults" "refuse_faults" (top p 35) m8),
 (cF 301 "refuse_twice" "refuse_twice" 581 209 1 296 297 .none (.ref 298) (.ref 299) (.ref 300) 589 590),
 (fF 302 "refuse_twice" "refuse_twice" (top p 36) m8),
 (cF 306 "names_met" "names_met" 592 216 1 303 304 .none .none .none (.ref 305) 595 596),
 (fF 307 "names_met" "names_met" (top p 37) m8),
 (cF 311 "least_by_part" "least_by_part" 600 226 1 308 309 .none .none .none (.ref 310) 603 604),
 (fF 312 "least_by_part" "least_by_part" (top p 39) m9),
 (cF 316 "rule_size" "rule_size" 606 234 2 313 314 .none .none .none (.ref 315) 609 610),
 (fF 317 "rule_size" "rule_size" (top p 40) m9),
 (cF 321 "empty_by_name" "empty_by_name" 612 236 2 318 319 .none .none .none (.ref 320) 615 616),
 (fF 322 "empty_by_name" "empty_by_name" (top p 41) m9),
 (cF 333 "__init__" "LeastTrees.__init__" 630 243 3 330 331 .none .none .none (.ref 332) 633 634),
 (fF 334 "__init__" "LeastTrees.__init__" (i5 p 42 0) m9),
 (cF 340 "least_of" "LeastTrees.least_of" 636 250 2 335 336 .none (.ref 337) (.ref 338) (.ref 339) 641 642),
 (fF 341 "least_of" "LeastTrees.least_of" (i5 p 42 1) m9),
 (cF 347 "hollow_of" "LeastTrees.hollow_of" 644 253 2 342 343 .none (.ref 344) (.ref 345) (.ref 346) 649 650),
 (fF 348 "hollow_of" "LeastTrees.hollow_of" (i5 p 42 2) m9),
 (cF 354 "begun_place" "LeastTrees.begun_place" 652 256 3 349 350 .none (.ref 351) (.ref 352) (.ref 353) 658 659),
 (fF 355 "begun_place" "LeastTrees.begun_place" (i5 p 42 3) m9),
 (cF 361 "begun_of" "LeastTrees.begun_of" 661 259 4 356 357 .none (.ref 358) (.ref 359) (.ref 360) 668 669),
 (fF 362 "begun_of" "LeastTrees.begun_of" (i5 p 42 4) m9),
 (364,⟨.type "dict",none,.dict #[dE P "__module__" 625 (.str "wright.least_trees" 598),dE P "__firstlineno__" 629 (.int (241) 628),dR P "__init__" 635 334,dR P "least_of" 643 341,dR P "hollow_of" 651 348,dR P "begun_place" 660 355,dR P "begun_of" 670 362,dR P "__static_attributes__" 676 363,dR P "__dict__" 678 366,dR P "__weakref__" 680 367,dE P "__doc__" 681 (.none)] 4,#[]⟩),
 (365,⟨.type "type",none,.cls ⟨"LeastTrees",[.type "object"],[.ref 365,.type "object"],364,"LeastTrees",true,[],[],false,none,false⟩,#[none,none,some (.str "LeastTrees" 618),some (.str "LeastTrees" 626),some (.builtin "object.__new__"),some (.bool true)]⟩),
 (366,⟨.type "getset_descriptor",none,.fields #[.str "__dict__" 677,.ref 365,.builtin "function.__dict__",.builtin "function.__dict__#set"],#[]⟩),
 (367,⟨.type "getset_descriptor",none,.fields #[.str "__weakref__" 679,.ref 365,.builtin "ExceptionGroup.__weakref__",.none],#[]⟩),
 (377,⟨183,none,.seq #[.none] 0,#[]⟩),
 (cF 383 "__init__" "Grammar.__init__" 698 264 3 378 379 .none (.ref 380) (.ref 381) (.ref 382) 704 705),
 (384,⟨.type "function",none,.func (fnOf "__init__" "Grammar.__init__" (cW (i5 p 44 0)) (cg (i5 p 44 0)) (az (i5 p 44 0)) (.ref 377) (.none) (.none) (.str "wright.grammars" 684) (none) (.ref 383) (.none)),#[]⟩),
 (cF 390 "start" "Grammar.start" 707 272 1 385 386 .none (.ref 387) (.ref 388) (.ref 389) 711 712),
 (fF 391 "start" "Grammar.start" (i5 p 44 1) m10),
 (393,⟨.type "dict",none,.dict #[dE P "__module__" 693 (.str "wright.grammars" 684),dE P "__firstlineno__" 697 (.int (262) 696),dR P "__init__" 706 384,dR P "start" 713 391,dR P "__static_attributes__" 719 392,dR P "__dict__" 721 395,dR P "__weakref__" 723 396,dE P "__doc__" 724 (.none)] 4,#[]⟩),
 (394,⟨.type "type",none,.cls ⟨"Grammar",[.type "object"],[.ref 394,.type "object"],393,"Grammar",true,[],[],false,none,false⟩,#[none,none,some (.str "Grammar" 686),some (.str "Grammar" 694),some (.builtin "object.__new__"),some (.bool true)]⟩),
 (395,⟨.type "getset_descriptor",none,.fields #[.str "__dict__" 720,.ref 394,.builtin "function.__dict__",.builtin "function.__dict__#set"],#[]⟩),
 (396,⟨.type "getset_descriptor",none,.fields #[.str "__weakref__" 722,.ref 394,.builtin "ExceptionGroup.__weakref__",.none],#[]⟩),
 (cF 404 "_law_cell_at" "_law_cell_at" 729 275 2 399 400 .none (.ref 401) (.ref 402) (.ref 403) 734 735),
 (fF 405 "_law_cell_at" "_law_cell_at" (top p 46) C4),
 (cF 411 "_law_rules" "_law_rules" 737 279 1 406 407 .none (.ref 408) (.ref 409) (.ref 410) 746 747),
 (fF 412 "_law_rules" "_law_rules" (top p 47) C4),
 (cF 416 "_law_strengths" "_law_strengths" 749 288 1 413 414 .none .none .none (.ref 415) 752 753),
 (fF 417 "_law_strengths" "_law_strengths" (top p 48) C4),
 (cF 421 "_law_deeds" "_law_deeds" 755 302 3 418 419 .none .none .none (.ref 420) 758 759),
 (fF 422 "_law_deeds" "_law_deeds" (top p 49) C4),
 (cF 428 "_law_strength" "_law_strength" 761 317 2 423 424 .none (.ref 425) (.ref 426) (.ref 427) 769 770),
 (fF 429 "_law_strength" "_law_strength" (top p 50) C4),
 (cF 433 "_law_aside" "_law_aside" 772 324 4 430 431 .none .none .none (.ref 432) 775 776),
 (fF 434 "_law_aside" "_law_aside" (top p 51) C4),
 (cF 438 "law" "law" 778 338 1 435 436 .none .none .none (.ref 437) 781 782),
 (fF 439 "law" "law" (top p 52) C4)]
def as:z0p:=[2,3,20,21,25,26,30,31,35,36,42,43,47,48,52,53,59,60,64,65,69,70,74,75,81,82,93,94,100,101,107,108,114,115,121,122,128,129,131,132,133,134,145,146,147,158,159,174,175,177,178,193,194,196,197,212,213,215,216,231,232,234,235,250,251,253,254,260,261,265,266,272,273,277,278,284,285,289,290,294,295,301,302,306,307,311,312,316,317,321,322,333,334,340,341,347,348,354,355,361,362,364,365,366,367,377,383,384,390,391,393,394,395,396,404,405,411,412,416,417,421,422,428,429,433,434,438,439]
def q' (p:Program):Program:=view p [0,2,3,4,5,7,9,10,11,12,14,15,16,18,19,20,21,22,23,24,26,27,28,30,31,32,34,35,36,37,39,40,41,42,44,46,47,48,49,50,51,52]
abbrev loose:z0s:=[]
abbrev steps:Nat:=3625
abbrev bound:Nat:=8230
abbrev C7:OpenLaw:=rw_wright_k47_strengths
noncomputable abbrev K (P:Params):Frag:=K' pw_wright_k47_strengths P
theorem IS (P:Params):as=(K P).map 84:=by kernel_rfl
noncomputable abbrev hook:Hook:=kmHook K as IS [309,280,275]
def M4:C7.wellSaid=true:=by kernel_rfl
def pre (h:C7.row.wellSaid=true->C7.row.Holds):C7.Holds:=holds_law M4 h
abbrev Xt:Shared->Bool:=λs=>xlAt (q' pw_wright_k47_strengths) [] s && recOk (RowW.records (OpenRow.toRowW (OpenLaw.row rw_wright_k47_strengths))) s
def run (w:World)(os:OsState):(Gj (stepT (denote treeTable) pw_wright_k47_strengths w) (stepOk 11 (some (.ref 6))) steps ⟨Du w.params,11,{},Array.mk [],boot_drawn,boot_toks,os⟩ (topStub pw_wright_k47_strengths)).map
  (F_ (Hw pw_wright_k47_strengths (q' pw_wright_k47_strengths) loose Xt (Hook.obs hook) true (boot_heap w.params)))=some (true,openGood (q' pw_wright_k47_strengths) loose,Hook.val hook w):=by
 rw [PySem.W.Fast.te10156331382660048174,PySem.W.Fast.te11892475500146522536,PySem.W.Fast.te14364793385576792824,PySem.W.Fast.te6613529449190102663]
 kernel_rfl
theorem size (w:World):((boot_heap w.params).isNs mainGlobals && (Array.mk []:Array GenState).size == 0,(boot_heap w.params).objs.size,(boot_heap w.params).nsMap mainGlobals "__annotations__")=(true,11,some (.ref 6)):=by kernel_rfl
def G0:∀w:World,(fencedOpening treeTable pw_wright_k47_strengths w bound).map (λs=>(s.heap,s.gens,s.drawn,s.toks))=some (boot_heap w.params,Array.mk [],boot_drawn,boot_toks) :=
 boot_open (nofun) nofun (λs=>by kernel_rfl)
def left:LeftO (OpenRow.toRowW C7.row).prog (q' pw_wright_k47_strengths) loose Xt (Hook.obs hook) (Hook.val hook) bound:=Rn G0 size run nofun
def kx:DefRec:={ name := "law",params:=cW (top pw_wright_k47_strengths 52),body:=cg (top pw_wright_k47_strengths 52),scope:=az (top pw_wright_k47_strengths 52),pos:=posOf (top pw_wright_k47_strengths 52) }
def ok1:defOf (q' pw_wright_k47_strengths) C7.row.name=some (kx,[]):=by kernel_rfl
def ok2:C7.row.prog.theDef C7.row.name=some (kx.params,kx.body,kx.scope):=by kernel_rfl
def ok3:kwWritten? kx.params.kwonlyargs kx.params.kw_defaults=some []:=by kernel_rfl
def ok4:(chainsOk (q' pw_wright_k47_strengths) && opensWell C7.row.prog && (frees C7.row.toRowW && C7.row.within.isEmpty))=true:=by kernel_rfl
def Q3:kx.params.defaults=[]:=by kernel_rfl
def hold (h:WalkO (q' pw_wright_k47_strengths) loose (XL (q' pw_wright_k47_strengths) []) (Hook.says hook) C7.row.toRowW kx [] λf vs=>PySem.call f vs)(hw:C7.row.toRowW.promised):C7.Holds :=
 pre λM4=>holds_open (q:=q' pw_wright_k47_strengths) (loose:=loose) (Xt:=Xt) (XP:=XL (q' pw_wright_k47_strengths) []) (Yf:=Hook.obs hook) (Ya:=Hook.val hook) (YP:=Hook.says hook) (N:=bound) left (Hook.of hook) (Hook.keeps hook) (λs e=>xl_of s (pJ.mp e).1) XL.keeps ok1 ok2 ok3 (λs e=>recFacts_of (pJ.mp e).2) rfl M4 ok4 ⟨rfl,rfl,rfl,rfl,rfl,nofun⟩ hw h
end HD
set_option maxHeartbeats 4000000
namespace L2
open PySem PySem.Spec PyProof.Rows
abbrev zP:=Nat->St->143
def lF {K:aU}{f:Addr}{E:XK}:(pD CX P w K mg base N qual scope f cd A outer s H E).Ki.K=K:=rfl
def WI {t:TS}{D:Ends}{σ:St}(h:let E:=D;t E σ H):t D σ H:=h
def WG {t u:TS}{D:Ends}{σ:St}(h:let E:={ D with nx:=u D };t E σ H):wk t u D σ H:=h
def Rl {t u:TS}{D:Ends}{σ:St}(h:let E:=D;let F:={ E with nx:=u E };t F σ H):wk t u D σ H:=h
def WH {g:TG}{x:V}{σ:St}{t:TS}{D:Ends}(h:let E:=D;g x σ H λσ2 H2=>t E σ2 H2):g x σ H λσ2 H2=>t D σ2 H2:=h
end L2
local macro_rules | `(tactic| nofun) => `(tactic| (dsimp only [L2.lF];refine L2.WG ?_;intro _))
local macro_rules | `(tactic| ac_rfl) => `(tactic| (refine L2.Rl ?_;intro _ _))
local macro_rules | `(tactic| ac_nf0) => `(tactic| (refine L2.WH ?_;intro _))
local macro_rules | `(tactic| ac_nf) => `(tactic| (refine L2.WI ?_;intro _))
namespace L2
open PySem PySem.Spec PyProof.Rows
section
variable {κ:Type} [DecidableEq κ]
def aT (kvs:List (κ×V))(k:κ):149:=(kvs.find? λkv=>decide (kv.1=k)).map (·.2)
def bx (kvs:List (κ×V))(k:κ)(v:V):List (κ×V) :=
 if (kvs.any λkv=>decide (kv.1=k))=true then kvs.map (λkv=>if kv.1=k then (kv.1,v) else kv) else kvs++[(k,v)]
def dD {p:κ×V}{r:List (κ×V)}{k:κ}(e:p.1=k):aT (p::r) k=some p.2:=by simp [aT,oB,e]
def de {p:κ×V}{r:List (κ×V)}{k:κ}(e:¬p.1=k):aT (p::r) k=aT r k:=by simp [aT,oB,e]
theorem hZ (k:κ):∀kvs:List (κ×V),(kvs.any λkv=>decide (kv.1=k))=(aT kvs k).isSome
 | []=>rfl
 | p::r=>by
  rw [mi];by_cases e:p.1=k
  .simp only [dD e,cZ e,Bool.true_or,Option.isSome_some]
  rw [de e,fK e,Bool.false_or];exact hZ k r
theorem yj (k j:κ)(y:V):∀kvs:List (κ×V),aT (kvs.map λkv=>if kv.1=k then (kv.1,y) else kv) j=(aT kvs j).map λx=>if j=k then y else x
 | []=>rfl
 | p::r=>by
  have ih:=yj k j y r;rw [bY];by_cases h:p.1=k
  .rw [au h];by_cases e:p.1=j
   .rw [dD (p:=(p.1,y)) e,dD e,qK,au (e.symm.trans h)]
   rw [de (p:=(p.1,y)) e,de e,ih]
  rw [ar h];by_cases e:p.1=j
  .rw [dD (p:=p) e,dD e,qK,ar (λz=>h (e.trans z))]
  rw [de (p:=p) e,de e,ih]
theorem uv (k j:κ)(y:V):∀kvs:List (κ×V),aT kvs k=none->aT (kvs++[(k,y)]) j=if j=k then some y else aT kvs j
 | [],_=>by
  by_cases e:k=j
  .rw [au e.symm];exact dD (p:=(k,y)) e
  rw [ar (λz=>e z.symm)];exact de (p:=(k,y)) e
 | p::r,hn=>by
  rw [List.cons_append];have hk:¬p.1=k:=λz=>by rw [dD z] at hn;cases hn
  rw [de hk] at hn;have ih:=uv k j y r hn;by_cases e:p.1=j
  .rw [dD e,dD e,ar (λz=>hk (e.trans z))]
  rw [de e,de e,ih]
def m_ (kvs:List (κ×V))(k j:κ)(y:V):aT (bx kvs k y) j=if j=k then some y else aT kvs j:=by
 unfold bx;by_cases a:(kvs.any λkv=>decide (kv.1=k))=true
 .rw [au a,yj];rw [hZ] at a;by_cases e:j=k
  .obtain⟨x,hx⟩:=lQ.mp a;rw [au e,e,hx,qK,au rfl]
  rw [ar e];cases aT kvs j with
  | none=>rfl
  | some x=>rw [qK,ar e]
 rw [ar a];refine uv k j y kvs ?_;rw [hZ] at a;cases q:aT kvs k with
 | none=>rfl
 | some x=>rw [q] at a;exact(a rfl).elim
def di (kvs:List (κ×V))(k:κ)(v:V):(bx kvs k v).length<=kvs.length+1:=by
 unfold bx
 split
 .rw [aA];omega
 rw [bH,dW,jD];omega
def yC {kvs:List (κ×V)}{k:κ}(v:V)(h:aT kvs k=none):bx kvs k v=kvs++[(k,v)]:=by
 unfold bx;rw [hZ,h];exact ar nofun
def jB.i9 {o:149}{u:z0j}(r:jB o u):o.isSome=u.isSome:=by
 cases o with
 | none=>cases u with
  | none=>rfl
  | some _=>exact(show False from r).elim
 | some _=>cases u with
  | none=>exact(show False from r).elim
  | some _=>rfl
theorem jB.getD {o:149}{u:z0j}{d:V}(r:jB o u)(rd:RelV d d'):RelV (o.getD d) (u.getD d'):=by
 cases o with
 | none=>cases u with
  | none=>exact rd
  | some _=>exact(show False from r).elim
 | some _=>cases u with
  | none=>exact(show False from r).elim
  | some _=>exact r
def KV.val {kvs:List (κ×V)}(r:KV kvs vs)(k:κ):jB (aT kvs k) (valueAt vs k):=by
 unfold KV at r
 induction r with
 | nil=>exact True.intro
 | @cons p q ps qs h t ih =>
  obtain⟨h1,h2⟩:=h;by_cases e:p.1=k
  .have e':q.1=k:=h1.symm.trans e;have b:valueAt (q::qs) k=some q.2:=by simp [valueAt,oB,e']
   rw [dD e,b];exact h2
  have e':¬q.1=k:=λz=>e (h1.trans z);have b:valueAt (q::qs) k=valueAt qs k:=by simp [valueAt,oB,e']
  rw [de e,b];exact ih
theorem KV.any {kvs:List (κ×V)}{vs:List (κ×Value)}(r:KV kvs vs)(k:κ):(kvs.any λkv=>decide (kv.1=k))=vs.any λkv=>decide (kv.1=k):=by
 unfold KV at r
 induction r with
 | nil=>rfl
 | cons h t ih=>rw [mi,mi,ih,h.1]
def KV.Ng {kvs:List (κ×V)}{vs:List (κ×Value)}(r:KV kvs vs)(k:κ){u:Value}(ry:RelV y u) :
  KV (kvs.map λkv=>if kv.1=k then (kv.1,y) else kv) (vs.map λkv=>if kv.1=k then (kv.1,u) else kv):=by
 unfold KV at r ⊢
 induction r with
 | nil=>exact .nil
 | @cons p q ps qs h t ih =>
  rw [bY,bY];refine .cons ?_ ih;obtain⟨h1,h2⟩:=h;by_cases e:p.1=k
  .rw [au e,au (h1.symm.trans e)];exact⟨h1,ry⟩
  rw [ar e,ar (λz=>e (h1.trans z))];exact⟨h1,h2⟩
def KV.put {kvs:List (κ×V)}(r:KV kvs vs)(k:κ){u:Value}(ry:RelV y u):KV (bx kvs k y) (stored vs k u):=by
 unfold bx stored;rw [r.any k];by_cases e:(vs.any λkv=>decide (kv.1=k))=true
 .rw [au e,au e];exact r.Ng k ry
 rw [ar e,ar e];exact fN r ⟨rfl,ry⟩
def KV.keys {kvs:List (κ×V)}{vs:List (κ×Value)}(r:KV kvs vs):kvs.map 84=vs.map 84:=by
 unfold KV at r
 induction r with
 | nil=>rfl
 | cons h t ih=>rw [bY,bY,ih,h.1]
theorem KV.length {kvs:List (κ×V)}{vs:List (κ×Value)}(r:KV kvs vs):kvs.length=vs.length:=a9 r
end
def kF {k:aL}{u:Value}(r:RelV (kV k) u):(aI P w).is k u=true:=by
 cases k with
 | inl i=>obtain⟨t,e⟩:=(show ∃t,u=Value.int i t from r);subst e;exact kq P w i t
 | inr x=>obtain⟨t,e⟩:=(show ∃t,u=Value.str x t from r);subst e;exact iE P w x t
theorem uP:∀{ks:List aL}{us:z0m},bh (ks.map kV) us->ItemsAre (aI P w) ks us
 | [],_,r=>by rw [jj] at r;cases r;exact .nil
 | k::ks,_,r=>by
  rw [bY] at r;cases r with
  | cons h t=>exact .cons (kF h) (uP t)
abbrev KT (H:Hp):List (List aL×V)->448->Prop:=Paired λp q=>p.1=q.1/\H q.2.1=some (.tup (p.1.map kV))/\RelV p.2 q.2.2
def KT.val {kvs:List (List aL×V)}{xs:448}(r:KT H kvs xs)(k:List aL):jB (aT kvs k) ((atKey xs k).map (·.2)):=by
 induction r with
 | nil=>exact True.intro
 | @cons p q ps qs h t ih =>
  obtain⟨h1,_,h2⟩:=h;by_cases e:p.1=k
  .have e':q.1=k:=h1.symm.trans e;have b:atKey (q::qs) k=some q.2:=by simp [atKey,oB,e']
   rw [dD e,b];exact h2
  have e':¬q.1=k:=λz=>e (h1.trans z);have b:atKey (q::qs) k=atKey qs k:=by simp [atKey,oB,e']
  rw [de e,b];exact ih
def KT.Ng {kvs:List (List aL×V)}{xs:448}(r:KT H kvs xs)(k:List aL){u:Value}(ry:RelV y u) :
  KT H (kvs.map λkv=>if kv.1=k then (kv.1,y) else kv) (xs.map (putAt k u)):=by
 induction r with
 | nil=>exact .nil
 | @cons p q ps qs h t ih =>
  rw [bY,bY];refine .cons ?_ ih;obtain⟨h1,h2,h3⟩:=h;unfold putAt;by_cases e:p.1=k
  .rw [au e,au (h1.symm.trans e)];exact⟨h1,h2,ry⟩
  rw [ar e,ar (λz=>e (h1.trans z))];exact⟨h1,h2,h3⟩
def KT.put {kvs:List (List aL×V)}{xs:448}(r:KT H kvs xs)(k:List aL){b:Addr}{u:Value}(hb:H b=some (.tup (k.map kV)))(ry:RelV y u) :
  KT H (bx kvs k y) (storedH xs k b u):=by
 have e:(kvs.any λkv=>decide (kv.1=k))=(atKey xs k).isSome:=by
  rw [hZ,(r.val k).i9,mv]
 unfold bx storedH;rw [e];by_cases q:(atKey xs k).isSome=true
 .rw [au q,au q];exact r.Ng k ry
 rw [ar q,ar q];exact fN r ⟨rfl,hb,ry⟩
def KT.keeps {kvs:List (List aL×V)}{xs:448}(r:KT H kvs xs)(ht:∀b ys,H b=some (.tup ys)->H' b=some (.tup ys)):KT H' kvs xs :=
 Paired.iq r λ_ _ z=>⟨z.1,ht _ _ z.2.1,z.2.2⟩
section
variable {P:Program}{w:World}{H:Hp}{h:Heap}{a:Addr}
def Ly {u:HO}(ok:mS P w H h)(e:Rd H a u):bO P w H h a u:=e.ok ok
def lY {kvs:139}(ok:mS P w H h)(e:Rd H a (.dK kvs)):kvs.length<=sizeLine/\(a == sysModules)=false/\∃vs,KV kvs vs/\h.DictOf (aI P w) a vs :=
 show bO P w H h a (.dK kvs) from Ly ok e
def zh {kvs:139}(ok:mS P w H h)(e:H a=184):kvs.length<=sizeLine/\(a == sysModules)=false/\∃vs,KV kvs vs/\h.DictOf (aI P w) a vs:=lY ok (.inl e)
def jA {ks:List aL}(ok:mS P w H h)(e:H a=some (.tup (ks.map kV))):(tupleKind (aI P w)).is h ks a:=by
 obtain⟨_,aK,r,o,h1,h2,n,h3⟩:=(show bO P w H h a (.tup (ks.map kV)) from ok a _ e);exact⟨o,aK.toArray,n,h1,h2,h3,by simpa using uP r⟩
def pS {kvs:List (List aL×V)}(ok:mS P w H h)(e:Rd H a (.dT kvs)):kvs.length<=sizeLine/\(a == sysModules)=false /\
  ∃xs,KT H kvs xs/\h.DictOfH (tupleKind (aI P w)) a xs:=by
 obtain⟨z,y,xs,r,o,es,ep,h1,h2,h3,h4,h5⟩:=(show bO P w H h a (.dT kvs) from Ly ok e);refine⟨z,y,xs,r,o,es,ep,h1,h2,h3,h4,λx hx=>?_,h5⟩;have all:∀{l:List (List aL×V)}{m:448},KT H l m->∀x∈m,(tupleKind (aI P w)).is h x.1 x.2.1:=by
  intro l m q
  induction q with
  | nil=>intro x hx;exact nomatch hx
  | @cons p q ps qs hq t ih =>
   intro x hx;rcases aX.mp hx with e | hx
   .subst e;exact jA ok (by rw [<-hq.1];exact hq.2.1)
   exact ih x hx
 exact all r x hx
def Mj {kvs:List (List aL×V)}(ok:mS P w H h)(e:H a=some (.dT kvs)):kvs.length<=sizeLine/\(a == sysModules)=false /\
  ∃xs,KT H kvs xs/\h.DictOfH (tupleKind (aI P w)) a xs:=pS ok (.inl e)
end
def cb (H:Hp)(a:Addr)(y:V)(r:149):Prop :=
 (∃kvs k,Rd H a (.dK kvs)/\y=kV k/\r=aT kvs k)\/∃kvs k b,Rd H a (.dT kvs)/\y=.ref b/\H b=some (.tup (k.map kV))/\r=aT kvs k
def tK (H:Hp)(a:Addr)(y v:V)(H':Hp):Prop :=
 (∃kvs k,H a=184/\y=kV k/\kvs.length < sizeLine/\H'=upd H a (.dK (bx kvs k v))) \/
 ∃kvs k b,H a=some (.dT kvs)/\y=.ref b/\H b=some (.tup (k.map kV))/\kvs.length < sizeLine/\H'=upd H a (.dT (bx kvs k v))
theorem cb.k {a:Addr}{kvs:139}{k:aL}(e:H a=184):cb H a (kV k) (aT kvs k):=.inl ⟨kvs,k,.inl e,rfl,rfl⟩
theorem tK.k {a:Addr}{kvs:139}{k:aL}{v:V}(e:H a=184)(hl:kvs.length < sizeLine):tK H a (kV k) v (upd H a (.dK (bx kvs k v))):=.inl ⟨kvs,k,e,rfl,hl,rfl⟩
section
variable {X:Cx}{ah:z0e}{σ:St}{H:Hp}{s:Shared}{a:Addr}{y v:V}{u r:Value}{o:149}{A:Around}{E:z0b}
def Inv.big (I:141):sysModules < s.heap.objs.size:=by
 have h:mainGlobals < s.heap.objs.size:=(I.mod.glob.keeps I.bk).lt;exact iK nofun h
def EW (hu:A.units+1 < cLine)(I:141)(g:cb H a y (some v))(ry:RelV y u)(h:∀w' s',Inv X ah σ H s'->RelV v w'->Q w' s') :
  wpAny 154 A (getItem (.ref a) u) Q E s:=by
 rcases g with ⟨kvs,k,e,ey,l⟩ | ⟨kvs,k,b,e,ey,eb,l⟩
 .subst ey;obtain⟨z,hd,vs,rel,dd⟩:=lY I.bI e;obtain⟨w',hw,wM⟩:=jB.some_of (v:=v) (o:=valueAt vs k) (by rw [l];exact rel.val k);exact wpAny_getItem_of (kF ry) dd.mapOf hw (h w' _ (I.tok _) wM)
 subst ey;cases (show u=Value.ref b from ry);obtain⟨z,hd,xs,rel,dd⟩:=pS I.bI e;obtain⟨w',hw,wM⟩:=jB.some_of (v:=v) (o:=(atKey xs k).map (·.2)) (by rw [l];exact rel.val k);obtain⟨p,hp,EB⟩:=bQ.mp hw;refine wpAny_getItem_heap (j5 hu) (jA I.bI eb) dd hp ?_;rw [EB];exact h w' _ (I.tok _) wM
def YL (hu:A.units+1 < cLine)(I:141)(g:cb H a y o)(ry:RelV y u)(h:∀s',Inv X ah σ H s'->Q (.bool o.isSome) s') :
  wpAny 154 A (compareOp .In u (.ref a)) Q E s:=by
 rcases g with ⟨kvs,k,e,ey,l⟩ | ⟨kvs,k,b,e,ey,eb,l⟩
 .subst ey;obtain⟨z,hd,vs,rel,dd⟩:=lY I.bI e;refine wpAny_in_of (kF ry) hd dd.mapOf ?_;rw [<-(rel.val k).i9,<-l];exact h _ (I.tok _)
 subst ey;cases (show u=Value.ref b from ry);obtain⟨z,hd,xs,rel,dd⟩:=pS I.bI e;refine wpAny_in_heap (j5 hu) (jA I.bI eb) hd dd ?_;have q:=(rel.val k).i9;rw [mv] at q;rw [<-q,<-l];exact h _ (I.tok _)
def K4 (hu:A.units+1 < cLine)(I:141)(g:cb H a y o)(ry:RelV y u)(h:∀s',Inv X ah σ H s'->Q (.bool (!o.isSome)) s') :
  wpAny 154 A (compareOp .NotIn u (.ref a)) Q E s:=by
 rcases g with ⟨kvs,k,e,ey,l⟩ | ⟨kvs,k,b,e,ey,eb,l⟩
 .subst ey;obtain⟨z,hd,vs,rel,dd⟩:=lY I.bI e;refine wpAny_notIn_of (kF ry) hd dd.mapOf ?_;rw [<-(rel.val k).i9,<-l];exact h _ (I.tok _)
 subst ey;cases (show u=Value.ref b from ry);obtain⟨z,hd,xs,rel,dd⟩:=pS I.bI e;refine wpAny_notIn_heap (j5 hu) (jA I.bI eb) hd dd ?_;have q:=(rel.val k).i9;rw [mv] at q;rw [<-q,<-l];exact h _ (I.tok _)
def og {h':Heap}(I:141)(mu:TB (H a))(hs:Heap.SameBut a s.heap h')(he:∃q,h'.get? a=some q)(new:bO X.prog X.w (upd H a ob) h' a ob) :
  Inv X ah σ (upd H a ob) { s with heap:=h',toks:=t' } :=
 I.write (x:=a) (e:=a) mu (.inl rfl) (λb q hb z=>(hs.2 b hb).trans z) he new
def sJ {h':Heap}{kvs:139}(z:kvs.length<=sizeLine)(hd:(a == sysModules)=false)(rel:KV kvs vs)(dd:h'.DictOf (aI P w) a vs) :
  bO P w H' h' a (.dK kvs):=⟨z,hd,vs,rel,dd⟩
def EV {Q:Unit->151}(hu:A.units+1 < cLine)(I:141)(g:tK H a y v H')(ry:RelV y u)(rv:RelV v r)(h:∀s',Inv X ah σ H' s'->Q () s') :
  wpAny 154 A (setItem (.ref a) u r) Q E s:=by
 rcases g with ⟨kvs,k,e,ey,l,eH⟩ | ⟨kvs,k,b,e,ey,eb,l,eH⟩
 .subst ey eH;obtain⟨z,hd,vs,rel,dd⟩:=zh I.bI e;have hz:vs.length<=sizeLine:=by rw [<-rel.length];exact z
  have hl:(bx kvs k v).length<=sizeLine:=by have:=di kvs k v;omega
  refine wpAny_setItem_pairs (hsz:=hz) (kF ry) dd λh' BV hs=>h _ ?_;have he:∃q,h'.get? a=some q:=let ⟨q,_,_,hq,_⟩:=BV;⟨q,hq⟩;exact og I (by rw [e];exact True.intro) hs he (sJ hl hd (rel.put k rv) BV)
 subst ey eH;cases (show u=Value.ref b from ry);obtain⟨z,hd,xs,rel,dd⟩:=Mj I.bI e;have hz:xs.length<=sizeLine:=by rw [<-a9 rel];exact z
 have hl:(bx kvs k v).length<=sizeLine:=by have:=di kvs k v;omega
 refine wpAny_setItem_heap (hsz:=hz) (j5 hu) (jA I.bI eb) dd λh' BV hs=>h _ ?_;obtain⟨q,es,ep,hq,h2,h3,h4,_,h5⟩:=BV;refine og I (by rw [e];exact True.intro) hs ⟨q,hq⟩ ⟨hl,hd,_,(rel.put k eb rv).keeps λc ys ec=>?_,q,es,ep,hq,h2,h3,h4,h5⟩;rw [ai (Ho ec e (λz=>nomatch z))];exact ec
end
section
variable {X:Cx}{ah:z0e}{σ:St}{H:Hp}{s:Shared}{a:Addr}{kvs:139}{k:aL}{u:Value}{A:Around}{E:z0b}
def Tb (I:141)(e:Rd H a (.dK kvs))(h:∀t s',Inv X ah σ H s'->Q (.int kvs.length t) s'):wpAny 154 A (call (.builtin "len") [.ref a]) Q E s:=by
 obtain⟨z,hd,vs,rel,dd⟩:=lY I.bI e;refine call_len_dict hd dd (by rw [<-rel.length];rw [fO] at z;omega) ?_;rw [<-rel.length];exact h _ _ (I.tok _)
end
def Tz (i:Expr):Prop:=∀ov iv,subscripted i false ov iv=operate [ov,iv] (getItem ov iv)
def Cr {E:z0b}{T id:String}
  (hl:typeLookup (.type T) "__getitem__"=pure (some (.builtin id)))(hs:Tz slice)
  (h:wpAny 182 A (eval value env) (λo s₁=>wpAny 182 A (eval slice env) (λi s₂=>s₂.TypeIs o T/\wpAny 182 A (getItem o i) Q E s₂) E s₁) E s) :
  wpAny 182 A (eval (.Subscript value slice pos) env) Q E s:=by
 refine Subscript_ (dw h (λo s₁ h₁=>dw h₁ (λi s₂ h₂=>?_) λ_ _ x=>x) λ_ _ x=>x);obtain⟨hT,h₂⟩:=h₂;unfold subscriptTail;refine ao ?_;rw [getitemInPython_of_ne hT.not_modules];refine ao (mn hT hl ?_);have fin:wpAny 182 A (subscripted slice false o i) (λr s₃=>wpAny 182 A (letTemporaryGo value o r >>= λ_=>pure r) Q E s₃) E s₂:=by
  rw [hs o i];exact wpAny_operating (dw h₂ (λr s₃ h₃=>ao (wpAny_letTemporaryGo (ax h₃))) λ_ _ x=>x)
 first
  | exact ax (ao fin)
  | exact ao (ax (ao fin))
  | exact ao fin
def zm {σ:St}{s:Shared}{a:Addr}{o:149}(I:141)(g:cb H a y o):s.TypeIs (.ref a) "dict" := by
 rcases g with ⟨kvs,k,e,_,_⟩ | ⟨kvs,k,b,e,_,_,_⟩
 .obtain⟨_,_,vs,_,dd⟩:=lY I.bI e;exact dd.typeIs
 obtain⟨_,_,xs,_,dd⟩:=pS I.bI e;exact dd.typeIs
inductive XDp (x:V)(S:Addr->143)(R:143):Prop
|mk(a:Addr)(H4:Hp)(e:x=.ref a)(s:S a H4)(q:R H4)
inductive Zg (S:149->Prop)(R:149->Prop):Prop
|mk(o:149)(s:S o)(q:R o)
inductive XDg (x:V)(S:Addr->V->Prop)(R:V->Prop):Prop
|mk(a:Addr)(v:V)(e:x=.ref a)(s:S a v)(q:R v)
inductive Zh (x:V)(S:Addr->149->Prop)(R:149->Prop):Prop
|mk(a:Addr)(o:149)(e:x=.ref a)(s:S a o)(q:R o)
def Co (td ty:TE):TE:=λσ H Q=>td σ H λx H1=>ty σ H1 λy H2=>XDg x (λa v=>cb H2 a y (some v)) λv=>Q v H2
def Qx (ty td:TE):TE:=λσ H Q=>ty σ H λy H1=>td σ H1 λx H2=>Zh x (λa o=>cb H2 a y o) λo=>Q (.bl o.isSome) H2
def Cn (ty td:TE):TE:=λσ H Q=>ty σ H λy H1=>td σ H1 λx H2=>Zh x (λa o=>cb H2 a y o) λo=>Q (.bl (!o.isSome)) H2
def QL (td ty tv:TE):TS:=λD σ H=>tv σ H λv H1=>td σ H1 λx H2=>ty σ H2 λy H3=>XDp x (λa H4=>tK H3 a y v H4) λH4=>D.nx σ H4
section
variable {X:Cx}{o i e value:Expr}{pos pos' An:Pos}{td ty tv:TE}
def dO (hu:X.A.units+1 < cLine)(ho:PE X o td)(hi:PE X i ty)(hs:Tz i):PE X (.Subscript o i pos) (Co td ty):=by
 intro ah s σ H Q I h;refine Cr PySem.F.slot_dict_getitem.lookup hs (cM (ho ah s σ H _ I h) λu s1 aW=>?_);obtain⟨x,H1,I1,rx,q1⟩:=aW;refine cM (hi ah s1 σ H1 _ I1 q1) λiv s2 aW=>?_;obtain⟨y,H2,I2,ry,a,v,ex,g,q2⟩:=aW;subst ex;obtain rfl:u=Value.ref a:=rx;exact⟨zm I2 g,EW hu I2 g ry λw' s3 I3 wM=>⟨v,H2,I3,wM,q2⟩⟩
def mD (hu:X.A.units+1 < cLine)(hi:PE X i ty)(ho:PE X o td):PC X .In i o (Qx ty td):=by
 intro ah s σ H Q I h;refine cM (hi ah s σ H _ I h) λiv s1 aW=>?_;obtain⟨y,H1,I1,ry,q1⟩:=aW;refine cM (ho ah s1 σ H1 _ I1 q1) λu s2 aW=>?_;obtain⟨x,H2,I2,rx,a,ov,ex,g,q2⟩:=aW;subst ex;obtain rfl:u=Value.ref a:=rx;exact YL hu I2 g ry λs3 I3=>⟨.bl ov.isSome,H2,I3,rfl,q2⟩
def dX (hu:X.A.units+1 < cLine)(hi:PE X i ty)(ho:PE X o td):PC X .NotIn i o (Cn ty td):=by
 intro ah s σ H Q I h;refine cM (hi ah s σ H _ I h) λiv s1 aW=>?_;obtain⟨y,H1,I1,ry,q1⟩:=aW;refine cM (ho ah s1 σ H1 _ I1 q1) λu s2 aW=>?_;obtain⟨x,H2,I2,rx,a,ov,ex,g,q2⟩:=aW;subst ex;obtain rfl:u=Value.ref a:=rx;exact K4 hu I2 g ry λs3 I3=>⟨.bl (!ov.isSome),H2,I3,rfl,q2⟩
def gW (hu:X.A.units+1 < cLine)(ho:PE X o td)(hi:PE X i ty)(hv:PE X value tv)(hs:swapsWith value (some (.Subscript o i pos')) pos.line X.env=pure false) :
  PS X (.Assign [.Subscript o i pos'] value pos) (QL td ty tv):=by
 intro ah s σ H D I h;refine wpAny_Assign_Subscript (cM (hv ah s σ H _ I h) λr s1 aW=>?_) hs;obtain⟨v,H1,I1,rv,q1⟩:=aW;refine cM (ho ah s1 σ H1 _ I1 q1) λu s2 aW=>?_;obtain⟨x,H2,I2,rx,q2⟩:=aW;refine cM (hi ah s2 σ H2 _ I2 q2) λiv s3 aW=>?_;obtain⟨y,H3,I3,ry,a,H4,ex,g,q3⟩:=aW;subst ex;obtain rfl:u=Value.ref a:=rx;exact EV hu I3 g ry rv λs4 I4=>⟨σ,H4,I4,q3⟩
end
def zk (h:Heap)(hb:sysModules < h.objs.size):bO P w H (h.push 458) h.objs.size (.dK []) :=
 ⟨cY _,iZ.mpr (cV (aR hb)),[],.nil,Heap.DictOf.new h⟩
def ID (h:Heap)(hb:sysModules < h.objs.size):bO P w H (h.push 458) h.objs.size (.dT []) :=
 ⟨cY _,iZ.mpr (cV (aR hb)),[],.nil,_,#[],0,bB _ rfl,⟨rfl,rfl,rfl⟩,rfl,rfl,jn⟩
def FX:TE:=λ_ H Q=>∀p,H p=none->Q (.ref p) (upd H p (.dK []))
def MQ:TE:=λ_ H Q=>∀p,H p=none->Q (.ref p) (upd H p (.dT []))
section
variable {X:Cx}{pos:Pos}
def fV:PE X (.Dict [] [] pos) FX:=λah s σ H Q I h =>
 wpAny_Dict_empty ⟨186,_,I.laid (a:=s.heap.objs.size) (o:=.dK []) (t':=s.toks) (λ_ _ q=>a0 _ q) (aH _) (zk s.heap I.big),rfl,h _ (I.bI.fresh (aH _))⟩
def GO:PE X (.Dict [] [] pos) MQ:=λah s σ H Q I h =>
 wpAny_Dict_empty ⟨186,_,I.laid (a:=s.heap.objs.size) (o:=.dT []) (t':=s.toks) (λ_ _ q=>a0 _ q) (aH _) (ID s.heap I.big),rfl,h _ (I.bI.fresh (aH _))⟩
end
def Ao:List (TE×TE)->St->Hp->(List (V×V)->143)->Prop
 | [],_,H,Q=>Q [] H
 | (tk,tv)::r,σ,H,Q=>tk σ H λx H1=>tv σ H1 λy H2=>Ao r σ H2 λps H3=>Q ((x,y)::ps) H3
abbrev VV:List (V×V)->List (Value×Value)->Prop:=Paired λp q=>RelV p.1 q.1/\RelV p.2 q.2
def Ve (X:Cx)(pos:Pos)(keys:List (Option Expr))(values:z0q)(MK:List (TE×TE)):Prop :=
 ∀(ah:z0e)(s:Shared)(σ:St)(H:Hp)(Q:List (V×V)->143),141->Ao MK σ H Q ->
  wpAny 154 X.A (evalPairs (pairTrees keys values X.env pos)) (λvs s'=>∃ps H',Inv X ah σ H' s'/\VV ps vs/\Q ps H') X.xe s
def CQ:Ve X pos [] [] []:=λah s σ H Q I h=>pairTrees_nil_walk ⟨[],H,I,.nil,h⟩
def nN {k v:Expr}{ks:List (Option Expr)}{tk tv:TE}(hk:PE X k tk)(hv:PE X v tv)(hr:Ve X pos ks vs MK) :
  Ve X pos (some k::ks) (v::vs) ((tk,tv)::MK):=λah s σ H Q I h =>
 pairTrees_cons_walk (cM (hk ah s σ H _ I h) λu s1 ⟨x,H1,I1,rx,q1⟩=>cM (hv ah s1 σ H1 _ I1 q1) λw2 s2 ⟨y,H2,I2,ry,q2⟩ =>
  cM (hr ah s2 σ H2 _ I2 q2) λws s3 ⟨ps,H3,I3,rel,q3⟩=>⟨(x,y)::ps,H3,I3,.cons ⟨rx,ry⟩ rel,q3⟩)
def ku (kvs more:139):139:=more.foldl (λbz kv=>bx bz kv.1 kv.2) kvs
def KV.merge:∀{more:139}{rs:List (aL×Value)}{kvs:139}{vs:List (aL×Value)},KV more rs->KV kvs vs->KV (ku kvs more) (merged vs rs):=by
 intro more rs kvs vs r;unfold KV at r
 induction r generalizing kvs vs with
 | nil=>intro q;exact q
 | @cons p q ps qs h t ih =>
  intro r0;have e:KV (bx kvs p.1 p.2) (stored vs q.1 q.2):=by
   have:=r0.put p.1 h.2;rw [<-h.1];exact this
  exact ih e
theorem lW:∀(more kvs:139),(ku kvs more).length<=kvs.length+more.length
 | [],kvs=>by show kvs.length<=kvs.length+0;omega
 | p::r,kvs=>by
  have h1:=lW r (bx kvs p.1 p.2);have h2:=di kvs p.1 p.2;show (ku (bx kvs p.1 p.2) r).length<=_;rw [dW];omega
theorem sX:∀{kvs:139}{ws:List (Value×Value)},VV (kvs.map λkv=>(kV kv.1,kv.2)) ws->∃rs,Carries (aI P w) ws rs/\KV kvs rs
 | [],_,r=>by rw [jj] at r;cases r;exact⟨[],True.intro,.nil⟩
 | p::kvs,_,r=>by
  rw [bY] at r;cases r with
  | @cons a b as bs h t =>
   obtain⟨rs,c,q⟩:=sX (P:=P) (w:=w) t;obtain⟨b1,b2⟩:=b;exact⟨(p.1,b2)::rs,⟨kF h.1,rfl,c⟩,.cons ⟨rfl,h.2⟩ q⟩
def Qv (MK:List (TE×TE)):TE:=λσ H Q=>∀p,H p=none->Ao MK σ (upd H p (.dK [])) λps H2=>H2 p=some (.dK [])/\∃kvs:139,ps=kvs.map (λkv=>(kV kv.1,kv.2))/\kvs.length<=15/\Q (.ref p) (upd H2 p (.dK (ku [] kvs)))
def C0 {keys:List (Option Expr)}{values:z0q}(h:Ve X pos keys values MK)(iR:keys.all (·.isSome)=true)(hl:keys.length=values.length)(h0:keys≠[])
  (X_:keys.length<=15):PE X (.Dict keys values pos) (Qv MK):=by
 intro ah s σ H Q I q;have hn:=I.bI.fresh (aH s.heap.objs.size);have I1:=I.laid (a:=s.heap.objs.size) (o:=.dK []) (h':=s.heap.push 458) (t':=s.toks) (λ_ _ q=>a0 _ q) (aH _) (zk s.heap I.big);refine wpAny_Dict_walk (knd:=aI X.prog X.w) iR hl h0 X_ (cM (h ah _ σ _ _ I1 (q _ hn)) λws s2 aW=>?_);obtain⟨ps,H2,I2,rel,e,kvs,ep,lk,q2⟩:=aW;subst ep;obtain⟨rs,c,rk⟩:=sX (P:=X.prog) (w:=X.w) rel;obtain⟨z,hd,vs0,r0,dd⟩:=zh I2.bI e;cases r0;refine⟨rs,c,dd,λh' BV hs=>⟨186,_,?_,rfl,q2⟩⟩;have hz:(ku [] kvs).length<=sizeLine:=by
  have h1:=lW kvs [];rw [jD] at h1;rw [fO];omega
 have he:∃q,h'.get? s.heap.objs.size=some q:=let ⟨q,_,_,hq,_⟩:=BV;⟨q,hq⟩;exact og I2 (by rw [e];exact True.intro) hs he (sJ hz hd (rk.merge .nil) BV)
structure M1 (X:Cx)(o:Expr)(m:Str)(apos:Pos)(e:Expr)(eD:Pos):Prop where
 base:attributeBase o m X.env (eval o X.env)=eval o X.env
 Iu:((backTo eD (starEach [e] X.env)).all (λx=>!x.1) && (backToKw eD (keywordEach [] X.env)).all (λx=>x.1.isSome)
  && decide (([e]:z0q).length+([]:List Keyword).length+(if ([]:List Keyword).isEmpty then 0 else 1) < 30))=true
 line:(apos.endLine == eD.line)=true
 trees:backTo eD (starEach [e] X.env)=[(false,eval e X.env)]
structure M2 (X:Cx)(o:Expr)(m:Str)(apos:Pos)(e f:Expr)(eD:Pos):Prop where
 base:attributeBase o m X.env (eval o X.env)=eval o X.env
 Iu:((backTo eD (starEach [e,f] X.env)).all (λx=>!x.1) && (backToKw eD (keywordEach [] X.env)).all (λx=>x.1.isSome)
  && decide (([e,f]:z0q).length+([]:List Keyword).length+(if ([]:List Keyword).isEmpty then 0 else 1) < 30))=true
 line:(apos.endLine == eD.line)=true
 trees:backTo eD (starEach [e,f] X.env)=[(false,eval e X.env),(false,eval f X.env)]
def Qa (H:Hp)(a:Addr):Prop:=(∃kvs,Rd H a (.dK kvs))\/∃kvs,Rd H a (.dT kvs)
def rX {σ:St}{s:Shared}{a:Addr}(I:141)(d:Qa H a) :
  s.TypeIs (.ref a) "dict" /\ (∀b,Value.ref a=.ref b->∃ob,s.heap.get? b=some ob/\ob.dict=none)/\(a == sysModules)=false:=by
 rcases d with ⟨kvs,e⟩ | ⟨kvs,e⟩
 .obtain⟨_,hd,vs,_,dd⟩:=lY I.bI e;refine⟨dd.typeIs,λb q=>?_,hd⟩;cases q;obtain⟨ob,_,_,h1,h2,_⟩:=dd;exact⟨ob,h1,h2.2.1⟩
 obtain⟨_,hd,xs,_,dd⟩:=pS I.bI e;refine⟨dd.typeIs,λb q=>?_,hd⟩;cases q;obtain⟨ob,_,_,h1,h2,_⟩:=dd;exact⟨ob,h1,h2.2.1⟩
section
variable {X:Cx}{ah:z0e}{σ:St}{H:Hp}{s:Shared}{a:Addr}{y d:V}{u r:Value}{o:149}{A:Around}{E:z0b}
def OL (hu:A.units+1 < cLine)(I:141)(g:cb H a y o)(ry:RelV y u)(h:∀w' s',Inv X ah σ H s'->RelV (o.getD .dY) w'->Q w' s') :
  wpAny 154 A (call (.builtin "dict.get") [.ref a,u]) Q E s:=by
 rcases g with ⟨kvs,k,e,ey,l⟩ | ⟨kvs,k,b,e,ey,eb,l⟩
 .subst ey;obtain⟨z,hd,vs,rel,dd⟩:=lY I.bI e;refine call_meetsIn oP dd.typeIs vR (PySem.F.args_dict_get_2 _ _) (meets_dict_get (aI X.prog X.w) a (kF ry) hd) ⟨_,dd.mapOf,h _ _ (I.tok _) ?_⟩;rw [l];exact(rel.val k).getD rfl
 subst ey;cases (show u=Value.ref b from ry);obtain⟨z,hd,xs,rel,dd⟩:=pS I.bI e;refine call_meetsIn oP dd.typeIs vR (PySem.F.args_dict_get_2 _ _) (meetsH_dict_get (tupleKind (aI X.prog X.w)) a b hd) ⟨j5 hu,k,xs,jA I.bI eb,dd,h _ _ (I.tok _) ?_⟩;rw [l];exact(rel.val k).getD rfl
def OK (hu:A.units+1 < cLine)(I:141)(g:cb H a y o)(ry:RelV y u)(rd:RelV d r)(h:∀w' s',Inv X ah σ H s'->RelV (o.getD d) w'->Q w' s') :
  wpAny 154 A (call (.builtin "dict.get") [.ref a,u,r]) Q E s:=by
 rcases g with ⟨kvs,k,e,ey,l⟩ | ⟨kvs,k,b,e,ey,eb,l⟩
 .subst ey;obtain⟨z,hd,vs,rel,dd⟩:=lY I.bI e;refine call_meetsIn oP dd.typeIs vR (PySem.F.args_dict_get_3 _ _ _) (meets_dict_get_default (aI X.prog X.w) a (kF ry) hd r) ⟨_,dd.mapOf,h _ _ (I.tok _) ?_⟩;rw [l];exact(rel.val k).getD rd
 subst ey;cases (show u=Value.ref b from ry);obtain⟨z,hd,xs,rel,dd⟩:=pS I.bI e;refine call_meetsIn oP dd.typeIs vR (PySem.F.args_dict_get_3 _ _ _) (meetsH_dict_get_default (tupleKind (aI X.prog X.w)) a b hd r) ⟨j5 hu,k,xs,jA I.bI eb,dd,h _ _ (I.tok _) ?_⟩;rw [l];exact(rel.val k).getD rd
end
def MS (td ty:TE):TE:=λσ H Q=>td σ H λx H1=>Ts x (Qa H1) λa=>ty σ H1 λy H2=>Zg (cb H2 a y) λo=>Q (o.getD .dY) H2
def MR (td ty tx:TE):TE:=λσ H Q=>td σ H λx H1=>Ts x (Qa H1) λa=>ty σ H1 λy H2=>tx σ H2 λz H3=>Zg (cb H3 a y) λo=>Q (o.getD z) H3
section
variable {X:Cx}{o e f:Expr}{apos eD:Pos}{td ty tx:TE}
def GV (hu:X.A.units+1 < cLine)(ho:PE X o td)(he:PE X e ty)(m:M1 X o "get" apos e eD):PE X (.Call (.Attribute o "get" apos) [e] [] eD) (MS td ty):=by
 intro ah s σ H Q I h;refine oE m.base m.Iu m.line qV oP PySem.F.type_dict_get (cM (ho ah s σ H _ I h) λu s1 aW=>?_);obtain⟨x,H1,I1,rx,a,ex,d,q1⟩:=aW;subst ex;obtain rfl:u=Value.ref a:=rx;obtain⟨t1,t2,_⟩:=rX I1 d;refine⟨t1,t2,?_⟩;rw [m.trees];refine qE rfl (oK (jQ (cM (he ah s1 σ H1 _ I1 q1) λiv s2 aW=>?_)));obtain⟨y,H2,I2,ry,ov,g,q2⟩:=aW;refine jZ ?_;exact OL hu I2 g ry λw' s3 I3 wM=>⟨_,H2,I3,wM,q2⟩
def GU (hu:X.A.units+1 < cLine)(ho:PE X o td)(he:PE X e ty)(hf:PE X f tx)(m:M2 X o "get" apos e f eD):PE X (.Call (.Attribute o "get" apos) [e,f] [] eD) (MR td ty tx):=by
 intro ah s σ H Q I h;refine oE m.base m.Iu m.line qV oP PySem.F.type_dict_get (cM (ho ah s σ H _ I h) λu s1 aW=>?_);obtain⟨x,H1,I1,rx,a,ex,d,q1⟩:=aW;subst ex;obtain rfl:u=Value.ref a:=rx;obtain⟨t1,t2,_⟩:=rX I1 d;refine⟨t1,t2,?_⟩;rw [m.trees];refine qE rfl (oK (jQ (cM (he ah s1 σ H1 _ I1 q1) λiv s2 ⟨y,H2,I2,ry,q2⟩ =>
  jQ (cM (hf ah s2 σ H2 _ I2 q2) λfv s3 ⟨z,H3,I3,rz,ov,g,q3⟩=>jZ ?_))))
 exact OK hu I3 g ry rz λw' s4 I4 wM=>⟨_,H3,I4,wM,q3⟩
end
section
variable {X:Cx}{ah:z0e}{σ:St}{H:Hp}{s:Shared}{a:Addr}{kvs:139}{A:Around}{E:z0b}
end
section
variable {X:Cx}{ah:z0e}{σ:St}{H:Hp}{s:Shared}{a:Addr}{y:V}{u:Value}{A:Around}{E:z0b}
end
open PySem
def xg:typeLookup (.type "list") "keys"=pure none:=by rw [typeLookup_type,vI];kernel_rfl
def xi:typeLookup (.type "list") "__getattr__"=pure none:=by rw [typeLookup_type,vI];kernel_rfl
section
variable {prog:Program}{w:World}{A:Around}{E:z0b}{h:Heap}{g:Array GenState}{d:Drawn}{t:Nat}{os:OsState}{a:Addr}{o:Obj}
def F1:isSubtype (.type "AttributeError") (.type "AttributeError")=pure true:=by rw [isSubtype_type];kernel_rfl
def Nm {tk:Tok}:ownMembersOf (.type "AttributeError") [.str m tk]=#[unsetMember,unsetMember]:=by kernel_rfl
def Ir {tk:Tok}:firstArgMember (.type "AttributeError") [.str m tk]=pure .none:=by kernel_rfl
def AO {α:Type}{self:Value}{name msg:Str}{Q:α->151}(hm:msg.length<=sizeLine)(hh:A.handled=none)
  (hq:∀h' t' e oe,(∀b o,h.get? b=85->h'.get? b=85)->h'.get? e=some oe->oe.cls=.type "AttributeError" -> E (.ref e) ⟨h',g,d,t',os⟩) :
  wpAny 182 A (raiseAttrError self name msg) Q E ⟨h,g,d,t,os⟩:=by
 have f1:=F1;unfold raiseAttrError newExc;refine ao (wpAny_mkStr ?_ hm);have fe:=Ir (m:=msg) (tk:=t);rw [Nm]
 repeat (any_goals (first | assumption | wp_step))
 unfold raiseNew;refine ao (wpAny_handled ?_);rw [hh];refine ao (ax ?_);refine wpAny_throw ?_;refine hq _ _ _ _ (λb o q=>?_) (mY _ (bB _ rfl) rfl) rfl;have lt:=aP q;rw [vL _ _ (by rw [iW];exact gP (mV lt))];exact a0 _ (a0 _ q)
def Bo {tk:Tok}{Q:Fin->151}(hx:h.get? a=some { cls:=.type "list",data:=.seq aK n })(hh:A.handled=none)
  (hq:∀h' t' e oe,(∀b o,h.get? b=85->h'.get? b=85)->h'.get? e=some oe->oe.cls=.type "AttributeError" -> E (.ref e) ⟨h',g,d,t',os⟩) :
  wpAny 182 A (Builtin.«object.__getattribute__» ⟨[.ref a,.str "keys" tk],[]⟩) Q E ⟨h,g,d,t,os⟩:=by
 have hT:(⟨h,g,d,t,os⟩:Shared).TypeIs (.ref a) "list" := ⟨_,hx,rfl⟩;have f4:=xg
 repeat (any_goals (first | assumption | wp_step))
 exact AO nofun hh hq
def o9 {Q:z0j->151}(hx:h.get? a=some { cls:=.type "list",data:=.seq aK n })(hh:A.handled=none)
  (hq:∀h' t',(∀b o,h.get? b=85->h'.get? b=85)->Q none ⟨h',g,d,t',os⟩):wpAny 182 A (getAttr? (.ref a) "keys") Q E ⟨h,g,d,t,os⟩:=by
 have hT:∀t',(⟨h,g,d,t',os⟩:Shared).TypeIs (.ref a) "list" := λt'=>⟨_,hx,rfl⟩;have f1:=F1;have f2:=vQ.lookup;have f3:=vQ.bind (.ref a);have f4:=xi;unfold getAttr? getAttrBy? getAttrBy;refine ao (wpAny_mkText (ao (iM (fJ (ao (iI (hT _) ?_))))));rw [f2];refine ao (ax ?_);show wpAny _ _ (getAttrByItsOwn _ _ _ _ _ _) _ _ _;unfold getAttrByItsOwn;refine ao (ax (a:=none) (ao (iM (fJ ?_))));show wpAny _ _ (boundAndCalled _ _ _) _ _ _;unfold boundAndCalled;rw [f3];refine ao (ax (jS (vB vQ.plain F.entry_list_ga (vQ.check _ _ _ _ _ _ _ _ (hT _) (F.args_list_getattribute_2 _ _) (Bo hx hh λh' t' e oe k ee ec=>?_)))));have te:(⟨h',g,d,t',os⟩:Shared).TypeIs (.ref e) "AttributeError" := ⟨oe,ee,ec⟩;show wpAny _ _ (getattributeRaised _ _ _ _ _ _ _) _ _ _;unfold getattributeRaised;refine ao (jN te f1 ?_);rw [au rfl];show wpAny _ _ (typeLookup _ _ >>= _) _ _ _;rw [f4];refine ao (ax ?_);show wpAny _ _ (throw _) _ _ _;refine wpAny_throw ?_;refine ao (jN te f1 ?_);rw [au rfl];exact ax (hq h' t' k)
end
def eK:plainId "dict.update.loop"=true:=by decide +kernel
def lD:entryFor table "dict.update.loop"=some Builtin.«dict.update.loop»:=entryFor_of_tree (nofun)
section
variable {prog:Program}{w:World}{K:Type} [DecidableEq K] {knd:KeyKind prog w K}{A:Around}{E:z0b}
def mQ (knd:KeyKind prog w K)(h:Heap)(u:Value)(kv:K×Value):Prop :=
 ∃t key n o,u=.ref t/\knd.is kv.1 key=true/\h.get? t=85/\o.cls=183 /\ o.data=.seq #[key,kv.2] n
def mQ.keep {h h':Heap}{u:Value}(p:mQ knd h u kv)(k:∀b o,o.cls=183 -> h.get? b=85->h'.get? b=85):mQ knd h' u kv :=
 let ⟨t,key,n,o,a,b,c,d,e⟩:=p;⟨t,key,n,o,a,b,k t o d c,d,e⟩
def IC {R:Result->151}{d it l:Addr}{items:z0k}(hh:A.handled=none):∀(more:List (K×Value)) (i:Nat)(s:Shared)(kvs:List (K×Value)) (j:Int)(tk:Tok),items.size=i+more.length ->
  s.heap.DictOf knd d kvs->s.heap.IsListIter it l i->s.heap.IsList l items->(∀m kv,more[m]?=some kv->∃u,items[i+m]?=some u/\mQ knd s.heap u kv)->kvs.length+more.length<=sizeLine ->
  (∀h' t',h'.DictOf knd d (more.foldl (λa p=>stored a p.1 p.2) kvs)->(∀b o,b≠d->b≠it->160->h'.get? b=85)->R (.ok (.ret .none)) { s with heap:=h',toks:=t' }) ->
  codeAny 182 A (.builtin "dict.update.loop" ⟨[.ref d,.ref it,.int j tk,.none],[]⟩) R s:=by
 intro more
 induction more with
 | nil =>
  intro i s kvs j tk hi hd hit hl hp hz hR;refine jM lD ?_;rw [lM eK _];unfold Builtin.«dict.update.loop»;have hs:items[i]?=none:=oQ (by rw [hi];exact aH _);refine ao (vK hh hit hl hs λh1 eb=>?_);have nd:d≠it:=λz=>by
   obtain⟨o,_,_,q,_,c,_⟩:=hd;obtain⟨o',q',_,c'⟩:=hit;rw [z,q'] at q;cases q;rw [c'] at c;cases c
  show wpAny _ _ (Builtin.Dict.addKeywords d [] >>= _) _ _ _;exact ao (ax (ax (hR h1 s.toks (hd.extBut eb nd) λb o n1 n2 q=>eb b o n2 q)))
 | cons kv more ih =>
  intro i s kvs j tk hi hd hit hl hp hz hR;refine jM lD ?_;rw [lM eK _];unfold Builtin.«dict.update.loop»;obtain⟨u,hu,t,key,n,o,rfl,hk,ho,hc,qc⟩:=hp 0 kv rfl;refine ao (wpAny_pyNext_list_item hit hl hu λh1 WY sb=>?_);have nd:d≠it:=λz=>by
   obtain⟨o,_,_,q,_,c,_⟩:=hd;obtain⟨o',q',_,c'⟩:=hit;rw [z,q'] at q;cases q;rw [c'] at c;cases c
  have n2:∀b o,(o.cls=183 \/ o.cls=.type "list")->160->b≠d/\b≠it:=by
   intro b o c q;constructor
   .intro z;obtain⟨o',q',c'⟩:=hd.typeIs;rw [z,q'] at q;cases q;rw [c'] at c;rcases c with c | c <;> exact absurd c nofun
   intro z;obtain⟨o',q',c',_⟩:=hit;rw [z,q'] at q;cases q;rw [c'] at c;rcases c with c | c <;> exact absurd c nofun
  have nt:∀b o,o.cls=183 -> 160->b≠d/\b≠it:=λb o c q=>n2 b o (.inl c) q;have nl:l≠d/\l≠it:=by
   obtain⟨o,q,c,_⟩:=hl;exact n2 l o (.inr c) q
  have Ft:h1.get? t=85:=(sb.2 t (nt t o hc ho).2).trans ho;have XR:h1.DictOf knd d kvs:=hd.sameBut sb nd;refine ao (fJ (ao (wpAny_tryCatch ?_)));unfold Builtin.Dict.pairItems;refine ao (iI (T := "tuple") ⟨o,Ft,hc⟩ ?_);rw [au nofun];refine ao (jC Ft qc (ax ?_));show wpAny _ _ (holding [key,kv.2] (dictSet d key kv.2)) _ _ _;rw [dW] at hz hi;refine fJ (wpAny_dictSet_pairs (s:={ s with heap:=h1 }) hk XR (λh2 hd2 QJ=>?_) ∅);have kk:∀b o,b≠d->b≠it->160->h2.get? b=85:=λb o n1 n2 q=>(QJ.2 b n1).trans ((sb.2 b n2).trans q);have ln:(stored kvs kv.1 kv.2).length<=kvs.length+1:=by
   unfold stored
   split
   .simp
   simp
  refine ax ⟨iL eK _,ih (i+1) _ _ _ _ ∅ hd2 (WY.at λo q=>(QJ.2 it (cV nd)).trans q) (hl.at λo q=>kk l o nl.1 nl.2 q) (λm Ut e=>?_) ∅ λh3 t3 iQ k3=>?_⟩
  .obtain⟨u',e1,e2⟩:=hp (m+1) Ut e;exact⟨u',by rw [<-e1];congr 1;omega,e2.keep λb o c q=>kk b o (nt b o c q).1 (nt b o c q).2 q⟩
  exact hR h3 t3 iQ λb o n1 n2 q=>k3 b o n1 n2 (kk b o n1 n2 q)
def Ap:(Value.type "list" != Value.type "dict")=true:=by decide
def sY {s:Shared}{items:z0k}{more:List (K×Value)}(knd:KeyKind prog w K)(hh:A.handled=none)(hx:s.heap.get? l=some { cls:=.type "list",data:=.seq items n })
  (hi:items.size=more.length)(hp:∀(m:Nat) kv,more[m]?=some kv->∃u,items[m]?=some u/\mQ knd s.heap u kv)(hz:more.length<=sizeLine)
  (h:∀h' t',h'.DictOf knd s.heap.objs.size (more.foldl (λa p=>stored a p.1 p.2) [])->(∀b o,160->h'.get? b=85)->Q 398 { s with heap:=h',toks:=t' }) :
  wpAny 182 A (call (.type "dict") [.ref l]) Q E s:=by
 refine callType_codes (Q₁:=λobj s₁=>obj=186/\s₁={ s with heap:=s.heap.push 458 }) F.kt_called_dict (F.kt_typeCall_dict_1 _) F.entry_dict_init (kt_code_dict_new _ ⟨rfl,rfl⟩) ?_;rintro obj s₁ ⟨rfl,rfl⟩;have Bd:(s.heap.push 458).DictOf knd s.heap.objs.size []:=Heap.DictOf.new s.heap;have l0:=a0 458 hx;refine⟨Bd.typeIs,F.args_dict_init_2 _ _,?_⟩;unfold Builtin.«dict.__init__» Builtin.Dict.selfAndRest;refine ao (ao (oN Bd.typeIs (ax ?_)));show wpAny _ _ (Builtin.Dict.updateFrom "dict.__init__" s.heap.objs.size (.ref l) [] .none) _ _ _;unfold Builtin.Dict.updateFrom;refine ao (iI (T := "list") ⟨_,l0,rfl⟩ ?_);rw [au Ap];refine ao (o9 l0 hh λh1 t1 k1=>?_);refine ao (gN ?_);have l1:=k1 _ _ l0;refine ao (mr ⟨_,l1,rfl,_,rfl⟩ ?_);have k2:∀b o,160->(h1.push { cls:=.type "list_iterator",data:=.fields #[.ref l,.int 0 0] }).get? b=85:=λb o q=>a0 _ (k1 _ _ (a0 _ q));refine ax ⟨iL eK _,IC (knd:=knd) (A:=A.in1) (l:=l) (items:=items) (show A.in1.handled=none from hh) more 0 _ [] _ _ (by rw [hi,mh]) ?_ ⟨_,bB _ rfl,rfl,rfl⟩ ⟨_,k2 _ _ hx,rfl,n,rfl⟩ (λm kv e=>?_) (by simpa using hz) λh' t' hd k3=>?_⟩
 .obtain⟨o,es,ep,q,r⟩:=Bd;exact⟨o,es,ep,a0 _ (k1 _ _ q),r⟩
 .obtain⟨u,e1,e2⟩:=hp m kv e;exact⟨u,by rw [mh];exact e1,e2.keep λb o _ q=>k2 b o q⟩
 refine⟨rfl,h h' t' hd λb o q=>k3 b o (aR (aP q)) ?_ (k2 b o q)⟩;have:=aP (k1 _ _ (a0 458 q));exact aR this
end
def Fh (X:Cx)(ifs:z0q)(t:TT):Prop :=
 ∀(ah:z0e)(s:Shared)(σ:St)(H:Hp)(Q:Bool->143),141->t σ H Q ->
  wpAny 154 X.A (forIn ifs true λc r=>if r=true then do let ok <-isTrue c X.env (eval c X.env);pure (ForInStep.yield ok) else pure (ForInStep.yield r)) (TP X ah σ Q) X.xe s
def i3:TT:=λ_ H Q=>Q true H
def cQ:Fh X [] i3:=λ_ _ _ H _ I h=>wpAny_tests_nil ⟨H,I,h⟩
def eA {c:Expr}{t:TT}(h:PT X c t):Fh X [c] t:=λah s σ H Q I hw=>wpAny_tests_one (h ah s σ H Q I hw)
def pU {R:Result->151}(I:Nat->151)
  (turn:∀n s,I n s->wpAny 182 A (pyNext it) (λr s₁=>match r with
   | none=>R (.ok .next) s₁
   | some v=>wpAny 182 A (letOwnedTupleGo target it v) (λ_ s₁=>wpAny 182 A (assign target env v) (λ_ s₂ =>
     wpAny 182 A (forIn ifs true λc r=>if r=true then do let ok <-isTrue c env (eval c env);pure (ForInStep.yield ok) else pure (ForInStep.yield r)) (λok s₃ =>
      if ok=true then wpAny 182 A (eval elt env) (λx s₄ =>
       wpAny 182 A (call (.builtin "list.append") [bz,x]) (λ_ s₅=>∃m,m < n/\I m s₅) (λ_ _=>False) s₄) (λ_ _=>False) s₃
      else ∃m,m < n/\I m s₃) (λ_ _=>False) s₂) (λ_ _=>False) s₁) (λ_ _=>False) s₁) (λ_ _=>False) s)
  (n:Nat)(h:I n s) :
  codeAny 182 A (.compLoop (.ListComp elt [⟨target,iter,ifs,0⟩] scope pos) 0 it bz env) R s:=by
 refine codeAny_loop rfl I (λn s hI=>?_) n h;show wpAny _ A ((compTurn (.ListComp elt [⟨target,iter,ifs,0⟩] scope pos) 0 it bz env).onRaise (λx=>do noteFrame x env;theTreesLotGoes x)) _ _ s;refine wpAny_noted ?_;rw [compTurn_list];refine ao (wpAny_standAt (ao (dw (turn n s hI) (λr s₁ h₁=>?_) λ_ _ h'=>h'.elim)));cases r with
 | none=>exact ax h₁
 | some v =>
  refine ao (dw h₁ (λ_ s₂ h₂=>?_) λ_ _ h'=>h'.elim);refine ao (dw h₂ (λ_ s₂ h₂=>ao (dw h₂ (λok s₃ h₃=>?_) λ_ _ h'=>h'.elim)) λ_ _ h'=>h'.elim);cases ok with
  | false=>exact ax ⟨rfl,h₃⟩
  | true =>
   exact ao (ao (dw h₃ (λx s₄ h₄=>ao (dw h₄ (λ_ s₅ h₅=>ax (ax ⟨rfl,h₅⟩)) λ_ _ h'=>h'.elim)) λ_ _ h'=>h'.elim))
inductive zU (K:aU)(H:Hp):V->String->Prop where
 | bl (x:Bool):zU K H (.bl x) "bool"
 | int (i:Int):zU K H (.int i) "int"
 | str (x:Str):zU K H (.str x) "str"
 | tup {a:Addr}{xs:List V}(e:aQ K H a xs):zU K H (.ref a) "tuple"
inductive XIs (K:aU)(H:Hp)(xs:List V)(R:Bool->Prop):Prop
|mk(x:V)(T n:String)(b:Bool)(e:xs=[x,.ty n])(c:zU K H x T)(k:PySem.W.kitOne K (.type T) (.type n)=some b)(q:R b)
def zE {X:Cx}:gk X (.builtin "isinstance") (λxs H Q=>XIs X.K H xs λb=>Q (.bl b) H):=by
 intro ah s σ H xs us Q I r h;obtain⟨x,T,n,b,rfl,ty,e,q⟩:=h;obtain⟨u,w',rfl,rx,rn⟩:=vals2 r;cases (show w'=Value.type n from rn);have fin:∀tk,EP X ah σ Q (.bool b) { s with toks:=tk }:=λtk=>⟨.bl b,H,I.tok _,rfl,q⟩;cases ty with
 | bl y=>cases (show u=Value.bool y from rx);exact PySem.W.kia_one PySem.W.kitx_bool I.xp True.intro e (λz=>nomatch z) fin
 | int i=>obtain⟨t,z⟩:=(show ∃t,u=Value.int i t from rx);cases z;exact PySem.W.kia_one PySem.W.kitx_int I.xp True.intro e (λz=>nomatch z) fin
 | str y=>obtain⟨t,z⟩:=(show ∃t,u=Value.str y t from rx);cases z;exact PySem.W.kia_one PySem.W.kitx_str I.xp True.intro e (λz=>nomatch z) fin
 | @tup a ys hq =>
  cases (show u=Value.ref a from rx);obtain⟨aK,_,⟨o,h1,h2,_⟩,_⟩:=I.tuple hq;exact PySem.W.kia_one PySem.W.kitx_tuple I.xp ⟨o,h1,h2⟩ e (λz=>nomatch z) fin
def DX {X:Cx}{a:Expr}{ta:TE}(K:aU)(ha:PE X a ta)(he:∀whole,isTrue a X.env whole=(do let v <-whole;standAt a.pos;holding [v] (truthy v)))(hK:X.K=K:=by rfl) :
  PT X a (λσ H Q=>ta σ H λx H'=>∃k,I9 K x H' k/\Q k H'):=by
 subst hK;exact ig ha he
structure Li (env:Env)(scope:Scope)(cl:z0f):Prop where
 eq:closureFor scope env=pure cl
 sub:∀y c,cl.lookup y=some c->env.cells.lookup y=some c
 all:∀y,(y,NameKind.free)∈scope.names->∃c,cl.lookup y=some c
def jz {y n:Str}{c:Addr}{l:z0f}:((n,c)::l).lookup y=if y=n then some c else l.lookup y:=by
 by_cases h:y=n
 .rw [au h];simp [List.lookup,h]
 rw [ar h];simp [List.lookup,iZ.mpr h]
def xN {env:Env}{scope:Scope}(h:∀y,(y,NameKind.free)∈scope.names->∃c,env.cells.lookup y=some c):∃cl,Li env scope cl:=by
 have go:∀(names:List (Str×NameKind))(bz:z0f),(∀y,(y,NameKind.free)∈names->∃c,env.cells.lookup y=some c)->(∀y c,bz.lookup y=some c->env.cells.lookup y=some c) ->
   ∃cl,(forIn names bz λ(x:Str×NameKind)(cs:z0f)=>(if x.2 == .free then do let c <-cellOf env x.1;pure (ForInStep.yield ((x.1,c)::cs)) else pure (ForInStep.yield cs):Sem (ForInStep z0f)))=pure cl /\
    (∀y c,cl.lookup y=some c->env.cells.lookup y=some c)/\(∀y,(y,NameKind.free)∈names->∃c,cl.lookup y=some c)/\∀y c,bz.lookup y=some c->∃c',cl.lookup y=some c':=by
  intro names
  induction names with
  | nil=>intro bz _ hs;exact⟨bz,rfl,hs,λy hy=>absurd hy 88,λy c e=>⟨c,e⟩⟩
  | cons x r ih =>
   intro bz hf hs;obtain⟨n,k⟩:=x;rw [jX];by_cases hk:k=.free
   .subst hk;obtain⟨c0,e0⟩:=hf n bP;obtain⟨cl,e1,e2,e3,e4⟩:=ih ((n,c0)::bz) (λy hy=>hf y (b9 _ hy)) (λy c e=>by
     rw [jz] at e;by_cases z:y=n
     .rw [au z] at e;cases e;rw [z];exact e0
     rw [ar z] at e;exact hs y c e)
    refine⟨cl,?_,e2,λy hy=>?_,λy c e=>?_⟩
    .rw [<-e1];have:cellOf env n=pure c0:=by unfold cellOf;rw [e0]
     simp only [this];rfl
    .rcases aX.mp hy with z | z
     .cases z;exact e4 n c0 (by rw [jz,au rfl])
     exact e3 y z
    by_cases z:y=n
    .exact e4 y c0 (by rw [jz,au z])
    exact e4 y c (by rw [jz,ar z];exact e)
   obtain⟨cl,e1,e2,e3,e4⟩:=ih bz (λy hy=>hf y (b9 _ hy)) hs;refine⟨cl,?_,e2,λy hy=>?_,e4⟩
   .rw [<-e1];have:(k == NameKind.free)=false:=by simpa using hk
    simp only [this];rfl
   rcases aX.mp hy with z | z
   .cases z;exact absurd rfl hk
   exact e3 y z
 obtain⟨cl,e1,e2,e3,_⟩:=go scope.names [] h (λy c e=>by simp at e);refine⟨cl,?_,e2,e3⟩;unfold closureFor;exact Eq.trans (congrArg (λt:Sem z0f=>t >>= λcs=>pure cs) e1) rfl
def wQ {scope:Scope}{env:Env}{y:Str}(hk:env.scope.kind=.function)(hy:scope.names.lookup y=some .free)(he:env.kindOf y=some .cell):(relabel scope env).names.lookup y=some .cell:=by
 have go:∀l:List (Str×NameKind),l.lookup y=some .free->(l.map λ(x:Str×NameKind)=>if (x.2 == NameKind.free && env.scope.kind == .function && env.kindOf x.1 == some .cell) then (x.1,NameKind.cell) else (x.1,x.2)).lookup y=some .cell:=by
  intro l
  induction l with
  | nil=>intro z;cases z
  | cons x r ih =>
   obtain⟨n,k⟩:=x;intro hy;rw [bY];by_cases z:y=n
   .subst z;simp [List.lookup] at hy;subst hy;simp [List.lookup,hk,he]
   have zb:(y == n)=false:=iZ.mpr z;simp only [List.lookup,zb] at hy;have:=ih hy;dsimp only
   split <;> simp only [List.lookup,zb] <;> exact this
 exact go _ hy
theorem xc {α:Type}{y:Str}{v:α}:∀{l:List (Str×α)},l.lookup y=some v->(y,v)∈l
 | [],h=>by cases h
 | (n,u)::r,h=>by
  by_cases z:y=n
  .subst z;simp [List.lookup] at h;subst h;exact bP
  have zb:(y == n)=false:=iZ.mpr z;simp only [List.lookup,zb] at h;exact b9 _ (xc h)
def nJ {scope:Scope}{y:Str}{k:NameKind}(h:(relabel scope env).names.lookup y=some k)(hk:k=.cell\/k=.free)(hc:∀z∈scope.names,z.2≠.cell):(y,NameKind.free)∈scope.names:=by
 have m:=xc h;unfold relabel at m;obtain⟨⟨n,k'⟩,m1,m2⟩:=bD.mp m;dsimp only at m2
 split at m2
 .rename_i q
  cases m2;simp at q;obtain⟨⟨q,_⟩,_⟩:=q;subst q;exact m1
 cases m2;rcases hk with hk | hk
 .exact absurd hk (hc _ m1)
 rw [<-hk];exact m1
def sP (X:Cx)(scope:Scope)(cl:z0f)(C:Addr)(s1:Shared)(H1:Hp) (N:z0s)(fp:z0p):Cx :=
 { X with N:=N,s₀:=s1,H₀:=H1,env:=compEnvC scope cl C X.env,outer:=X.stack,stack:=X.stack,ex:=fp,fn:=λ_=>false,pn:=[],xe:=λ_ _=>False }
structure Lj (X:Cx)(scope:Scope)(js:z0i):Prop where
 at_:∀p∈js,X.N[p.1]?=some p.2/\X.env.scope.names.lookup p.2=some .cell/\scope.names.lookup p.2=some .free
 all:∀y,(y,NameKind.free)∈scope.names->X.env.scope.names.lookup y=some .cell
def eF (ts:z0s)(js:z0i)(σ:St):St:=ts.map (λ_=>none)++js.map λp=>(σ[p.1]?).join
def uR {X:Cx}{σ:St}{s1 s4:Shared}{scope:Scope}{js:z0i}{m:z0c}
  (I:Inv X ah σ H s1)(hf:∀b∈fp,um X ah H b)(HZ:∀b∈fp,b < s1.heap.objs.size)(i_:scope.kind=.function)(ja:∀y∈scope.names,y.2≠.cell)(cp:Lj X scope js)(mT:Li X.env scope cl)
  (hC:s1.heap.objs.size < C)(ho:s4.os=s1.os)(hg:s4.gens=s1.gens)(old:∀b o,s1.heap.get? b=85->s4.heap.get? b=85)(hn:s4.heap.Ns C m)
  (hD:s4.heap.get? s1.heap.objs.size=some { cls:=.type "list",data:=.seq ([]:z0m).toArray 0 }) :
  Inv (sP X scope cl C s1 H (ts++js.map (·.2)) fp) [] (eF ts js σ) (upd H s1.heap.objs.size 142) s4:=by
 have xk:X.env.scope.kind=.function:=I.ok.kind;have has:∀y,((relabel scope X.env).names.lookup y=some .cell\/(relabel scope X.env).names.lookup y=some .free)->∃c,cl.lookup y=some c:=λy hy=>mT.all y (by
  rcases hy with hy | hy
  .exact nJ hy (.inl rfl) ja
  exact nJ hy (.inr rfl) ja)
 have lt:∀y c,cl.lookup y=some c->c < s1.heap.objs.size:=λy c e=>by
  obtain⟨v,o,ho,_⟩:=I.cell y c (mT.sub y c e);exact aP ho
 refine⟨⟨I.ok.mod,i_,I.ok.glob,I.ok.blt,iJ hC,λy z c h1 h2=>I.ok.inj y z c (mT.sub _ _ h1) (mT.sub _ _ h2),has,λy c h _=>absurd (show false=true from h) bG,I.ok.hd,I.ok.frames,.inl rfl,
   λb hb=>⟨aR (iK (HZ b hb) hC),λy c h=>(hf b hb).2.2.2.2.1 y c (mT.sub _ _ h)⟩,I.bs,dU I.ok.K8 I.sz,λb o e hb=>?_,λb hb=>?_,I.stack,I.Cu⟩,
  ho,?_,Un.laid old (aH _) I.fresh,⟨m,hn,λi y v e1 e2 _=>?_⟩,λy c h=>?_,?_,λy c h=>?_,λp hp=>absurd (show p∈([]:z0e) from hp) 88,I.bI.laid old (aH _) ?_,?_⟩
 .obtain⟨_,_,_,h4,_⟩:=hf b hb;rcases h4 with h4 | h4
  .exact I.ok.Hm b o e h4
  exact absurd (eU (aP (I.ok.bs b o e).1) h4) (iV _)
 .intro Fw;obtain⟨_,h2,h3,_⟩:=hf b hb;rcases aX.mp (I.Aq b Fw) with z | z
  .exact h2 z
  exact h3 z
 .rw [hg];exact I.bare
 .have EU:(ts++js.map (·.2))[i]?=some y:=e1;have ET:(ts.map (λ_=>(none:149))++js.map λp=>(σ[p.1]?).join)[i]?=some (some v):=e2;by_cases hi:i < ts.length
  .rw [vX (by simpa using hi)] at ET;simp [hi] at ET
  rw [qW ∅] at EU;rw [qW (by simpa using Nat.le_of_not_lt hi)] at ET;rw [aA] at ET;rw [aS] at EU ET;cases hj:js[i - ts.length]? with
  | none=>rw [hj] at EU;cases EU
  | some p =>
   rw [hj] at EU ET;simp only [qK,Option.some.injEq] at EU ET;obtain⟨a1,a2,a3⟩:=cp.at_ p (bE hj);subst EU;have es:σ[p.1]?=some (some v):=by
    cases q:σ[p.1]? with
    | none=>rw [q] at ET;cases ET
    | some z=>rw [q] at ET;exact congrArg some ET
   obtain⟨m0,RZ,lk⟩:=I.loc;obtain⟨u,ru,l⟩:=lk p.1 p.2 v a1 es (.inr (.inl a2));rcases l with l | ⟨_,c,ec,o,hc,hd⟩
   .have l1:X.env.scope.names.lookup p.2=some .local:=l.1;rw [a2] at l1;cases l1
   obtain⟨c',ec'⟩:=mT.all p.2 (xc a3);have e3:=mT.sub _ _ ec';rw [ec] at e3;cases e3;exact⟨u,ru,.inr ⟨.inl (wQ xk a3 a2),c,ec',o,old _ _ hc,hd⟩⟩
 .obtain⟨v,o,h1,h2⟩:=I.cell y c (mT.sub y c h);exact⟨v,o,old _ _ h1,h2⟩
 .show upd H s1.heap.objs.size 142 C=none;rw [ai (gP hC)];exact I.bI.fresh (iJ hC)
 .show upd H s1.heap.objs.size 142 c=none;rw [ai (aR (lt y c h))];exact I.kK y c (mT.sub y c h)
 .exact⟨by show 0<=sizeLine;decide,[],0,.nil,hD⟩
 show (eF ts js σ).length=(ts++js.map (·.2)).length;simp [eF]
def FY (wi:TI) (ts:z0s)(js:z0i)(g:TG)(tif:TT)(te:TE):TE:=λσ H Q=>wi σ H λJ H1=>∀D,H1 D=none->∃W:370,(∃m,W 0 m [] (eF ts js σ) (upd H1 D 142)) /\
 ∀i m ys σ' H,W i m ys σ' H->(J.stop i H/\Q (.ref D) H)\/(J.go i H/\∃m',m' < m/\∀x H',J.oR i H x H'->g x σ' H' λσ2 H2=>tif σ2 H2 λb H3 =>
  if b=true then te σ2 H3 323 else W (i+1) m' ys σ2 H3)
def bK {X:Cx}{scope:Scope}{wi:TI}{g:TG}(ts:z0s)(js:z0i)(hc:X.calm=true)(hi:PI X tg iter wi)
  (cp:Lj X scope js)(ja:∀y∈scope.names,y.2≠.cell)(i_:scope.kind=.function)
  (Bw:∀y∈scope.names,y.2=.local->scope.names.lookup y.1=some .local)
  (hg:∀cl C s1 H1 fp,PG (sP X scope cl C s1 H1 (ts++js.map (·.2)) fp) tg g)
  (XE:∀cl C s1 H1 fp,Fh (sP X scope cl C s1 H1 (ts++js.map (·.2)) fp) ifs tif)(he:∀cl C s1 H1 fp,PE (sP X scope cl C s1 H1 (ts++js.map (·.2)) fp) elt te)
  (hs:∀x,foldedSetIterable iter X.env x=pure x:=by intro _;rfl) :
  PE X (.ListComp elt [⟨tg,iter,ifs,0⟩] scope pos) (FY wi ts js g tif te):=by
 intro ah s σ H Q I h;rw [eval_ListComp];obtain⟨cl,mT⟩:=xN (env:=X.env) (scope:=scope) λy hy=>I.ok.has y (.inl (cp.all y hy));refine wpAny_comprehension_free (use:=none) rfl hs mT.eq i_ Bw (cM (hi ah s σ H _ I h) λv s1 h1=>cM h1 λUv s2 h2=>?_);obtain⟨it,fp,tn,J,H2,e,I2,T,Fm,f2,h2⟩:=h2;subst e;obtain⟨W,⟨m0,w0⟩,turn⟩:=h2 s2.heap.objs.size I2.fresh;have HZ:∀b∈fp,b < s2.heap.objs.size:=λb hb=>by obtain⟨o,e,_⟩:=T.obj _ _ Fm b hb;exact aP e
 refine gh (wpAny_newFunctionEnv ja (by intro y hy;simp at hy) (λh₁ Bv xt=>?_) i_);dsimp only at Bv xt ⊢;generalize Of:s2.heap.push { cls:=.type "list",dict:=none,data:=.seq ([]:z0m).toArray }=G2 at Bv xt ⊢;have EJ:G2.objs.size=s2.heap.objs.size+1:=by rw [<-Of,iW]
 have X3:s2.heap.objs.size≠G2.objs.size:=by rw [EJ];exact aR (jP _)
 have old:∀b o,s2.heap.get? b=85->h₁.get? b=85:=λb o e =>
  xt.extBut b o (by rw [EJ];exact aR (mV (aP e))) (a0 _ (Of ▸ a0 _ e))
 have nZ:h₁.get? s2.heap.objs.size=some { cls:=.type "list",data:=.seq ([]:z0m).toArray 0 }:=xt.extBut _ _ X3 (a0 _ (Of ▸ bB _ rfl));generalize n5:sP X scope cl G2.objs.size s2 H2 (ts++js.map (·.2)) fp=X2;have I4:Inv X2 [] (eF ts js σ) (upd H2 s2.heap.objs.size 142) { s2 with heap:=h₁,toks:=s2.toks+([]:z0d).length }:=by
  rw [<-n5];exact uR I2 f2 HZ i_ ja cp mT (by rw [EJ];exact jP _) rfl rfl old Bv nZ
 have x1:X2.prog=X.prog:=by rw [<-n5];rfl
 have x2:X2.w=X.w:=by rw [<-n5];rfl
 have x3:X2.K=X.K:=by rw [<-n5];rfl
 have x4:X2.calm=true:=by rw [<-n5];exact hc
 have x5:X2.A=X.A:=by rw [<-n5];rfl
 have x6:X2.env=compEnvC scope cl G2.objs.size X.env:=by rw [<-n5];rfl
 have x7:X2.xe=λ_ _=>False:=by rw [<-n5];rfl
 have XH:PG X2 tg g:=by rw [<-n5];exact hg _ _ _ _ _
 have N5:Fh X2 ifs tif:=by rw [<-n5];exact XE _ _ _ _ _
 have KO:PE X2 elt te:=by rw [<-n5];exact he _ _ _ _ _
 have MU:tn 0 h₁:=T.keep _ _ _ Fm λb _ o e=>old b o e;have rb:∀{H':Hp}{kc:z0e},(∀b∈fp,H' b=none)->(∀p∈kc,p.1∉fp)->∀b∈fp,um X2 kc H' b:=λ{H' kc} hn hp b hb=>by
  have o4:=I4.ok;subst n5;exact⟨hn b hb,(o4.PM b hb).1,o4.EN b hb,.inl hb,(o4.PM b hb).2,λp lX=>by
   have EB:p∈([]:z0e)++kc:=lX;rw [oC] at EB;intro z;exact hp p EB (by rw [z];exact hb)⟩
 have fin:∀{s':Shared}{σ':St}{H':Hp},Inv X2 [] σ' H' s'->Q (.ref s2.heap.objs.size) H' ->
   compPost 154 X.A X.xe none (EP X ah σ Q) (.ref s2.heap.objs.size) G2.objs.size (.ok .next) s':=λ{s' σ' H'} J' q=>by
  subst n5;obtain⟨m',KG,_⟩:=J'.loc;refine⟨m',KG,λh' HR=>?_⟩;have u:Un (EK X.stack) fp H2 H' s2.heap s'.heap:=J'.base;have nC:∀b o,s2.heap.get? b=85->b≠G2.objs.size:=λb o e=>by rw [EJ];exact aR (mV (aP e))
  have u':Un (EK X.stack) fp H2 H' s2.heap h':=⟨λb o e n hb hx=>(HR.2 b (nC b o e)).trans (u.keep b o e n hb hx),λb o e n hb hx=>by
    obtain⟨sl,z⟩:=u.slot b o e n hb hx;exact⟨sl,(HR.2 b (nC b o e)).trans z⟩,u.free,λb o e hx=>by
    obtain⟨o',z⟩:=u.there b o e hx;exact⟨o',(HR.2 b (nC b o e)).trans z⟩,u.wb,u.uc,u.tR⟩
  have bI:mS X.prog X.w H' h':=λb ob e=>by
   refine(J'.bI b ob e).jJ (λc w' kI q'=>(HR.2 c ?_).trans q') (λ_ q=>q) λ_ _ q=>q;intro z;have fr:H' G2.objs.size=none:=J'.free;rcases kI with z' | z'
   .rw [<-z'] at e;rw [z,fr] at e;cases e
   rw [z,fr] at z';cases z'
  have I5:Inv X ah σ H' { s' with heap:=h' }:=I2.Mo (s':={ s' with heap:=h' }) J'.os u' bI J'.bare λb hb=>by
   obtain⟨_,f1,_,f3,f4,f5⟩:=f2 b hb;exact⟨f3,f1,f4,f5⟩
  exact⟨.ref s2.heap.objs.size,H',I5,rfl,q⟩
 have loop:∀s₃:Shared,s₃={ s2 with heap:=h₁,toks:=s2.toks+([]:z0d).length } ->
   codeAny 154 X.A (.compLoop (.ListComp elt [⟨tg,iter,ifs,0⟩] scope pos) 0 (.ref it) (.ref s2.heap.objs.size) (compEnvC scope cl G2.objs.size X.env))
    (compPost 154 X.A X.xe none (EP X ah σ Q) (.ref s2.heap.objs.size) G2.objs.size) s₃:=by
  rintro s₃ rfl;subst n5;refine pU (λn s'=>∃i ys σ' H',Inv 459 [] σ' H' s'/\tn i s'.heap/\(∀b∈fp,H' b=none)/\W i n ys σ' H') ?_ m0
   ⟨0,[],_,_,I4,MU,λb hb=>by rw [ai (aR (HZ b hb))];exact(f2 b hb).1,w0⟩
  rintro n s' ⟨i,ys,σ0,H',J',x_,Sw,w'⟩;rcases turn i n ys σ0 H' w' with ⟨stop,q⟩ | ⟨go,m',hm,step⟩
  .refine dw (T.done 459 rfl rfl rfl hc i [] s' _ H' (λ_ _=>False) J' (rb Sw 88) x_ stop) (λr s4 ⟨hr,J4⟩=>?_) λ_ _ z=>z;subst hr;exact fin J4 q
  refine dw (T.item 459 rfl rfl rfl hc i [] s' _ H' (λ_ _=>False) J' (rb Sw 88) x_ go) (λr s4 ⟨u,hr,h4⟩=>?_) λ_ _ z=>z;subst hr;refine dw h4 (λ_ s5 aW=>?_) λ_ _ z=>z;obtain⟨xv,H5,J5,r5,y5,DO,Sv⟩:=aW;have Zq:=J5.pinned (rb Sv 88) (T.obj _ _ DO);have back:∀{s7:Shared}{σ7:St}{H7:Hp},Inv 459 ([]++oY fp s5.heap) σ7 H7 s7->Inv 459 [] σ7 H7 s7/\tn (i+1) s7.heap/\∀b∈fp,H7 b=none:=λ{s7 σ7 H7} J7=>by
   refine⟨J7.j8,T.keep _ _ _ DO λb hb o e=>(J7.pin (b,o) (gi _ (gi _ (gB hb e)))).1,λb hb=>?_⟩;obtain⟨o,e,d⟩:=T.obj _ _ DO b hb;exact(J7.pin (b,o) (gi _ (gi _ (gB hb e)))).2.1
  show wpAny _ _ (assign tg (sP X scope cl G2.objs.size s2 H2 (ts++js.map (·.2)) fp).env u) _ _ s5;refine dw (XH _ s5 _ H5 xv u _ Zq r5 (step xv H5 y5)) (λ_ s6 aW=>?_) λ_ _ z=>z;obtain⟨σ6,H6,J6,q6⟩:=aW;refine dw (N5 _ s6 _ H6 _ J6 q6) (λb s7 aW=>?_) λ_ _ z=>z;obtain⟨H7,J7,q7⟩:=aW;cases b with
  | false =>
   rw [ar bG] at q7 ⊢;obtain⟨J8,VI,Ye⟩:=back J7;exact⟨m',hm,i+1,ys,σ6,H7,J8,VI,Ye,q7⟩
  | true =>
   rw [au rfl] at q7 ⊢;refine dw (KO _ s7 _ H7 _ J7 q7) (λyv s8 aW=>?_) λ_ _ z=>z;obtain⟨y,H8,J8,r8,X4,W6,w8⟩:=aW;refine dw (cN (X:=sP X scope cl G2.objs.size s2 H2 (ts++js.map (·.2)) fp) _ s8 _ H8 (.ref s2.heap.objs.size) [y] (.ref s2.heap.objs.size) [yv] (λv H'=>W (i+1) m' (ys++[y]) σ6 H') J8 rfl (.cons r8 .nil) ⟨s2.heap.objs.size,ys,y,rfl,rfl,X4,W6,w8⟩)
    (λ_ s9 ⟨_,H9,J9,_,w9⟩=>?_) λ_ _ z=>z
   obtain⟨Zr,MX,Ol⟩:=back J9;exact⟨m',hm,i+1,ys++[y],σ6,H9,Zr,MX,Ol,w9⟩
 exact codeAny_compStart_list (loop _ rfl) (T.self _ _ _ _ _ MU (loop _ rfl))
def TJ (K:aU)(a:Addr):It :=
 ⟨λi H=>∃xs x,aJ K H a xs/\xs[i]?=some x,λi H x H'=>∃t y,x=.ref t/\H t=none/\H'=upd H t (.tup [161,y])/\∀xs,aJ K H a xs->xs[i]?=some y,λi H=>∃xs,aJ K H a xs/\xs.length<=i⟩
def DJ {K:aU}{k:Nat}(a e it:Addr)(Sd:e≠it) :
  Turn P w K (.Tuple elts k An) (TJ K a) [e,it] e (λi h=>(∃old,IsEnum h e it i old)/\h.IsListIter it a i) where
 mem:=by simp
 obj:=λi h st b hb=>by
  obtain⟨⟨old,he⟩,o,e1,c,d⟩:=st;rcases aX.mp hb with rfl | hb
  .exact⟨_,he,λv z=>by cases z⟩
  obtain rfl:b=it:=by simpa using hb
  exact⟨o,e1,λv z=>by rw [d] at z;cases z⟩
 keep:=λi h h' st k=>⟨⟨st.1.choose,k e 88 _ st.1.choose_spec⟩,st.2.at λo q=>k it 88 o q⟩
 item:=by
  intro X hP hw hK hc i ah s σ H E I hf st hg;subst hP hw hK;obtain⟨xs,x,hq,hx⟩:=hg;obtain⟨aK,rv,p,hz⟩:=I.list hq;obtain⟨u,hu,ru⟩:=rv.get hx;obtain⟨⟨old,he⟩,hit⟩:=st;refine wpAny_pyNext_enum_item he hit p.isList (x:=u) (by simpa using hu) Sd λh1 ho N4 hT hsz hk=>?_;refine⟨_,rfl,wpAny_letOwnedTupleGo_enum ho λh2 N9 sb=>?_⟩;have ne:s.heap.objs.size≠e:=gP (aP he);have kk:∀b o,b≠e->b≠it->160->h2.get? b=85:=λb o n1 n2 q=>(sb.2 b n1).trans (hk b o n1 n2 q);have T2:h2.get? s.heap.objs.size=some { cls:=183,data:=.seq #[.int i s.toks,u] }:=(sb.2 _ ne).trans hT;have fe:=hf e 88;have fi:=hf it 88;have fT:H s.heap.objs.size=none:=I.bI.fresh (aH _);have tr:∀b v,H b=some v->b≠e/\b≠it:=λb v q=>⟨λz=>(by rw [z,fe.1] at q;cases q),λz=>(by rw [z,fi.1] at q;cases q)⟩;have nc:∀b,b∉[e,it]->b≠e/\b≠it:=λb z=>⟨λq=>z (by simp [q]),λq=>z (by simp [q])⟩;have lt:∀b o,160->b≠s.heap.objs.size:=λb o q=>aR (aP q);have I2:Inv X ah σ (upd H s.heap.objs.size (.tup [161,x])) { s with heap:=h2,toks:=s.toks+1 }:=by
   refine I.call (g':=s.gens) (t':=s.toks+1) (d':=s.drawn) (ch:=[e,it]) ⟨λb o q _ _ c=>kk b o (nc b c).1 (nc b c).2 q,λb o q _ _ c=>⟨o.slots,kk b o (nc b c).1 (nc b c).2 q⟩,
    λb o q n _=>by rw [ai (lt b o q)];exact n,λb o q c=>⟨o,kk b o (nc b c).1 (nc b c).2 q⟩,λb ys q=>by rw [ai (ay q fT)];exact q,λb o v q=>by rw [ai (ay q fT)];exact q,
    λb ps q=>⟨#[],by rw [ai (ay q fT),q];simp⟩⟩ (λb v q=>?_) I.bare (λb hb=>?_)
   .by_cases hb:b=s.heap.objs.size
    .subst hb;rw [ae] at q;cases q;exact⟨by show 2<=sizeLine;decide,[.int i s.toks,u],.cons ⟨_,rfl⟩ (.cons ru .nil),_,T2,rfl,_,rfl⟩
    rw [ai hb] at q;refine(I.bI b v q).jJ (λc o kI z=>?_) (λc q'=>by rw [ai (ay q' fT)];exact q') λc ys q'=>by rw [ai (ay q' fT)];exact q'
    rcases kI with rfl | kI
    .exact kk c o (tr c _ q).1 (tr c _ q).2 z
    exact kk c o (tr c _ kI).1 (tr c _ kI).2 z
   rcases aX.mp hb with rfl | hb
   .exact⟨fe.2.2.2.1,fe.2.1,fe.2.2.2.2.1,fe.2.2.2.2.2⟩
   obtain rfl:b=it:=by simpa using hb
   exact⟨fi.2.2.2.1,fi.2.1,fi.2.2.2.2.1,fi.2.2.2.2.2⟩
  refine⟨186,_,I2,rfl,⟨_,x,rfl,fT,rfl,λys hy=>by rw [I.rQ hy hq];exact hx⟩,⟨⟨_,N9⟩,N4.at λo q=>(sb.2 it Sd.symm).trans q⟩,λb hb=>?_⟩;have Fw:H b=none/\∃o,160:=by
   rcases aX.mp hb with rfl | hb
   .exact⟨fe.1,_,he⟩
   obtain rfl:b=it:=by simpa using hb
   obtain⟨o,q,_⟩:=hit;exact⟨fi.1,o,q⟩
  obtain⟨n,o,q⟩:=Fw;rw [ai (lt b o q)];exact n
 done:=by
  intro X hP hw hK hc i ah s σ H E I hf st hg;subst hP hw hK;obtain⟨xs,hq,hx⟩:=hg;obtain⟨aK,rv,p,hz⟩:=I.list hq;obtain⟨⟨old,he⟩,hit⟩:=st;obtain⟨f0,f1,f2,f3,f4,f5⟩:=hf it 88;have hl:=rv.length;exact wpAny_pyNext_enum_end (I.ok.hd hc) he hit p.isList (by simp;omega) 465
 self:=λ_ _ _ _ _ st h=>wpAny_pyIter_enum st.1.choose_spec h
def u7:bootBuiltins "enumerate"=some (.type "enumerate"):=by decide +kernel
def RE (K:aU)(ta:TA):TI:=λσ H R=>ta σ H λvs H1=>Zf vs (aJ K H1) λa=>R (TJ K a) H1
def lg {X:Cx}{k:Nat}{l:Expr}{ta:TA}(hg:Gl X "enumerate")(hm:X.mg "enumerate"=none)(ha:PA X [l] ta)(hs:starEach [l] X.env=[(false,eval l X.env)]:=by rfl) :
  PI X (.Tuple elts k An) (.Call (.Name "enumerate" p) [l] [] pos) (RE X.K ta):=by
 intro ah s σ H R I h;refine Call_ (ir I hg hm u7 (qY 460 hs rfl));obtain⟨vs,H1,I1,r1,q1⟩:=aW;obtain⟨a,xs,e,hq,q⟩:=q1;subst e;obtain⟨u,rfl,rx⟩:=r1.one;cases rx;obtain⟨aK,rv,pl,hz⟩:=I1.list hq;refine call_enumerate_list pl.isList λh1 he hit hsz hk=>wpAny_pyIter_enum he ?_;refine⟨s1.heap.objs.size+1,[s1.heap.objs.size+1,s1.heap.objs.size],_,_,H1,rfl,I1.kept (t':=s1.toks) λb o e=>hk b o e,DJ a _ _ (gP (jP _)),⟨⟨_,he⟩,hit⟩,λb hb=>?_,q⟩;rcases aX.mp hb with rfl | hb
 .exact I1.ue (gp _) (I1.bI.fresh (gp _))
 obtain rfl:b=s1.heap.objs.size:=by simpa using hb
 exact I1.ue (aH _) (I1.bI.fresh (aH _))
def cP (kvs bz:139):139:=kvs.foldl (λa p=>bx a p.1 p.2) bz
theorem sD:∀{kvs:139}{vs:List (aL×Value)}{bz:139}{IW:List (aL×Value)},KV kvs vs->KV bz IW->KV (cP kvs bz) (vs.foldl (λa p=>stored a p.1 p.2) IW)
 | _,_,_,_,.nil,h=>h
 | _,_,_,_,.cons (a:=p) (b:=q) r t,h=>by
  obtain⟨e,rv⟩:=r;show KV (cP _ (bx _ p.1 p.2)) (List.foldl _ (stored _ q.1 q.2) _);rw [<-e];exact sD t (h.put p.1 rv)
theorem sE:∀(kvs bz:139),(cP kvs bz).length<=bz.length+kvs.length
 | [],bz=>by simp [cP]
 | p::r,bz=>by
  have:=sE r (bx bz p.1 p.2);have:=di bz p.1 p.2;show (cP r (bx bz p.1 p.2)).length<=_;rw [dW];omega
section
variable {X:Cx}{ah:z0e}{σ:St}{H:Hp}{s:Shared}
theorem pairs_at (I:141):∀{ts:z0p}{kvs:139}{aK:z0m},Paired (λt kv=>aQ X.K H t [kV kv.1,kv.2]) ts kvs->bh (155) aK ->
  ∃vs:List (aL×Value),KV kvs vs/\Paired (λu kv=>mQ (aI X.prog X.w) s.heap u kv) aK vs
 | [],_,_,.nil,r=>by
  rw [jj] at r;cases r;exact⟨[],.nil,.nil⟩
 | t::ts,kv::kvs,_,.cons h p,r=>by
  rw [bY] at r;cases r with
  | cons r1 r2 =>
   obtain⟨vs,e1,e2⟩:=pairs_at I p r2;obtain⟨aK,rv,⟨o,h1,h2,n,h3⟩,_⟩:=I.tuple h;obtain⟨u1,u2,rfl,q1,q2⟩:=vals2 rv;exact⟨(kv.1,u2)::vs,.cons ⟨rfl,q2⟩ e1,.cons ⟨t,u1,n,o,r1,kF q1,h1,h2,h3⟩ e2⟩
theorem Paired.at_ {α β:Type}{F:α->β->Prop}:∀{xs:List α}{ys:List β},Paired F xs ys->∀(m:Nat)(y:β),ys[m]?=some y->∃x,xs[m]?=some x/\F x y
 | _,_,.nil,m,y,e=>by cases m <;> cases e
 | _,_,.cons h t,0,y,e=>by cases e;exact⟨_,rfl,h⟩
 | _,_,.cons h t,m+1,y,e=>Paired.at_ t m y e
def dS (hc:X.calm=true):gk X (.type "dict") (λxs H Q=>∃a ts kvs,xs=[.ref a]/\H a=222/\Paired (λt kv=>aQ X.K H t [kV kv.1,kv.2]) ts kvs/\∀d,H d=none->Q (.ref d) (upd H d (.dK (cP kvs [])))):=by
 intro ah s σ H xs us Q I r h;obtain⟨a,ts,kvs,rfl,e,p,q⟩:=h;obtain⟨u,rfl,rx⟩:=vals1 r;cases (show u=Value.ref a from rx);obtain⟨z,aK,n,rv,ho⟩:=(show bO X.prog X.w H s.heap a (.lst _) from I.bI a _ e);obtain⟨vs,r1,r2⟩:=pairs_at I p rv;have l1:=a9 r2;have l2:=r1.length;have l3:=a9 p;rw [aA] at z;refine sY (aI X.prog X.w) (I.ok.hd hc) ho (by simpa using l1) (λm kv em=>?_) ∅ λh' t' hd kk=>?_
 .obtain⟨u,e1,e2⟩:=Paired.at_ r2 m kv em;exact⟨u,by simpa using e1,e2⟩
 have new:bO X.prog X.w (upd H s.heap.objs.size (.dK (cP kvs []))) h' s.heap.objs.size (.dK (cP kvs [])):=by
  refine sJ ?_ ?_ (sD r1 .nil) hd
  .have:=sE kvs [];simp at this;omega
  have:=I.big;exact iZ.mpr (gP this)
 exact⟨186,_,I.laid (t':=t') kk (aH _) new,rfl,q _ (I.bI.fresh (aH _))⟩
theorem uJ {α β:Type}{F:α->β->Prop}:∀{xs:List α}{ys:List β},xs.length=ys.length->(∀(j:Nat) x y,xs[j]?=some x->ys[j]?=some y->F x y)->Paired F xs ys
 | [],[],_,_=>.nil
 | [],_::_,e,_=>by cases e
 | _::_,[],e,_=>by cases e
 | x::xs,y::ys,e,h=>.cons (h 0 x y rfl rfl) (uJ (Nat.succ.inj e) λj a b e1 e2=>h (j+1) a b e1 e2)
def LS {k:aL}{u:Value}(h:(aI P w).is k u=true):RelV (kV k) u:=by
 rcases cT (show rV k u=true from h) with ⟨i,t,rfl,rfl⟩ | ⟨x,t,rfl,rfl⟩
 .exact⟨t,rfl⟩
 exact⟨t,rfl⟩
def mP (hc:X.calm=true):gk X (.type "list") (λxs H Q=>∃a kvs,xs=[.ref a]/\H a=184/\∀D,H D=none->Q (.ref D) (upd H D (.lst (kvs.map λp=>kV p.1)))):=by
 intro ah s σ H xs us Q I r h;obtain⟨a,kvs,rfl,e,q⟩:=h;obtain⟨u,rfl,rx⟩:=vals1 r;cases (show u=Value.ref a from rx);obtain⟨z,hs,vs,rel,dd⟩:=zh I.bI e;obtain⟨o,es,ep,d1,d2,d3,d4⟩:=dd;have l1:=rel.length;refine PySem.W.kdl_call (PySem.W.kdl_dict (knd:=aI X.prog X.w) (kvs:=vs) (ep:=ep) hs) (I.ok.hd hc) ⟨o,es,d1,d2,d3,d4⟩ ∅ λh' tk bz c kk hD nZ=>?_;have keys:=rel.keys;have vals:bh (kvs.map λp=>kV p.1) bz.toList:=by
  refine uJ (by have h1:=nZ.1;simp only [aA,eV];omega) λj x y e1 e2=>?_;rw [lN] at e2;obtain⟨k,v,e3,e4⟩:=nZ.2 j y e2;rw [aS] at e1;obtain⟨p,e5,rfl⟩:=bQ.mp e1;have e6:(kvs.map 84)[j]?=some p.1:=by rw [aS,e5];rfl
  rw [keys,aS,e3] at e6;cases e6;exact LS e4
 have new:bO X.prog X.w (upd H s.heap.objs.size (.lst (kvs.map λp=>kV p.1))) h' s.heap.objs.size (.lst (kvs.map λp=>kV p.1)):=⟨by rw [aA];exact z,bz.toList,c,vals,by simpa using hD⟩;exact⟨186,_,I.laid (t':=tk) kk (aH _) new,rfl,q _ (I.bI.fresh (aH _))⟩
end
def xY (v:V):Prop:=gT v=true\/∃r,v=.ref r
def Iy {x:V}(h:gT x=true):uY x x=true:=by
 cases x with
 | dY=>rfl
 | bl b=>exact lI b
 | int i=>exact lI i
 | str z=>exact lI z
 | _=>cases h
def sF {x:V}{u v:Value}(h:xY x)(ru:RelV x u)(rv:RelV x v):SeqAt.EqAt A s u v true:=by
 rcases h with h | ⟨r,rfl⟩
 .have q:=BN (A:=A) (s:=s) ru rv h h;rw [Iy h] at q;exact q
 cases (show u=Value.ref r from ru);cases (show v=Value.ref r from rv);exact .same _
section
variable {K:aU}{a D:Addr}{xs:List V}{ts:z0s}{js:z0i}{g:TG}{tif:TT}{te:TE}{R:143}{σ:St}{H:Hp}
def bN (Pv:Nat->List V->St->143)(h0:Pv 0 [] (eF ts js σ) 237)(hl:∀i ys σ H,i<=xs.length->Pv i ys σ H->aJ K H a xs)
  (hs:∀i x ys σ H,xs[i]?=some x->Pv i ys σ H->g x σ H 468)
  (hd:∀ys σ H,Pv xs.length ys σ H->R H) :
  ∃W:370,(∃m,W 0 m [] (eF ts js σ) 237) /\
 ∀i m ys σ' H,W i m ys σ' H->((l_ K a).stop i H/\R H)\/((l_ K a).go i H/\∃m',m' < m/\∀x H',(l_ K a).oR i H x H'->g x σ' H' λσ2 H2=>tif σ2 H2 λb H3 =>
  if b=true then te σ2 H3 323 else W (i+1) m' ys σ2 H3):=by
 refine⟨λi m ys σ H=>m=xs.length - i/\i<=xs.length/\Pv i ys σ H,⟨xs.length,by simp,cY _,h0⟩,?_⟩;rintro i m ys σ' H ⟨rfl,hi,p⟩;have q:=hl i ys σ' H hi p;by_cases gR:i < xs.length
 .refine .inr ⟨⟨xs,xs[i],q,by simp [gR]⟩,xs.length - (i+1),∅,λx H' y=>?_⟩;obtain⟨e,y⟩:=y;subst e;have z:=hs i x ys σ' _ (y xs q) p;have h1:(i+1<=xs.length)=True:=eq_true gR;simp only [h1,true_and];exact z
 have e:i=xs.length:=by omega
 subst e;exact .inl ⟨⟨xs,q,aH _⟩,hd ys σ' H p⟩
end
def HE {K:aU}{t:Value}:PySem.W.kitOne K t t=some true:=by unfold PySem.W.kitOne;rw [au (lI t)]
def Cp (t:TS):TS:=λD σ H=>∃R:St->143,t { D with nx:=R } σ H/\∀σ' H',R σ' H'->D.nx σ' H'
def nK {X:Cx}{st:Stmt}{t:TS}(h:PS X st t):PS X st (Cp t):=by
 intro ah s σ H D I ⟨R,q,m⟩;refine cM (h ah s σ H _ I q) λf s1 z=>?_;cases f with
 | next=>obtain⟨σ',H',I',r⟩:=z;exact⟨σ',H',I',m _ _ r⟩
 | ret v=>exact z
 | brk=>exact z
 | cont=>exact z
def aM (P:Program)(w:World)(K:aU)(mg:z0c)(base:Heap) (k:Nat)(x:Str) (ps:z0s)(sp:Sp):Prop :=
 ∃f fd,bS P w K mg base fC k f fd ps sp/\Binds K fd ps []/\PySem.W.keepIn K (.ref f)=true/\mg x=some (.ref f)
theorem aM.mono {K:aU}{j k:Nat}{x:Str}(c:aM P w K mg base j x ps sp)(h:j<=k):aM P w K mg base k x ps sp :=
 let ⟨f,fd,a,b⟩:=c;⟨f,fd,a.mono h,b⟩
def bZ {X:Cx}{k:Nat}{x:Str}{e:Expr}{t:TA}(c:aM X.prog X.w X.K X.mg X.base k x ps sp)(hr:fA k X.A)(hg:Gl X x)(ha:PA X (e::es) t)
  (EG:(x == ("__debug__":Str))=false:=by decide)(he:461:=by rfl)(t_:(backTo pos (starEach es X.env)).any 84=false:=by rfl) :
  PE X (.Call (.Name x p) (e::es) [] pos) (Ln sp [] E0 t):=by
 obtain⟨f,fd,G,b,kp,m⟩:=c;exact J1 G hr hg m kp b .nil rH ha EG he t_
def fits (h:n<=1000000):n<=sizeLine:=dU h nofun
def bF (h:n<=1000000):n < sizeLine:=iu h nofun
def ag {p:Addr}(h:H p=none)(o:HO):aF H (upd H p o):=λb u q=>by rw [ai (ay q h)];exact q
def aF.tup {K:aU}{H H':Hp}{a:Addr}{xs:List V}(e:aF H H')(h:aQ K H a xs):aQ K H' a xs:=by
 rcases h with (h | ⟨o,h⟩) | h
 .exact .inl (.inl (e _ _ h))
 .exact .inl (.inr ⟨o,e _ _ h⟩)
 exact .inr h
def u6 {X:Cx}(hc:X.calm=true):gk X (.builtin "all") (λxs H Q=>∃(a:Addr)(bs:List Bool),xs=[.ref a]/\aJ X.K H a (bs.map V.bl)/\Q (.bl (bs.all id)) H):=by
 intro ah s σ H xs us Q I r h;obtain⟨a,bs,rfl,hq,q⟩:=h;obtain⟨u,rfl,rx⟩:=vals1 r;cases (show u=Value.ref a from rx);obtain⟨aK,rv,pl,hz⟩:=I.list hq;obtain⟨o,h1,h2,m,h3⟩:=id pl.isList;have la:a < s.heap.objs.size:=aP h1;have ln:=rv.length;rw [aA] at ln;have isB:∀(i:Nat) v,aK.toArray[i]?=some v->v=.bool (bs.getD i true):=λi v e=>by
  have e':aK[i]?=some v:=by simpa using e
  obtain⟨x,e2,e3⟩:=Paired.at_ rv i v e';rw [aS] at e2;obtain⟨b,e4,rfl⟩:=bQ.mp e2;rw [qH,e4];exact e3
 refine call_all_walk (mr pl.isList ?_);refine⟨s.heap.objs.size,_,_,_,_,_,λi=>bs.getD i true,rfl,Walks.list (A:=X.A.in1) (show X.A.in1.handled=none from I.ok.hd hc) s.heap.objs.size a (aR la) aK.toArray,⟨⟨_,bB _ rfl,rfl,rfl⟩,⟨o,a0 _ h1,h2,m,h3⟩⟩,?_,λh' tk kk=>?_⟩
 .intro i v s1 Q1 E1 hP hQ1;rw [isB i v hP];exact jr hQ1
 have e:((List.range aK.toArray.size).all λi=>bs.getD i true)=bs.all id:=by
  rw [cu,<-ln,hV,gb,gb];constructor
  .intro h b hb;obtain⟨i,hi,e⟩:=jF.mp hb;have:=h i (gG.mpr hi);rw [qH,dA hi,e] at this;exact this
  intro h i hi;have KJ:=gG.mp hi;rw [qH,dA KJ];exact h _ (vp KJ)
 rw [e];exact⟨.bl _,H,I.kept (t':=tk) λb o' e'=>kk b o' (by simp;exact aR (aP e')) (a0 _ e'),rfl,q⟩
section
variable {prog:Program}{w:World}{A:Around}{E:z0b}{s:Shared}
def Bc {i:Nat}{x:Value}(hit:s.heap.IsTupleIter it l i)(hl:s.heap.IsTuple l items)(hx:items[i]?=some x)
  (hQ:∀h',h'.IsTupleIter it l (i+1)->Heap.SameBut it s.heap h'->Q x 221):wpAny 182 A (Builtin.SmallTypes.nextOf (.ref it)) Q E s:=by
 obtain⟨o,ho,hc,hd⟩:=id hit;obtain⟨ol,Pu,_,nl,Py⟩:=hl;unfold Builtin.SmallTypes.nextOf;refine ao (lP (name:=Str.ofString "__next__") hit.typeIs vW (eP vW hit.typeIs F.entry_tuple_iterator_next ?_ (F.args_tuple_iterator_next_1 _)));show wpAny _ _ (field (.ref it) 0 >>= λv=>_) _ _ s;refine ao (fP ho hd (x:=.ref l) (by rfl) ?_);show wpAny _ _ (if (Value.ref l == .none)=true then _ else _) _ _ s;rw [ar (by exact bG)];show wpAny _ _ (field (.ref it) 1 >>= λv=>_) _ _ s;refine ao (fP ho hd (x:=.int i 0) (by rfl) ?_);show wpAny _ _ (seqItems? (.ref l) >>= λv=>_) _ _ s;refine ao (jC Pu Py (by
  simp only [eQ,hx];refine ao (jW ho hd 88 (ax ⟨x,rfl,ax (hQ _ ⟨_,mY _ ho (vH (j4 hd _)),(Obj.cls_mapFields ..).trans hc,?_⟩ (iY ..))⟩));rw [j4 hd];simp [rawInt]))
def BO {e it l:Addr}{i:Nat}{x old:Value}{Q:z0j->151}(he:IsEnum s.heap e it i old)(hit:s.heap.IsTupleIter it l i)(hl:s.heap.IsTuple l items)(hx:items[i]?=some x)(Fu:e≠it)
  (hQ:∀h',IsEnumOut h' e it ((i:Int)+1) x s.heap.objs.size->h'.IsTupleIter it l (i+1)->h'.get? s.heap.objs.size=some { cls:=183,data:=.seq #[.int i s.toks,x] } ->
   (∀b o,b≠e->b≠it->160->h'.get? b=85)->Q (some 398) { s with heap:=h',toks:=s.toks+1 }) :
  wpAny 182 A (pyNext (.ref e)) Q E s:=by
 have hT:s.TypeIs (.ref e) "enumerate" := ⟨_,he,rfl⟩;unfold pyNext;refine ao (iM (lP (name:=Str.ofString "__next__") hT vE (eP vE hT F.entry_enumerate_next ?_ (F.args_enumerate_next_1 _))));obtain⟨hp,g,d,tk,os⟩:=s;show wpAny _ _ (field (.ref e) 2 >>= λv=>_) _ _ _;refine ao (fP he rfl (x:=.ref it) (by rfl) (ao (Bc hit hl hx λh₁ XD HQ=>?_)));replace HQ:Heap.SameBut it hp h₁:=HQ;have KN:IsEnum h₁ e it i old:=(HQ.2 e Fu).trans he;show wpAny _ _ (field (.ref e) 3 >>= λv=>_) _ _ ⟨h₁,g,d,tk,os⟩;refine ao (fP KN rfl (x:=rawInt i) (by rfl) ?_);show wpAny _ _ (field (.ref e) 4 >>= λv=>_) _ _ ⟨h₁,g,d,tk,os⟩;refine ao (fP KN rfl (x:=.none) (by rfl) ?_);show wpAny _ _ (mkInt i >>= λv=>_) _ _ ⟨h₁,g,d,tk,os⟩;refine ao (wpAny_mkInt ?_);show wpAny _ _ (setField (.ref e) 3 (rawInt ((i:Int)+1)) >>= λv=>_) _ _ ⟨h₁,g,d,tk+1,os⟩;refine ao (lL KN 88 λh₂ f₂ hs₂=>?_);have N7:IsEnum h₂ e it ((i:Int)+1) old:=f₂;have k₂:Heap.SameBut e h₁ h₂:=hs₂;show wpAny _ _ (setField (.ref e) 4 .none >>= λv=>_) _ _ ⟨h₂,g,d,tk+1,os⟩;refine ao (lL N7 88 λh₃ f₃ NW=>?_);have Sa:IsEnum h₃ e it ((i:Int)+1) old:=f₃;have k₃:Heap.SameBut e h₂ h₃:=NW;show wpAny _ _ (newTuple [.int i tk,x] >>= λv=>_) _ _ ⟨h₃,g,d,tk+1,os⟩;refine ao (wpAny_newTuple ?_);have L_:IsEnum (h₃.push { cls:=183,data:=.seq #[.int i tk,x] }) e it ((i:Int)+1) old:=a0 _ Sa;have hsz:h₃.objs.size=hp.objs.size:=by rw [k₃.1,k₂.1,HQ.1]
 have xy:e < hp.objs.size:=aP he;have ht₄:(h₃.push { cls:=183,data:=.seq #[.int i tk,x] }).get? hp.objs.size=some { cls:=183,data:=.seq #[.int i tk,x] }:=by rw [<-hsz];exact bB _ rfl
 have hk₄:∀b o,b≠e->b≠it->hp.get? b=85->(h₃.push { cls:=183,data:=.seq #[.int i tk,x] }).get? b=85:=λb o n1 n2 hb=>a0 _ (k₃.extBut b o n1 (k₂.extBut b o n1 (HQ.extBut b o n2 hb)));have R7:(h₃.push { cls:=183,data:=.seq #[.int i tk,x] }).IsTupleIter it l (i+1):=XD.at λo q=>a0 _ (k₃.extBut it o (cV Fu) (k₂.extBut it o (cV Fu) q));generalize h₃.push { cls:=183,data:=.seq #[.int i tk,x] }=h₄ at L_ ht₄ hk₄ R7 ⊢;rw [hsz];show wpAny _ _ (Builtin.SmallTypes.ownedTupleIsFree (.ref e) >>= λv=>_) _ _ ⟨h₄,g,d,tk+1,os⟩;refine ao (by
  unfold Builtin.SmallTypes.ownedTupleIsFree;refine ao (fP L_ rfl (x:=.none) (by rfl) (ax (by
   simp only [if_true];refine ao (gN (ao (fP L_ rfl (x:=old) (by rfl) (ao (lL L_ 88 λh₅ f₅ NV=>?_)))));have R_:IsEnum h₅ e it ((i:Int)+1) x:=f₅;have k₅:Heap.SameBut e h₄ h₅:=NV;show wpAny _ _ (Builtin.SmallTypes.ownedTupleHandOut (.ref e) (.ref hp.objs.size) >>= λv=>_) _ _ ⟨h₅,g,d,tk+1,os⟩;refine ao (by
    unfold Builtin.SmallTypes.ownedTupleHandOut;refine ao (lL R_ 88 λh₆ f₆ NU=>?_);have R9:IsEnumOut h₆ e it ((i:Int)+1) x hp.objs.size:=f₆;have k₆:Heap.SameBut e h₅ h₆:=NU;refine lL R9 88 λh₇ f₇ hs₇=>?_;have he₇:IsEnumOut h₇ e it ((i:Int)+1) x hp.objs.size:=f₇;have k₇:Heap.SameBut e h₆ h₇:=hs₇;have up:∀b o,b≠e->h₄.get? b=85->h₇.get? b=85:=λb o n q=>k₇.extBut b o n (k₆.extBut b o n (k₅.extBut b o n q));exact ao (wpAny_letGo (ax ⟨_,rfl,ax (hQ h₇ he₇ (R7.at λo q=>up it o (cV Fu) q) (up _ _ (gP xy) ht₄) λb o n1 n2 q=>up b o n1 (hk₄ b o n1 n2 q))⟩)))))))
def rN {i:Nat}(hh:A.handled=none)(hit:s.heap.IsTupleIter it l i)(hl:s.heap.IsTuple l items)(hx:items[i]?=none)
  (hE:∀h' e,Heap.ExtBut it s.heap h'->(∃o,h'.get? e=85/\o.cls=.type "StopIteration")->E (.ref e) 221):wpAny 182 A (Builtin.SmallTypes.nextOf (.ref it)) Q E s:=by
 obtain⟨o,ho,hc,hd⟩:=id hit;obtain⟨ol,Pu,_,nl,Py⟩:=hl;unfold Builtin.SmallTypes.nextOf;refine ao (lP (name:=Str.ofString "__next__") hit.typeIs vW (eP vW hit.typeIs F.entry_tuple_iterator_next ?_ (F.args_tuple_iterator_next_1 _)));show wpAny _ _ (field (.ref it) 0 >>= λv=>_) _ _ s;refine ao (fP ho hd (x:=.ref l) (by rfl) ?_);show wpAny _ _ (if (Value.ref l == .none)=true then _ else _) _ _ s;rw [ar (by exact bG)];show wpAny _ _ (field (.ref it) 1 >>= λv=>_) _ _ s;refine ao (fP ho hd (x:=.int i 0) (by rfl) ?_);show wpAny _ _ (seqItems? (.ref l) >>= λv=>_) _ _ s;refine ao (jC Pu Py ?_);simp only [eQ,hx];refine ao (gN (ao (jW ho hd 88 (ao ?_))));simp only [newExc,newTuple];refine ao (gh ?_ (by size_fits));refine ao (m:=firstArgMember _ _) (wpAny_of_eq (a:=Value.none) (by first | rfl | (simp only [firstArgMember];rfl)) ?_)
 refine gh ?_ (by size_fits);simp only [raiseNew];refine ao (wpAny_handled ?_)
 first | rw [show A.in1.handled=none from hh] | rw [hh]
 refine ao (ax (wpAny_throw (hE _ _ (((iY ..).extBut.push _).push _) ⟨_,bB _ rfl,rfl⟩)))
def ER {e it l:Addr}{i:Nat}{Q:z0j->151}(hh:A.handled=none)(he:IsEnum s.heap e it i old)(hit:s.heap.IsTupleIter it l i)(hl:s.heap.IsTuple l items)(hx:items[i]?=none)
  (hQ:∀h',Heap.ExtBut it s.heap h'->Q none 221):wpAny 182 A (pyNext (.ref e)) Q E s:=by
 have hT:s.TypeIs (.ref e) "enumerate" := ⟨_,he,rfl⟩;unfold pyNext;refine ao (iM (lP (name:=Str.ofString "__next__") hT vE (eP vE hT F.entry_enumerate_next ?_ (F.args_enumerate_next_1 _))));show wpAny _ _ (field (.ref e) 2 >>= λv=>_) _ _ _;refine ao (fP he rfl (x:=.ref it) (by rfl) (ao (rN hh hit hl hx λh' x KO W7=>?_)));obtain⟨o,ho,hc⟩:=W7;exact ao (jN (T := "StopIteration") (b:=true) ⟨o,ho,hc⟩ isSubtype_stop (ax (hQ _ KO)))
end
open PySem.AutoSeq1 (wpAny_loadPart')
def yS (l:Addr)(items:z0k) (n:Nat)(Dp:z0l)(sl:z0a) :
  Meets (Builtin.«enumerate.__new__» ⟨[.type "enumerate",.ref l],[]⟩) (λ_ R s=>s.heap.get? l=some { cls:=183,dict:=Dp,data:=.seq items n,slots:=sl } /\
   R (.ok (.ret (.ref (s.heap.push { cls:=.type "tuple_iterator",data:=.fields #[.ref l,.int 0 0] }).objs.size)))
    { s with heap:=(s.heap.push { cls:=.type "tuple_iterator",data:=.fields #[.ref l,.int 0 0] }).push { cls:=.type "enumerate",data:=.fields #[.none,.bool false,186,rawInt 0,.none,.none] } }) :=
 .of_wp λprog w A R s h=>by
  obtain⟨hp,g,d,tk,os⟩:=s;obtain⟨hl,h⟩:=h;have RO:=sub_enumerate;have hT:Heap.IsTuple (Shared.heap ⟨hp,g,d,tk,os⟩) l items:=⟨_,hl,rfl,n,rfl⟩
  wp_walk using vP hl
  refine wpAny_stack_any λst=>ax ?_;split
  .rename_i c _ _ _ _ _
   cases (c == Value.type "enumerate")
   .wp_walk using vP hl,vv hT;exact⟨_,rfl,h⟩
   wp_walk using vP hl,vv hT;exact⟨_,rfl,h⟩
  wp_walk using vP hl,vv hT;exact⟨_,rfl,h⟩
section
variable {prog:Program}{w:World}{A:Around}{E:z0b}{s:Shared}
def B3 (hL:s.heap.IsTuple l items)
  (h:∀h',IsEnum h' 255 s.heap.objs.size 0 .none->h'.IsTupleIter s.heap.objs.size l 0->(∀b o,160->h'.get? b=85)->Q (.ref 255) 221) :
  wpAny 182 A (call (.type "enumerate") [.ref l]) Q E s:=by
 obtain⟨⟨c,Dp,dt,sl⟩,hl,hc,n,hd⟩:=hL;replace hc:c=183 := hc;replace hd:dt=.seq items n:=hd;subst hc hd;refine callType_new F.called_enumerate nofun (F.typeCall_enumerate_1 _) (F.newCall_enumerate_1 _) (λobj=>F.args_object_init_2 obj _) F.entry_enumerate_new (yS l items n Dp sl) ⟨hl,?_⟩;have hz:(s.heap.push { cls:=.type "tuple_iterator",data:=.fields #[.ref l,.int 0 0] }).objs.size=203:=iW ..;show _/\_;rw [hz];have he:IsEnum ((s.heap.push { cls:=.type "tuple_iterator",data:=.fields #[.ref l,.int 0 0] }).push { cls:=.type "enumerate",data:=.fields #[.none,.bool false,186,rawInt 0,.none,.none] }) 255 s.heap.objs.size 0 .none:=by
  have:=bB (s.heap.push { cls:=.type "tuple_iterator",data:=.fields #[.ref l,.int 0 0] }) (o:={ cls:=.type "enumerate",data:=.fields #[.none,.bool false,186,rawInt 0,.none,.none] }) rfl;rw [hz] at this;exact this
 exact⟨⟨_,he,rfl⟩,h _ he ⟨_,a0 _ (bB _ rfl),rfl,rfl⟩ λb o x=>a0 _ (a0 _ x)⟩
end
def tG (K:aU)(a:Addr):It :=
 ⟨λi H=>∃xs x,aQ K H a xs/\xs[i]?=some x,λi H x H'=>∃t y,x=.ref t/\H t=none/\H'=upd H t (.tup [161,y])/\∀xs,aQ K H a xs->xs[i]?=some y,λi H=>∃xs,aQ K H a xs/\xs.length<=i⟩
def Am {K:aU}{k:Nat}(a e it:Addr)(Sd:e≠it) :
  Turn P w K (.Tuple elts k An) (tG K a) [e,it] e (λi h=>(∃old,IsEnum h e it i old)/\h.IsTupleIter it a i) where
 mem:=by simp
 obj:=λi h st b hb=>by
  obtain⟨⟨old,he⟩,o,e1,c,d⟩:=st;rcases aX.mp hb with rfl | hb
  .exact⟨_,he,λv z=>by cases z⟩
  obtain rfl:b=it:=by simpa using hb
  exact⟨o,e1,λv z=>by rw [d] at z;cases z⟩
 keep:=λi h h' st k=>⟨⟨st.1.choose,k e 88 _ st.1.choose_spec⟩,st.2.at λo q=>k it 88 o q⟩
 item:=by
  intro X hP hw hK hc i ah s σ H E I hf st hg;subst hP hw hK;obtain⟨xs,x,hq,hx⟩:=hg;obtain⟨aK,rv,p,hz⟩:=I.tuple hq;obtain⟨u,hu,ru⟩:=rv.get hx;obtain⟨⟨old,he⟩,hit⟩:=st;refine BO he hit (show s.heap.IsTuple a aK.toArray from p) (x:=u) (by simpa using hu) Sd λh1 ho N4 hT hk=>?_;refine⟨_,rfl,wpAny_letOwnedTupleGo_enum ho λh2 N9 sb=>?_⟩;have ne:s.heap.objs.size≠e:=gP (aP he);have kk:∀b o,b≠e->b≠it->160->h2.get? b=85:=λb o n1 n2 q=>(sb.2 b n1).trans (hk b o n1 n2 q);have T2:h2.get? s.heap.objs.size=some { cls:=183,data:=.seq #[.int i s.toks,u] }:=(sb.2 _ ne).trans hT;have fe:=hf e 88;have fi:=hf it 88;have fT:H s.heap.objs.size=none:=I.bI.fresh (aH _);have tr:∀b v,H b=some v->b≠e/\b≠it:=λb v q=>⟨λz=>(by rw [z,fe.1] at q;cases q),λz=>(by rw [z,fi.1] at q;cases q)⟩;have nc:∀b,b∉[e,it]->b≠e/\b≠it:=λb z=>⟨λq=>z (by simp [q]),λq=>z (by simp [q])⟩;have lt:∀b o,160->b≠s.heap.objs.size:=λb o q=>aR (aP q);have I2:Inv X ah σ (upd H s.heap.objs.size (.tup [161,x])) { s with heap:=h2,toks:=s.toks+1 }:=by
   refine I.call (g':=s.gens) (t':=s.toks+1) (d':=s.drawn) (ch:=[e,it]) ⟨λb o q _ _ c=>kk b o (nc b c).1 (nc b c).2 q,λb o q _ _ c=>⟨o.slots,kk b o (nc b c).1 (nc b c).2 q⟩,
    λb o q n _=>by rw [ai (lt b o q)];exact n,λb o q c=>⟨o,kk b o (nc b c).1 (nc b c).2 q⟩,λb ys q=>by rw [ai (ay q fT)];exact q,λb o v q=>by rw [ai (ay q fT)];exact q,
    λb ps q=>⟨#[],by rw [ai (ay q fT),q];simp⟩⟩ (λb v q=>?_) I.bare (λb hb=>?_)
   .by_cases hb:b=s.heap.objs.size
    .subst hb;rw [ae] at q;cases q;exact⟨by show 2<=sizeLine;decide,[.int i s.toks,u],.cons ⟨_,rfl⟩ (.cons ru .nil),_,T2,rfl,_,rfl⟩
    rw [ai hb] at q;refine(I.bI b v q).jJ (λc o kI z=>?_) (λc q'=>by rw [ai (ay q' fT)];exact q') λc ys q'=>by rw [ai (ay q' fT)];exact q'
    rcases kI with rfl | kI
    .exact kk c o (tr c _ q).1 (tr c _ q).2 z
    exact kk c o (tr c _ kI).1 (tr c _ kI).2 z
   rcases aX.mp hb with rfl | hb
   .exact⟨fe.2.2.2.1,fe.2.1,fe.2.2.2.2.1,fe.2.2.2.2.2⟩
   obtain rfl:b=it:=by simpa using hb
   exact⟨fi.2.2.2.1,fi.2.1,fi.2.2.2.2.1,fi.2.2.2.2.2⟩
  refine⟨186,_,I2,rfl,⟨_,x,rfl,fT,rfl,λys hy=>by rw [I.uw hy hq];exact hx⟩,⟨⟨_,N9⟩,N4.at λo q=>(sb.2 it Sd.symm).trans q⟩,λb hb=>?_⟩;have Fw:H b=none/\∃o,160:=by
   rcases aX.mp hb with rfl | hb
   .exact⟨fe.1,_,he⟩
   obtain rfl:b=it:=by simpa using hb
   obtain⟨o,q,_⟩:=hit;exact⟨fi.1,o,q⟩
  obtain⟨n,o,q⟩:=Fw;rw [ai (lt b o q)];exact n
 done:=by
  intro X hP hw hK hc i ah s σ H E I hf st hg;subst hP hw hK;obtain⟨xs,hq,hx⟩:=hg;obtain⟨aK,rv,p,hz⟩:=I.tuple hq;obtain⟨⟨old,he⟩,hit⟩:=st;obtain⟨f0,f1,f2,f3,f4,f5⟩:=hf it 88;have hl:=rv.length;exact ER (I.ok.hd hc) he hit (show s.heap.IsTuple a aK.toArray from p) (by simp;omega) 465
 self:=λ_ _ _ _ _ st h=>wpAny_pyIter_enum st.1.choose_spec h
def NR (K:aU)(ta:TA):TI:=λσ H R=>ta σ H λvs H1=>Zf vs (aQ K H1) λa=>R (tG K a) H1
def nO {X:Cx}{k:Nat}{l:Expr}{ta:TA}(hg:Gl X "enumerate")(hm:X.mg "enumerate"=none)(ha:PA X [l] ta)(hs:starEach [l] X.env=[(false,eval l X.env)]:=by rfl) :
  PI X (.Tuple elts k An) (.Call (.Name "enumerate" p) [l] [] pos) (NR X.K ta):=by
 intro ah s σ H R I h;refine Call_ (ir I hg hm u7 (qY 460 hs rfl));obtain⟨vs,H1,I1,r1,q1⟩:=aW;obtain⟨a,xs,e,hq,q⟩:=q1;subst e;obtain⟨u,rfl,rx⟩:=r1.one;cases rx;obtain⟨aK,rv,pl,hz⟩:=I1.tuple hq;refine B3 (show s1.heap.IsTuple a aK.toArray from pl) λh1 he hit hk=>wpAny_pyIter_enum he ?_;refine⟨s1.heap.objs.size+1,[s1.heap.objs.size+1,s1.heap.objs.size],_,_,H1,rfl,I1.kept (t':=s1.toks) λb o e=>hk b o e,Am a _ _ (gP (jP _)),⟨⟨_,he⟩,hit⟩,λb hb=>?_,q⟩;rcases aX.mp hb with rfl | hb
 .exact I1.ue (gp _) (I1.bI.fresh (gp _))
 obtain rfl:b=s1.heap.objs.size:=by simpa using hb
 exact I1.ue (aH _) (I1.bI.fresh (aH _))
open PySem PySem.Spec PyProof.Rows PySem.W
def jI (c':Addr)(qual:Str):HO:=.ext λh=>h.CodeRec (.ref c') qual
def o7 (f:Addr)(o:Obj):HO:=.ext λh=>h.get? f=85
def zB {h:Heap}(hr:h.CodeRec (.ref c') qual):bO P w H h c' (jI c' qual):=by
 obtain⟨c2,oc,vs,t,e,zX,hd,hv⟩:=id hr;cases e;exact⟨hr,⟨oc,zX⟩,λh1 h2 ⟨c3,oc3,vs3,t3,e3,Xr,iQ,Kz⟩ k=>by cases e3;exact⟨_,oc3,vs3,t3,rfl,k _ Xr,iQ,Kz⟩⟩
def qw {h:Heap}{f:Addr}{o:Obj}(e:h.get? f=85):bO P w H h f (o7 f o):=⟨e,⟨o,e⟩,λ_ _ q k=>k _ q⟩
def Tab (T:Addr)(pos:Pos)(qual:Str)(H:Hp):Prop :=
 ∃ps,H T=some (.tM ps)/\TriplesOk ps.toList/\(codeAmong pos ps.toList=none\/∃c',codeAmong pos ps.toList=some (.ref c')/\H c'=some (jI c' qual))
def eZ (T:Addr)(H H':Hp):Prop:=∀b o,b≠T->H b=85->H' b=85
def tL (mg:z0c)(base:Heap):Prop :=
 ∃bm o,mg "__builtins__"=some (.ref bm)/\bm≠builtinsNs/\bm≠mainGlobals/\base.get? bm=85/\o.cls=.type "module" /\ o.dict=some builtinsNs/\o.data=.plain
theorem jt {a b:Int}{ta tb:Tok}{c:Value}:∀l:z0m,TriplesOk l->TriplesOk (l++[.int a ta,.int b tb,c])
 | [],_=>trivial
 | [x],h=>by cases x <;> exact h.elim
 | [x,y],h=>by cases x <;> cases y <;> exact h.elim
 | x::y::z::r,h=>by
  cases x with
  | int i ti =>
   cases y with
   | int j tj=>exact jt r h
   | _=>exact h.elim
  | _=>exact h.elim
section
variable {X:Cx}{params:Arguments}{body:Expr}{scope:Scope}{pos:Pos}{c T:Addr}
abbrev mJ (X:Cx)(params:Arguments)(body:Expr)(scope:Scope)(c':Addr)(fI:Value):Obj:=kla_obj "<lambda>" 440 params body scope [] ((X.mg "__name__").getD .none) c' fI
def Vy (X:Cx)(params:Arguments)(body:Expr)(scope:Scope)(pos:Pos)(T:Addr):TE:=λσ H Q=>Tab T pos 440 H /\
 ∀f c' fI H',eZ T H H'->Tab T pos 440 H'->H f=none->H' f=some (o7 f (mJ X params body scope c' fI))->H' c'=some (jI c' 440)->Q (.ref f) H'
def GB (r_:X.env.code=.ref c)(hC:codeHdIn X.K c T=true)(hB:tL X.mg X.base)(nY:∀y∈scope.names,y.2≠.free)(Ia:defaultsOf params X.env=([],[]):=by rfl):PE X (.Lambda params body scope pos) (Vy X params body scope pos T):=by
 intro ah s σ H Q I h;obtain⟨⟨ps,hT,ht,Ic⟩,q⟩:=h;refine kla_eval Ia ?_;have Oe:s.heap.get? T=some (tabObj ps):=(show bO X.prog X.w H s.heap T (.tM ps) from I.bI T _ hT);have hg:=I.mod.glob.keeps I.bk;have C:=codeHd_of_K I.xp hC;obtain⟨bm,ob,b1,b2,b3,b4,b5,b6,b7⟩:=hB;have Y8:=I.bk _ _ b4;have Wt:bm≠T:=λz=>by
  have:=(I.bs _ _ b4).2;rw [z,hT] at this;cases this
 have Wn:mainGlobals≠T:=λz=>by
  obtain⟨o,es,ep,e,d,_⟩:=hg;rw [z,Oe] at e;cases e;cases d
 have Ss:s.heap.BuiltinsAt X.mg T:=⟨bm,ob,b1,b2,b3,Wt,Y8,b5,b6,b7⟩;have Ji:∀b v,H b=some v->b < s.heap.objs.size:=λb v e=>I.bI.lt e;rcases Ic with RY | ⟨c',hf,kI⟩
 .refine kla_makeFunction (closureFor_none nY) I.ok.glob hg r_ C Oe ht RY Wn Ss λc' fI h' tk hx Dd gR HS RK=>?_;have hcr:∃oc,h'.get? c'=some oc:=by
   obtain⟨c2,oc,vs,t,e,zX,_⟩:=HS;cases e;exact⟨oc,zX⟩
  have rZ:h'.objs.size > s.heap.objs.size:=iu Dd gR;have keep:∀b o,b≠T->160->(h'.push (mJ X params body scope c' fI)).get? b=85:=λb o n e=>a0 _ (hx b o n e)
  let H':Hp:=upd (upd (upd H T (.tM (ps++#[rawInt pos.line,rawInt pos.col,.ref c']))) c' (jI c' 440)) h'.objs.size (o7 h'.objs.size (mJ X params body scope c' fI))
  have Bi:∀b v,H b=some v->b≠c'/\b≠h'.objs.size:=λb v e=>⟨aR (eU (Ji b v e) Dd),aR (iK (Ji b v e) rZ)⟩;have Ws:c'≠h'.objs.size:=aR gR;have Ra:=Bi T _ hT;have eT:H' T=some (.tM (ps++#[rawInt pos.line,rawInt pos.col,.ref c'])):=by
   show upd (upd (upd H T _) c' _) h'.objs.size _ T=_;rw [ai Ra.2,ai Ra.1,ae]
  have ec:H' c'=some (jI c' 440):=by
   show upd (upd (upd H T _) c' _) h'.objs.size _ c'=_;rw [ai Ws,ae]
  have ef:H' h'.objs.size=some (o7 h'.objs.size (mJ X params body scope c' fI)):=ae;have eo:∀b,b≠T->b≠c'->b≠h'.objs.size->H' b=H b:=λb n1 n2 n3=>by
   show upd (upd (upd H T _) c' _) h'.objs.size _ b=_;rw [ai n3,ai n2,ai n1]
  have sT:eZ T H H':=λb o n e=>by rw [eo b n (Bi b o e).1 (Bi b o e).2];exact e
  have I2:Inv X ah σ H' { s with heap:=h'.push (mJ X params body scope c' fI),toks:=tk }:=by
   refine I.call (g':=s.gens) (t':=tk) (d':=s.drawn) (ch:=[]) ⟨λb o e n _ _=>keep b o (λz=>by rw [z,hT] at n;cases n) e,λb o e n _ _=>⟨o.slots,keep b o (λz=>by rw [z,hT] at n;cases n) e⟩,λb o e n _=>?_,λb o e _=>?_,λb xs e=>?_,λb o u e=>?_,λb V4 e=>?_⟩ (λb v e=>?_) I.bare (λb hb=>nomatch hb)
   .have lb:=aP e;rw [eo b (λz=>by rw [z,hT] at n;cases n) (aR (eU lb Dd)) (aR (iK lb rZ))];exact n
   .by_cases z:b=T
    .exact⟨_,by rw [z];exact a0 _ RK⟩
    exact⟨o,keep b o z e⟩
   .exact sT b _ (λz=>by rw [z,hT] at e;cases e) e
   .exact sT b _ (λz=>by rw [z,hT] at e;cases e) e
   .by_cases z:b=T
    .subst z;rw [hT] at e;cases e;exact⟨_,eT⟩
    exact⟨#[],by rw [Array.append_empty];exact sT b _ z e⟩
   by_cases z1:b=h'.objs.size
   .subst z1;rw [ef] at e;cases e;exact qw (bB _ rfl)
   by_cases z2:b=c'
   .subst z2;rw [ec] at e;cases e;refine zB ?_;obtain⟨c2,oc,vs,t,e',zX,hd,hv⟩:=HS;cases e';exact⟨_,oc,vs,t,rfl,a0 _ zX,hd,hv⟩
   by_cases z3:b=T
   .subst z3;rw [eT] at e;cases e;exact a0 _ RK
   rw [eo b z3 z2 z1] at e;refine(I.bI b v e).jJ (λd o EH e'=>?_) (λd e'=>sT d _ (λz=>by rw [z,hT] at e';cases e') e') λd ys e'=>sT d _ (λz=>by rw [z,hT] at e';cases e') e';rcases EH with rfl | EH
   .exact keep d o z3 e'
   exact keep d o (λz=>by rw [z,hT] at EH;cases EH) e'
  have fresh:H h'.objs.size=none:=I.bI.fresh (iJ rZ);exact⟨.ref h'.objs.size,H',I2,rfl,q _ c' fI H' sT ⟨_,eT,by rw [vD];exact jt _ ht,.inr ⟨c',by rw [vD];exact codeAmong_snoc _ ht RY,ec⟩⟩ fresh ef ec⟩
 refine kla_makeFunctionHit (closureFor_none nY) I.ok.glob hg r_ C Oe ht hf Ss λfI h' tk hk hsz=>?_;have keep:∀b o,160->(h'.push (mJ X params body scope c' fI)).get? b=85:=λb o e=>a0 _ (hk b o e);have fresh:H h'.objs.size=none:=I.bI.fresh hsz;refine⟨.ref h'.objs.size,_,I.laid (a:=h'.objs.size) (o:=o7 h'.objs.size (mJ X params body scope c' fI)) (t':=tk) keep hsz (qw (bB _ rfl)),rfl,?_⟩;refine q _ c' fI _ (λb o _ e=>by rw [ai (ay e fresh)];exact e) ⟨ps,by rw [ai (ay hT fresh)];exact hT,ht,.inr ⟨c',hf,by rw [ai (ay kI fresh)];exact kI⟩⟩ fresh ae (by rw [ai (ay kI fresh)];exact kI)
end
section
variable {P:Program}{w:World}{K:Frag}{mg:z0c}{base:Heap}{f c':Addr}{q:Str}{params:Arguments}{body:Expr}{scope:Scope}{pm fI:Value}{N ps:z0s}{k:Nat}{te:TE}
def Ks (S:aN N ps scope)(sf:∀us:z0m,us.length=ps.length->bindArgs (kla_fn "<lambda>" q params body scope [] pm (.ref c') fI) ⟨us,[]⟩=pure (ps.zip us))
  (jb:∀(A:Around)(outer:List Env)(s:Shared)(H:Hp),PE (pD fC P w K mg base N q scope f (.ref c') A outer s H λ_ _ _=>False) body te)
  (A:Around)(outer:List Env)(s:Shared)(H:Hp)(us:z0m)(vs:List V)(Q:VK)(hr:fA (k+1) A)(e0:zS P w K mg base A outer s H)(hf:H f=some (o7 f (kla_obj "<lambda>" q params body scope [] pm c' fI)))
  (hc:H c'=some (jI c' q))(rv:bh vs us)(hl:vs.length=ps.length)(h:te (start N vs) H Q):codeAny 163 A (.call (.ref f) ⟨us,[]⟩) (CR fC outer P w H s Q λ_ _ _=>False) s:=by
 obtain⟨ef,_⟩:=e0.bI f _ hf;obtain⟨ec,_⟩:=e0.bI c' _ hc;have lu:us.length=ps.length:=by rw [<-rv.length];exact hl
 have lim:s.heap.NoLimit:=e0.mod.nolimit.keeps λb o e=>(e0.bs b o e).1;have i_:∀y∈ps.zip us,scope.names.lookup y.1=some .local\/(scope.names.lookup y.1=some .cell/\((cellsFrom 255 scope.names []).lookup y.1).isSome=true):=λ⟨n,v⟩ hy=>by
  rcases S.par n (List.of_mem_zip hy).1 with z | z
  .exact .inl z
  exact .inr ⟨z,cellsFrom_some _ _ _ (.inl z)⟩
 refine kla_callFunE hr.depth ef rfl S.co S.gen rfl ec ?_;rw [sf us lu];refine ax (wpAny_newFunctionEnv_cells S.kind i_ λenv he s1 x=>?_);subst he;refine⟨lim.keeps x.toInCall.keep,kla_codeExpr ?_⟩;have I:Inv (pD fC P w K mg base N q scope f (.ref c') A outer s H λ_ _ _=>False) [] (start N vs) H s1:=uQ S hr.hd e0 hl rv x;refine dw (jb A outer s H [] s1 (start N vs) H _ I h) (λv s' aW=>?_) λe s' z=>z;obtain⟨y,H',J,r,z⟩:=aW;exact⟨y,H',J.os,J.bare,J.base,J.bI,r,z⟩
end
section
variable {X:Cx}{i:Nat}{x:Str}{e:Expr}{es:z0q}{t:TA}{p pos:Pos}{q:Str}{params:Arguments}{body:Expr}{scope:Scope}{N ps:z0s}{k:Nat}{te:TE}
def FV (i:Nat)(q:Str)(params:Arguments)(body:Expr)(scope:Scope) (N ps:z0s)(t:TA)(te:TE):TE:=λσ H Q=>∃f pm c' fI,σ[i]?=some (some (.ref f)) /\
 t σ H λvs H1=>H1 f=some (o7 f (kla_obj "<lambda>" q params body scope [] pm c' fI))/\H1 c'=some (jI c' q)/\vs.length=ps.length/\te (start N vs) H1 Q
def AW (hN:X.N[i]?=some x)(hx:X.env.scope.names.lookup x=some .local)(S:aN N ps scope)(hr:fA (k+1) X.A)
  (sf:∀(pm fI:Value)(c':Addr)(us:z0m),us.length=ps.length->bindArgs (kla_fn "<lambda>" q params body scope [] pm (.ref c') fI) ⟨us,[]⟩=pure (ps.zip us))
  (jb:∀(f c':Addr)(A:Around)(outer:List Env)(s:Shared)(H:Hp),PE (pD fC X.prog X.w X.K X.mg X.base N q scope f (.ref c') A outer s H λ_ _ _=>False) body te)(ha:PA X (e::es) t)
  (EG:(x == ("__debug__":Str))=false:=by decide)(he:461:=by rfl)(t_:(backTo pos (starEach es X.env)).any 84=false:=by rfl) :
  PE X (.Call (.Name x p) (e::es) [] pos) (FV i q params body scope N ps t te):=by
 intro ah s σ H Q I h;obtain⟨f,pm,c',fI,hσ,h⟩:=h;obtain⟨m,hn,hl⟩:=I.loc;obtain⟨u,ru,lk⟩:=hl i x (.ref f) hN hσ (.inl hx);cases (show u=Value.ref f from ru);have hm:m x=some (.ref f):=by
  rcases lk with l | ⟨l,_⟩
  .exact l.2
  have l':X.env.scope.names.lookup x=some .cell\/X.env.scope.names.lookup x=some .free:=l;rw [hx] at l';rcases l' with l' | l' <;> cases l'
 refine mW (wpAny_Name (vC I.ok.kind hx hn hm ?_) EG);refine callWith_def (o:=kla_obj "<lambda>" q params body scope [] pm c' fI) rfl 460 he;obtain⟨vs,H1,I1,r,z1,z2,z3,z4⟩:=aW;obtain⟨ef,_⟩:=I1.bI f _ z1;refine⟨ef,jS (jU (Ks (k:=k) S (λus hl=>sf pm fI c' us hl) (jb f c') X.A X.stack s1 H1 us vs Q hr I1.Ot z1 z2 r z3 z4) λr' s' z=>?_)⟩;cases r' with
 | error e=>exact z.elim
 | ok fl =>
  cases fl with
  | ret u=>exact I1.after z
  | next=>exact z.elim
  | brk=>exact z.elim
  | cont=>exact z.elim
end
def Ja (ts:z0p)(H:Hp):Prop:=∀b,H b=none\/(∃o xs,H b=some (.g9 o (.lst xs)))\/(b∈ts/\H b=some (.tM #[]))
def Et {K:Frag}{k:Nat}{fa a:Addr}{x:Str}{s₁:Shared}{vs:z0m}{ns:z0t}{ts:z0p}
  (KX:K.In s₁.heap)(mN:s₁.heap.Ns mainGlobals mg)(hb:s₁.heap.Ns builtinsNs mb)(Sm:∀x:Str,x ≠ "__name__" -> mb x=bootBuiltins x)(Xz:s₁.heap.NoLimit)
  (hbm:∃bm ob,mg "__builtins__"=some (.ref bm)/\bm≠builtinsNs/\s₁.heap.get? bm=some ob/\ob.cls=.type "module" /\ ob.dict=some builtinsNs/\ob.data=.plain)(hg:s₁.gens=#[])
  (NT:∀T∈ts,s₁.heap.get? T=some (tabObj #[])/\K.lookup T=none/\∃c,codeHdIn K c T=true)
  (ha:s₁.heap.get? a=some { cls:=.type "list",data:=.seq vs.toArray })(hi:IntsAre vs ns)(hl:ns.length<=sizeLine)(hr:fA k callerA)
  (F:∀base:Heap,K.In base->base.Ns mainGlobals mg->tL mg base->bS P w K mg base CX k fa fd [x] sp)(sf:∀(s:Shared)(u:Value),BindsTo s fd ⟨[u],[]⟩ [(x,u)])
  (Fs:∀H:Hp,Ja ts H->(∀T∈ts,H T=some (.tM #[]))->aJ K H a (ns.map V.int)->sp [.ref a] H (λv _=>v=.bl true) λ_ _ _=>False)
  (X9:∀H e s',CX [] H s₁ (λ_ _ _=>False) e s'->False) :
  codeAny 163 callerA (.call (.ref fa) ⟨[.ref a],[]⟩) (λr s'=>r=.ok (.ret (.bool true))/\OldK s₁.heap s'.heap/\s'.os=s₁.os/\AllBare s'.gens) s₁:=by
 have rv:=uu hi;have WJ:=hi.length;have core:∀H:Hp,Ja ts H->(∀T∈ts,H T=some (.tM #[]))->aJ K H a (ns.map V.int)->mS P w H s₁.heap->(∀b,H b≠none->b=a\/b∈ts)->(H a≠none->K.lookup a=none) ->
   codeAny 163 callerA (.call (.ref fa) ⟨[.ref a],[]⟩) (λr s'=>r=.ok (.ret (.bool true))/\OldK s₁.heap s'.heap/\s'.os=s₁.os/\AllBare s'.gens) s₁:=by
  intro H hO hT hS bI hA hK;have xQ:∀{b:Addr}{o:Obj},s₁.heap.get? b=85->H b=none->(ua s₁.heap H).get? b=85:=λe n=>HX e n;have off:∀{b:Addr}{o:Obj},s₁.heap.get? b=85->(∀aK n,o.data≠.seq aK n)->(∀fs,o.data≠.fields fs)->H b=none:=λ{b o} e d1 d2=>by
   cases q:H b with
   | none=>rfl
   | some u =>
    rcases hA b (by rw [q];simp) with e' | e'
    .subst e';rw [ha] at e;cases e;exact(d1 _ _ rfl).elim
    rw [(NT b e').1] at e;cases e;exact(d2 _ rfl).elim
  have Uk:∀{b:Addr}{m:z0c},s₁.heap.Ns b m->(ua s₁.heap H).Ns b m:=λ{b m} ⟨o,es,ep,e,d,r⟩=>⟨o,es,ep,xQ e (off e (λ_ _ z=>by rw [d] at z;cases z) λ_ z=>by rw [d] at z;cases z),d,r⟩;have hKb:K.In (ua s₁.heap H):=λb o e=>xQ (KX b o e) (by
   cases q:H b with
   | none=>rfl
   | some u =>
    rcases hA b (by rw [q];simp) with e' | e'
    .subst e';rw [hK (by rw [q];simp)] at e;cases e
    rw [(NT b e').2.1] at e;cases e)
  have hM:Mod K mg (ua s₁.heap H):=⟨hKb,Uk mN,⟨mb,Uk hb,Sm⟩,let ⟨mc,h1,h2⟩:=Xz;⟨mc,Uk h1,h2⟩⟩;have Sr:tL mg (ua s₁.heap H):=by
   obtain⟨bm,ob,b1,b2,b3,b4,b5,b6⟩:=hbm;refine⟨bm,ob,b1,b2,λz=>?_,xQ b3 (off b3 (λ_ _ z=>by rw [b6] at z;cases z) λ_ z=>by rw [b6] at z;cases z),b4,b5,b6⟩;obtain⟨o,es,ep,e,d,_⟩:=mN;rw [<-z,b3] at e;cases e;rw [b6] at d;cases d
  have e0:zS P w K mg (ua s₁.heap H) callerA [] s₁ H:=⟨rfl,hM,λb o e=>Kf e,Nat.le_of_eq (EE _ _),trivial,λb hb=>absurd (show b∈([]:z0p) from hb) 88,bI,.of_eq hg⟩;refine jU ((F _ hKb (Uk mN) Sr).run callerA [] s₁ H ⟨[.ref a],[]⟩ [.ref a] [.ref a] _ _ hr e0 (sf s₁ (.ref a)) (.cons rfl .nil) (Fs H hO hT hS)) λr s' h=>?_;cases r with
  | error e=>exact(X9 H e s' h).elim
  | ok fl =>
   cases fl with
   | next=>exact False.elim h
   | brk=>exact False.elim h
   | cont=>exact False.elim h
   | ret u =>
    obtain⟨v,H',os,bare,un,RU,r',q⟩:=h;have q':v=.bl true:=q;subst q';obtain rfl:u=Value.bool true:=r';have each:∀b o,s₁.heap.get? b=85->asItWas s₁.heap s'.heap b o/\∃o',s'.heap.get? b=some o':=λb o e=>by
     cases q:H b with
     | none =>
      have z:=un.keep b o e q (by intro z;exact absurd (show b∈([]:z0p) from z) 88) 88;exact⟨.inl z,o,z⟩
     | some u =>
      rcases hO b with z | ⟨ob,xs,z⟩ | ⟨Fw,z⟩
      .rw [q] at z;cases z
      .have z2:=un.uc b ob _ z;obtain⟨e1,_⟩:=bI b _ z;obtain⟨e2,_⟩:=RU b _ z2;rw [e] at e1;cases e1;exact⟨.inl e2,_,e2⟩
      obtain⟨more,z2⟩:=un.tR b _ z;have e2:s'.heap.get? b=some (tabObj (#[]++more)):=RU b _ z2;rw [(NT b Fw).1] at e;cases e;obtain⟨c,hc⟩:=(NT b Fw).2.2;obtain⟨oc,TY,file,tf,flags,tg,inF,text,tt,d1,d2,d3,d4,_⟩:=codeHd_of_K KX hc;exact⟨.inr (.inl ⟨⟨c,oc,TY,d1,d2,d3,d4⟩,rfl,#[],more,rfl,e2⟩),_,e2⟩
    exact⟨rfl,⟨λb o e=>(each b o e).1,λb o e=>(each b o e).2⟩,os,bare⟩
 have na:a∉ts:=λz=>by
  have:=(NT a z).1;rw [ha] at this;cases this
 cases hk:K.lookup a with
 | some o =>
  have e:=KX a o hk;rw [ha] at e;cases e;refine core (λb=>if b∈ts then some (.tM #[]) else none) (λb=>?_) (λT h=>au h) (.inr ⟨_,vs.toArray,_,hk,rfl,rfl,rfl,by rw [cu,WJ];exact hl,by simpa using rv⟩) (λb u z=>?_) (λb z=>?_) λz=>absurd (ar na) z
  .by_cases h:b∈ts
   .exact .inr (.inr ⟨h,au h⟩)
   exact .inl (ar h)
  .by_cases h:b∈ts
   .have z':=(au h).symm.trans z;cases z';exact(NT b h).1
   have z':=(ar h).symm.trans z;cases z'
  by_cases h:b∈ts
  .exact .inr h
  exact absurd (ar h) z
 | none =>
  refine core (λb=>if b=a then some (.g9 { cls:=.type "list",data:=.seq vs.toArray } (.lst (ns.map V.int))) else if b∈ts then some (.tM #[]) else none) (λb=>?_) (λT h=>?_) (.inl (.inr ⟨{ cls:=.type "list",data:=.seq vs.toArray },au rfl⟩)) (λb u z=>?_) (λb z=>?_) λ_=>hk
  .by_cases hb:b=a
   .exact .inr (.inl ⟨_,_,au hb⟩)
   by_cases h:b∈ts
   .exact .inr (.inr ⟨h,(ar hb).trans (au h)⟩)
   exact .inl ((ar hb).trans (ar h))
  .exact(ar (λz:T=a=>na (z ▸ h))).trans (au h)
  .by_cases hb:b=a
   .have z':=(au hb).symm.trans z;cases z';subst hb;exact⟨ha,by rw [aA];exact hl,vs,_,rv,ha⟩
   by_cases h:b∈ts
   .have z':=((ar hb).trans (au h)).symm.trans z;cases z';exact(NT b h).1
   have z':=((ar hb).trans (ar h)).symm.trans z;cases z'
  by_cases hb:b=a
  .exact .inl hb
  by_cases h:b∈ts
  .exact .inr h
  exact absurd ((ar hb).trans (ar h)) z
def FO {l:OpenLaw}{n k:Nat}{q:Program}{loose:z0s}{d:DefRec}{K:Params->Frag}{CX:World->MA}{sp:World->Sp}{x:Str}{ts:z0p}
  (hn:l.most=some n)(LX:n<=sizeLine)(Se:d.params.defaults=[])(hr:fA k callerA)
  (hY:∀(w:World)(h:Heap),YP w h->(K w.params).In h/\∀T∈ts,h.get? T=some (tabObj #[]))
  (hK:∀w:World,∀T∈ts,(K w.params).lookup T=none/\∃c,codeHdIn (K w.params) c T=true)
  (F:∀(w:World)(mg:z0c)(fa:Addr)(h:Heap),(K w.params).In h->h.Ns mainGlobals mg->mg d.name=some (.ref fa) ->
   ∃fd:FuncData,(∀(s:Shared)(u:Value),BindsTo s fd ⟨[u],[]⟩ [(x,u)]) /\
    ∀base:Heap,(K w.params).In base->base.Ns mainGlobals mg->tL mg base->bS l.prog w (K w.params) mg base (CX w) k fa fd [x] (sp w))
  (Fs:∀(w:World)(H:Hp)(a:Addr)(ns:z0t),ns.length<=n->Ja ts H->(∀T∈ts,H T=some (.tM #[]))->aJ (K w.params) H a (ns.map V.int)->sp w [.ref a] H (λv _=>v=.bl true) λ_ _ _=>False)
  (X9:∀(w:World)(H:Hp)(s:Shared)(e:Value)(s':Shared),CX w [] H s (λ_ _ _=>False) e s'->False) :
  WalkO q loose XP YP l.row.toRowW d [] (λf vs=>PySem.call f vs):=by
 refine vm.zH hn Se λw s₀ s₁ mg mb fa o pm cd doc a vs ns G Y ho hd xA R1 N1 hints bM hg=>?_;obtain⟨KX,TX⟩:=hY w _ Y;obtain⟨fd,hb,hF⟩:=F w mg fa _ KX G.T.g R1;exact Et KX G.T.g G.T.b G.T.builtins G.T.nolimit G.T.bmain hg (λT hT=>⟨TX T hT,hK w T hT⟩) N1 hints (dU bM LX) hr hF hb (λH hO hT hS=>Fs w H a ns bM hO hT hS) λH e s'=>X9 w H s₁ e s'
def bf {X:Cx}{scope:Scope}{js:z0i}(h:(js.all λp=>X.N[p.1]? == some p.2 && X.env.scope.names.lookup p.2 == some .cell && scope.names.lookup p.2 == some .free)=true)
  (h2:(scope.names.all λy=>y.2 != .free || X.env.scope.names.lookup y.1 == some .cell)=true):Lj X scope js:=by
 refine⟨λp hp=>?_,λy hy=>?_⟩
 .have:=gb.mp h p hp;simp only [oF,beq_iff_eq] at this;exact⟨this.1.1,this.1.2,this.2⟩
 have:=gb.mp h2 _ hy;simpa using this
def BA {σ:St}{A B:143}(h:A H):i3 σ H λb H3=>if b=true then A H3 else B H3:=by
 show if true=true then A H else B H;exact tZ h
def goN {i:Nat}{v:V}{σ:St}{Q:St->143}(h:Q (σ.set i (some v)) H):eB i v σ H Q:=h
def IJ (ns:z0t)(lo hi:z0n):∃Wg:z0t,lG (ns.map V.int) lo hi=Wg.map V.int/\(∀n∈Wg,n∈ns)/\Wg.length<=ns.length :=
 ⟨(ns.drop (HT.rA (ns.map V.int).length 0 lo)).take (HT.rA (ns.map V.int).length (ns.map V.int).length hi - HT.rA (ns.map V.int).length 0 lo),by unfold lG;rw [<-List.map_drop,<-List.map_take],λn hn=>List.mem_of_mem_drop (vM hn),by rw [dB,qN];omega⟩
def HI {X:Cx}(K:aU)(hK:X.K=K:=by rfl):TF X (QS K):=by
 subst hK;exact bW
def qx {X:Cx}(K:aU)(hK:X.K=K:=by rfl):TF X (QR K):=by
 subst hK;exact bR
def iD {X:Cx}{k:Nat}{t:My}(K:aU)(hc:X.calm=true)(h:Tx X es t)(hK:X.K=K:=by rfl)
  (hn:(assignEach es X.env).length=n:=by rfl)(qy:(assignEach es X.env).findIdx? 84=none:=by rfl):PG X (.Tuple es k pos) (BE K n t):=by
 subst hK;exact dZ hc h hn qy
end L2
section
variable {P:PySem.Program}{w:PySem.World}{K:aU}{mg:PySem.Str->Option PySem.Value}{base:PySem.Heap}{f:PySem.Addr}{fd:PySem.FuncData}
namespace gM
open PySem L2
def top (i:Nat):Stmt:=PySem.Challenge.pw_wright_k47_strengths.main.body.getD i (.Pass ⟨0,0,0,0⟩)
abbrev AH:Stmt:=top 2
abbrev AA:Stmt:=top 3
abbrev rD:Stmt:=top 14
abbrev wF:Stmt:=top 15
abbrev AI:Stmt:=top 16
abbrev Gd:Stmt:=top 26
abbrev AD:Stmt:=top 27
abbrev M5:Stmt:=top 28
abbrev rq:Stmt:=top 30
abbrev wI:Stmt:=top 31
abbrev nA:Stmt:=top 32
abbrev wD:Stmt:=top 35
abbrev AB:Stmt:=top 36
abbrev M8:Stmt:=top 37
abbrev Ge:Stmt:=top 44
abbrev Gb:Stmt:=top 4
abbrev M7:Stmt:=top 5
abbrev nE:Stmt:=top 39
abbrev oW:Stmt:=top 40
abbrev rC:Stmt:=top 41
abbrev sLT:Stmt:=top 42
structure Txt (mg:z0c):Prop where
 len:mg "len"=none
 Gk:mg "range"=none
 isi:mg "isinstance"=none
 tup:mg "tuple"=none
 lst:mg "list"=none
 Dp:mg "dict"=none
 all:mg "all"=none
 any:mg "any"=none
 str:mg "str"=none
 int:mg "int"=none
 boo:mg "bool"=none
 Jt:mg "enumerate"=none
 sum:mg "sum"=none
 max:mg "max"=none
 min:mg "min"=none
section
def boot_all:bootBuiltins "all"=some (.builtin "all"):=by decide +kernel
def fZ:bootBuiltins "list"=some (.type "list"):=by decide +kernel
def eY:bootBuiltins "dict"=some (.type "dict"):=by decide +kernel
end
end gM
namespace L2
open PySem
def bT {K:aU}{D a:Addr}{xs ys:List V}{o:HO}(hD:H D=some (.lst ys))(h:aQ K H a xs):aQ K (upd H D o) a xs:=by
 rcases h with (h | ⟨u,h⟩) | h
 .exact .inl (.inl (by rw [ai (λz=>by rw [z,hD] at h;cases h)];exact h))
 .exact .inl (.inr ⟨u,by rw [ai (λz=>by rw [z,hD] at h;cases h)];exact h⟩)
 exact .inr h
def xU (kvs:139)(k:aL):(kvs.any λkv=>decide (kv.1=k))=true↔k∈kvs.map 84:=by
 rw [List.any_eq_true,bD];constructor
 .rintro⟨x,h1,h2⟩;exact⟨x,h1,dC h2⟩
 rintro⟨x,h1,h2⟩;exact⟨x,h1,cZ h2⟩
def AR {kvs:139}{k:aL}{v:V}(h:k∈kvs.map 84):(bx kvs k v).map 84=kvs.map 84:=by
 unfold bx;rw [au ((xU kvs k).mpr h),fj];refine vG λx hx=>?_;show (if x.1=k then (x.1,v) else x).1=x.1
 split <;> rfl
def iB {kvs:139}{k:aL}{v:V}(h:¬k∈kvs.map 84):(bx kvs k v).map 84=kvs.map 84++[k]:=by
 unfold bx;rw [ar (λz=>h ((xU kvs k).mp z)),bC];rfl
def d_ (kvs:139)(k:aL):(aT kvs k).isSome=true↔k∈kvs.map 84:=by
 rw [<-hZ];exact xU kvs k
theorem cH {α β γ:Type}{F:α->β->Prop}{G:α->γ->Prop}{φ:β->γ}:∀{xs:List α}{ys:List β},Paired F xs ys->(∀a b,F a b->G a (φ b))->Paired G xs (ys.map φ)
 | _,_,.nil,_=>.nil
 | _,_,.cons h t,k=>.cons (k _ _ h) (cH t k)
def cR {l:z0s}:(136:aL)∈l.map Sum.inr↔z∈l:=by
 rw [bD];constructor
 .rintro⟨x,h1,h2⟩;rw [<-mf h2];exact h1
 intro h;exact⟨z,h,rfl⟩
end L2
namespace M11
abbrev aB:=PySem.Str×List PySem.Str
def gL (a:List PySem.Str)(h:PySem.Str):List PySem.Str:=if h∈a then a else a++[h]
def xM (bz hs:List PySem.Str):List PySem.Str:=hs.foldl gL bz
def addW (cI a:List PySem.Str)(p:PySem.Str):List PySem.Str:=if p∈cI then a else gL a p
def qj (cI bz ps:List PySem.Str):List PySem.Str:=ps.foldl (addW cI) bz
def Pn (aa:87)(name:PySem.Str) (k:Nat):Bool:=decide ((aa[k]?.map 84)=some name)
def nums (aa:87)(name:PySem.Str) (i:Nat):z0t:=((List.range i).filter (Pn aa name)).map λk:Nat=>(k:Int)
def Ei (aa:87)(name:PySem.Str) (i:Nat):nums aa name (i+1)=nums aa name i++(if Pn aa name i=true then [(i:Int)] else []):=by
 unfold nums;rw [List.range_succ,jR,bC]
 congr 1
 by_cases h:Pn aa name i=true
 .rw [au h];simp [h]
 rw [ar h];simp [h]
def yL (aa:87)(name:PySem.Str) (i:Nat):(nums aa name i).length<=i:=by
 unfold nums;rw [aA];have:=iz (Pn aa name) (List.range i);rw [mU] at this;exact this
def zM (a:List PySem.Str)(h:PySem.Str):(gL a h).length<=a.length+1:=by
 unfold gL;split <;> simp
theorem iG:∀(hs bz:List PySem.Str),(xM bz hs).length<=bz.length+hs.length
 | [],bz=>by simp [xM]
 | h::r,bz=>by
  have:=iG r (gL bz h);have:=zM bz h;show (xM (gL bz h) r).length<=_;rw [dW];omega
def IV (cI a:List PySem.Str)(p:PySem.Str):(addW cI a p).length<=a.length+1:=by
 unfold addW;split
 .omega
 exact zM a p
theorem v9 (cI:List PySem.Str):∀(ps bz:List PySem.Str),(qj cI bz ps).length<=bz.length+ps.length
 | [],bz=>by simp [qj]
 | p::r,bz=>by
  have:=v9 cI r (addW cI bz p);have:=IV cI bz p;show (qj cI (addW cI bz p) r).length<=_;rw [dW];omega
end M11
namespace gM
open PySem L2 M11
def ky {bz:139}{as:z0s}(e:bz.map 84=as.map Sum.inr)(h:Str){v:V}:(bx bz (Sum.inr h) v).map 84=(gL as h).map Sum.inr:=by
 unfold gL;by_cases q:h∈as
 .rw [au q,AR (by rw [e];exact cR.mpr q),e]
 rw [ar q,iB (by rw [e];exact λz=>q (cR.mp z)),e,bC];rfl
theorem nR:∀(hs:z0s)(bz:139) (as:z0s),bz.map 84=as.map Sum.inr->(cP (hs.map λh=>((Sum.inr h:aL),V.bl true)) bz).map 84=(xM as hs).map Sum.inr
 | [],bz,as,e=>e
 | h::r,bz,as,e=>by
  refine nR r (bx bz (Sum.inr h) (.bl true)) (gL as h) ?_;exact ky e h
def keys_str {kvs:139}{zs:z0s}(e:kvs.map 84=zs.map Sum.inr):(kvs.map λp=>kV p.1)=zs.map V.str:=by
 have e2:(kvs.map λp=>kV p.1)=(kvs.map 84).map kV:=by rw [fj];rfl
 rw [e2,e,fj];rfl
section
def zN (K:aU)(H:Hp)(r:Addr)(ru:aB):Prop:=∃p,aQ K H r [.str ru.1,.ref p]/\aQ K H p (ru.2.map V.str)
def bu (K:aU)(H:Hp)(rs:z0p)(aa:87):Prop:=Paired (λr ru=>zN K H r ru) rs aa
def bu.keep {rs:z0p}{aa:87}(h:bu K H rs aa)(k:∀a xs,aQ K H a xs->aQ K H' a xs):bu K H' rs aa:=Paired.iq h λr ru ⟨p,a,b⟩=>⟨p,k _ _ a,k _ _ b⟩
def bu.same {rs:z0p}{aa:87}(h:bu K H rs aa)(s:aF H H'):bu K H' rs aa:=h.keep λ_ _ z=>s.tup z
def bu.get {rs:z0p}{aa:87}(h:bu K H rs aa){i:Nat}{r:Addr}(e:rs[i]?=some r):∃ru,aa[i]?=some ru/\zN K H r ru:=by
 have l:=a9 h;have li:=(bw.mp e).1;have e2:aa[i]?=some (aa[i]'∅):=dA ∅;obtain⟨x,e3,e4⟩:=Paired.at_ h i _ e2;rw [e] at e3;cases e3;exact⟨_,e2,e4⟩
def sU {H:Hp}{R D:Addr}{rs:z0p}{aa:87}{σ:St}{Qp:143}(hR:aJ K H R 180)(cU:bu K H rs aa)(bM:aa.length<=1000)(hD:H D=none)
  (q:∀ts H2,aF H H2->H2 D=222->Paired (λt h=>aQ K H2 t [.str h,.bl true]) ts (aa.map 84)->Qp H2) :
  ∃W:370,(∃m,W 0 m [] (eF ["head","parts"] [] σ) 237) /\
 ∀i m ys σ' H,W i m ys σ' H->((l_ K R).stop i H/\Qp H)\/((l_ K R).go i H/\∃m',m' < m/\∀x H',(l_ K R).oR i H x H'->BE K 2 (kJ (eB 0) (kJ (eB 1) Ij)) x σ' H' λσ2 H2=>i3 σ2 H2 λb H3 =>
  if b=true then tT (fQ (gH 0) (fQ (tC (.bl true)) q9)) σ2 H3 323 else W (i+1) m' ys σ2 H3):=by
 have ll:=a9 cU;refine bN (xs:=156) (λi ys σ2 H2=>∃ts:z0p,ys=155/\ts.length=i/\Paired (λt h=>aQ K H2 t [.str h,.bl true]) ts ((aa.take i).map 84)/\(∃y0 y1,σ2=[y0,y1])/\449)
  ⟨[],rfl,rfl,.nil,⟨none,none,rfl⟩,ag hD _,ae⟩ (λi ys σ2 H2 _ h=>?_) (λi x ys σ2 H2 ex h=>?_) (λys σ2 H2 h=>?_)
 .obtain⟨_,_,_,_,_,sm,_⟩:=h;exact sm.seq hR
 .obtain⟨ts,rfl,ht,hp,⟨y0,y1,rfl⟩,sm,hd⟩:=h;rw [aS] at ex;obtain⟨r,er,rfl⟩:=bQ.mp ex;obtain⟨ru,e1,p,v1,v2⟩:=cU.get er;have li:=(bw.mp e1).1;refine⟨r,_,rfl,sm.tup v1,rfl,_,_,rfl,_,_,rfl,rfl,?_⟩;refine BA ?_;refine⟨_,rfl,kR,λt ji=>⟨?_,220,ts++[t],?_,?_,?_,⟨_,_,rfl⟩,?_,ae⟩⟩
  .rw [ai (ay hd ji)];exact hd
  .rw [bC];rfl
  .rw [bH,ht];rfl
  .rw [d7,e1,bC];have iQ:upd H2 t (.tup [.str ru.1,.bl true]) D=222:=by rw [ai (ay hd ji)];exact hd
   exact fN (Paired.iq hp λt' h' z=>bT iQ ((ag ji _).tup z)) (bT iQ (aQ.of ae))
  intro b o hb;rw [450];exact ag ji _ _ _ (sm b o hb)
 obtain⟨ts,rfl,ht,hp,_,sm,hd⟩:=h;rw [aA,ll,cE] at hp;exact q ts H2 sm hd hp
def kW (K:aU):Sp:=λvs H Q _=>∃(R:Addr)(rs:z0p)(aa:87),vs=[.ref R]/\aJ K H R 180/\bu K H rs aa/\aa.length<=1000 /\
 ∀D H',H D=none->aF H H'->H' D=some (.lst ((xM [] (aa.map 84)).map V.str))->Q (.ref D) H'
def JK:aN ["rules"] ["rules"] (az AH):=185
def G_ (F:iU K "heads_of" "heads_of" AH f fd)(T:Txt mg):bS P w K mg base fC 1 f fd ["rules"] (kW K):=by
 refine F.ok JK 198 217
 .obtain⟨R,rs,aa,rfl,_⟩:=h;rfl
 obtain⟨R,rs,aa,rfl,hR,cU,bM,q⟩:=h;refine⟨_,av (bp (a8 (mP rfl) rfl T.lst fZ (af (a8 (dS rfl) rfl T.Dp eY (af
  (bK ["head","parts"] [] rfl (aV (pv 0)) (bf rfl rfl) nofun rfl nofun
   (λ_ _ _ _ _=>iD (n:=2) K rfl (aE (aw (i:=0) (show (["head","parts"]:z0s).Nodup by decide +kernel) rfl 86) (aE (aw (i:=1) (show (["head","parts"]:z0s).Nodup by decide +kernel) rfl 86) bV))) (λ_ _ _ _ _=>cQ)
   (λ_ _ _ _ _=>bq (af (pv 0) (af gQ aq)))) aq)) aq))),?_⟩
 dsimp only [lF];refine⟨_,rfl,R,rfl,⟨_,hR⟩,λD hD=>sU hR cU bM hD λts H2 sm hd hp=>?_⟩;have kp:Paired (λt (kv:aL×V)=>aQ K H2 t [kV kv.1,kv.2]) ts ((aa.map 84).map λh=>((Sum.inr h:aL),V.bl true)):=cH hp λ_ _ z=>z;refine⟨D,ts,_,rfl,hd,kp,λd hd2=>?_⟩;refine⟨d,_,rfl,ae,λD2 ph=>?_⟩;rw [keys_str (nR (aa.map 84) [] [] rfl)];have nd:D2≠d:=λz=>by rw [z,ae] at ph;cases ph
 exact q D2 _ (sm.free (by rw [ai nd] at ph;exact ph)) (sm.trans ((ag hd2 _).trans (ag ph _))) ae
theorem jd:∀(aa:87) (n:Nat),aa.length<=n->325->(aa.flatMap (·.2)).length<=8 * n
 | [],n,_,_=>by simp
 | ru::r,n,hl,h=>by
  rw [dW] at hl;have:=jd r (n - 1) ∅ λx hx=>h x (b9 _ hx);have:=h ru bP;rw [List.flatMap_cons,bH];omega
def hd (aa:87):z0s:=xM [] (aa.map 84)
def Cv (K:aU):Sp:=λvs H Q _=>∃(R:Addr)(rs:z0p)(aa:87),vs=[.ref R]/\aJ K H R 180/\bu K H rs aa/\aa.length<=1000/\325 /\
 ∀D H',H D=none->aF H H'->H' D=some (.lst ((qj (hd aa) [] (aa.flatMap (·.2))).map V.str))->Q (.ref D) H'
def kX:aN ["rules","heads","words","head","parts","part"] ["rules"] (az AA):=185
def G3 (F:iU K "words_in" "words_in" AA f fd)(T:Txt mg):bS P w K mg base fC 1 f fd ["rules"] (Cv K):=by
 refine F.ok kX 198 217
 .obtain⟨R,rs,aa,rfl,_⟩:=h;rfl
 obtain⟨R,rs,aa,rfl,hR,cU,bM,h8,q⟩:=h;have hu:=eJ hr;refine⟨_,aj (aG (i:=1) kX.nd rfl 86 (a8 (dS rfl) rfl T.Dp eY (af
  (bK ["head","parts"] [] rfl (aV (pv 0)) (bf rfl rfl) nofun rfl nofun
   (λ_ _ _ _ _=>iD (n:=2) K rfl (aE (aw (i:=0) (show (["head","parts"]:z0s).Nodup by decide +kernel) rfl 86) (aE (aw (i:=1) (show (["head","parts"]:z0s).Nodup by decide +kernel) rfl 86) bV))) (λ_ _ _ _ _=>cQ)
   (λ_ _ _ _ _=>bq (af (pv 0) (af gQ aq)))) aq)))
  (aj (aG (i:=2) kX.nd rfl 86 fV)
  (aj (bJ cq rfl (aV (pv 0)) (dZ rfl (aE (aw (i:=3) kX.nd rfl 86) (aE (aw (i:=4) kX.nd rfl 86) bV)))
   (av (bJ cq rfl (gO (pv 4)) (aw (i:=5) kX.nd rfl 86)
    (av (cS (dG (dX hu (pv 5) (pv 1))) (av (gW hu (pv 2) (pv 5) gQ rfl)) bo)))))
  (av (bp (a8 (mP rfl) rfl T.lst fZ (af (pv 2) aq)))))),?_⟩
 nofun
 refine⟨_,rfl,R,rfl,⟨_,hR⟩,λD hD=>sU hR cU bM hD λts H2 sm hd2 hp=>?_⟩;have kp:Paired (λt (kv:aL×V)=>aQ K H2 t [kV kv.1,kv.2]) ts ((aa.map 84).map λh=>((Sum.inr h:aL),V.bl true)):=cH hp λ_ _ z=>z;refine⟨D,ts,_,rfl,hd2,kp,λd EF=>?_⟩;have LO:(cP ((aa.map 84).map λh=>((Sum.inr h:aL),V.bl true)) []).map 84=(hd aa).map Sum.inr:=nR (aa.map 84) [] [] rfl;generalize cP ((aa.map 84).map λh=>((Sum.inr h:aL),V.bl true)) []=kH at LO ⊢;have O7:=sm.trans (ag EF (.dK kH));have iQ:upd H2 d (.dK kH) d=some (.dK kH):=ae;generalize upd H2 d (.dK kH)=H3 at O7 iQ;intro e he;have hde:∀o,upd H3 e o d=some (.dK kH):=λo=>by rw [ai (ay iQ he)];exact iQ
 have CK:∀o,aF H (upd H3 e o):=λo=>O7.trans (ag he o);have ll:=a9 cU
 let zO:zP:=λi σ H5=>∃(kvs:139)(y3 y4 y5:149),σ=[a7 R,a7 d,a7 e,y3,y4,y5]/\H5=upd H3 e (.dK kvs) /\
  kvs.map 84=(qj (hd aa) [] ((aa.take i).flatMap (·.2))).map Sum.inr
 refine⟨_,rfl,R,rfl,⟨_,(CK _).seq hR⟩,cO (xs:=156) zO ⟨[],none,none,none,rfl,rfl,rfl⟩ ?_ ?_ ?_⟩
 .rintro i σ H5 _ ⟨kvs,y3,y4,y5,rfl,rfl,_⟩;exact(CK _).seq hR
 .rintro i x σ H5 ex ⟨kvs,y3,y4,y5,rfl,rfl,hk⟩
  ac_nf0
  rw [aS] at ex;obtain⟨r,er,rfl⟩:=bQ.mp ex;obtain⟨ru,e1,p,v1,v2⟩:=cU.get er;have li:=(bw.mp e1).1;have Jp:=h8 ru (bE e1);have eT:(aa.take (i+1)).flatMap (·.2)=(aa.take i).flatMap (·.2)++ru.2:=by
   rw [d7,e1,oM];simp
  have lA:((aa.take i).flatMap (·.2)).length<=8 * i:=jd (aa.take i) i (by rw [dB];omega) λru tO=>h8 ru (vM tO);refine⟨r,_,rfl,(CK _).tup v1,rfl,_,_,rfl,_,_,rfl,rfl,?_⟩
  let Jd:zP:=λj σ H6=>∃(kvs:139)(y5:149),σ=[a7 R,a7 d,a7 e,some (.str ru.1),a7 p,y5]/\H6=upd H3 e (.dK kvs) /\
   kvs.map 84=(qj (hd aa) [] ((aa.take i).flatMap (·.2)++ru.2.take j)).map Sum.inr
  refine⟨_,rfl,p,rfl,⟨_,(CK _).tup v2⟩,qC (xs:=ru.2.map V.str) Jd ⟨kvs,_,rfl,rfl,by rw [List.take_zero,fq];exact hk⟩ ?_ ?_ ?_⟩
  .rintro j σ H6 _ ⟨kvs,y5,rfl,rfl,_⟩;exact(CK _).tup v2
  .rintro j x σ H6 Iv ⟨kvs,y5,rfl,rfl,ED⟩
   ac_nf0
   rw [aS] at Iv;obtain⟨z,ez,rfl⟩:=bQ.mp Iv;have lj:=(bw.mp ez).1;have eS:qj (hd aa) [] ((aa.take i).flatMap (·.2)++ru.2.take (j+1))=addW (hd aa) (qj (hd aa) [] ((aa.take i).flatMap (·.2)++ru.2.take j)) z:=by
    rw [d7,ez,<-lK];exact vw
   have lk:kvs.length<=8 * i+8:=by
    have h1:kvs.length=(qj (hd aa) [] ((aa.take i).flatMap (·.2)++ru.2.take j)).length:=by
     have:=congrArg List.length ED;rw [aA,aA] at this;exact this
    have h2:=v9 (hd aa) ((aa.take i).flatMap (·.2)++ru.2.take j) [];rw [bH,dB] at h2;simp only [jD] at h2;omega
   have mem:(aT kH 153).isSome=true↔z∈hd aa:=by rw [d_,LO];exact cR
   refine⟨_,rfl,_,rfl,d,_,rfl,cb.k (k:=136) (hde _),_,rfl,?_⟩;refine dj (λc=>?_) (λc=>?_)
   .have nm:z∉hd aa:=λh=>by rw [mem.mpr h] at c;exact absurd c nofun
    refine⟨_,rfl,_,rfl,e,_,rfl,tK.k (k:=136) ae (bF ∅),?_⟩;refine⟨bx kvs 153 (.bl true),_,rfl,by rw [wa],?_⟩;rw [eS];unfold addW;rw [ar nm];exact ky ED z
   have im:z∈hd aa:=mem.mp (by
    cases h:(aT kH 153).isSome with
    | true=>rfl
    | false=>exact absurd (by rw [h];rfl) c)
   refine⟨kvs,_,rfl,rfl,?_⟩;rw [eS];unfold addW;rw [au im];exact ED
  rintro σ H6 ⟨kvs,y5,rfl,rfl,ED⟩;rw [aA,cE,<-eT] at ED;exact⟨kvs,_,_,_,rfl,rfl,ED⟩
 rintro σ H5 ⟨kvs,y3,y4,y5,rfl,rfl,hk⟩;rw [aA,ll,cE] at hk;refine⟨_,rfl,e,_,rfl,ae,λD2 ph=>?_⟩;rw [keys_str hk];exact q D2 _ ((CK _).free ph) ((CK _).trans (ag ph _)) ae
end
end gM
namespace L2
open PySem
section
variable {K:aU}{a D:Addr}{xs:List V}{ts:z0s}{js:z0i}{g:TG}{tif:TT}{te:TE}{R:143}{σ:St}{H:Hp}
def hJ (Pv:Nat->List V->St->143)(h0:Pv 0 [] (eF ts js σ) 237)(hl:∀i ys σ H,i<=xs.length->Pv i ys σ H->aQ K H a xs)
  (hs:∀i x ys σ H,xs[i]?=some x->Pv i ys σ H->g x σ H 468)
  (hd:∀ys σ H,Pv xs.length ys σ H->R H) :
  ∃W:370,(∃m,W 0 m [] (eF ts js σ) 237) /\
 ∀i m ys σ' H,W i m ys σ' H->((tF K a).stop i H/\R H)\/((tF K a).go i H/\∃m',m' < m/\∀x H',(tF K a).oR i H x H'->g x σ' H' λσ2 H2=>tif σ2 H2 λb H3 =>
  if b=true then te σ2 H3 323 else W (i+1) m' ys σ2 H3):=by
 refine⟨λi m ys σ H=>m=xs.length - i/\i<=xs.length/\Pv i ys σ H,⟨xs.length,by simp,cY _,h0⟩,?_⟩;rintro i m ys σ' H ⟨rfl,hi,p⟩;have q:=hl i ys σ' H hi p;by_cases gR:i < xs.length
 .refine .inr ⟨⟨xs,xs[i],q,by simp [gR]⟩,xs.length - (i+1),∅,λx H' y=>?_⟩;obtain⟨e,y⟩:=y;subst e;have z:=hs i x ys σ' _ (y xs q) p;have h1:(i+1<=xs.length)=True:=eq_true gR;simp only [h1,true_and];exact z
 have e:i=xs.length:=by omega
 subst e;exact .inl ⟨⟨xs,q,aH _⟩,hd ys σ' H p⟩
def zz (Pv:Nat->List V->St->143)(h0:Pv 0 [] (eF ts js σ) 237)(hl:∀i ys σ H,i<=xs.length->Pv i ys σ H->aQ K H a xs)
  (hs:∀i x ys σ H t,xs[i]?=some x->Pv i ys σ H->H t=none->g (.ref t) σ (upd H t (.tup [161,x])) 468)
  (hd:∀ys σ H,Pv xs.length ys σ H->R H) :
  ∃W:370,(∃m,W 0 m [] (eF ts js σ) 237) /\
 ∀i m ys σ' H,W i m ys σ' H->((tG K a).stop i H/\R H)\/((tG K a).go i H/\∃m',m' < m/\∀x H',(tG K a).oR i H x H'->g x σ' H' λσ2 H2=>tif σ2 H2 λb H3 =>
  if b=true then te σ2 H3 323 else W (i+1) m' ys σ2 H3):=by
 refine⟨λi m ys σ H=>m=xs.length - i/\i<=xs.length/\Pv i ys σ H,⟨xs.length,by simp,cY _,h0⟩,?_⟩;rintro i m ys σ' H ⟨rfl,hi,p⟩;have q:=hl i ys σ' H hi p;by_cases gR:i < xs.length
 .refine .inr ⟨⟨xs,xs[i],q,by simp [gR]⟩,xs.length - (i+1),∅,λx H' y=>?_⟩;obtain⟨t,y0,rfl,ht,rfl,y⟩:=y;have z:=hs i y0 ys σ' _ t (y xs q) p ht;have h1:(i+1<=xs.length)=True:=eq_true gR;simp only [h1,true_and];exact z
 have e:i=xs.length:=by omega
 subst e;exact .inl ⟨⟨xs,q,aH _⟩,hd ys σ' H p⟩
end
def jc {K:aU}{a:Addr}{xs:List V}{g:TG}{tb:TS}{D:Ends}{σ:St}(Pv:Nat->St->143)(h0:Pv 0 σ H)(hl:∀i σ H,i<=xs.length->Pv i σ H->aJ K H a xs)
  (hs:∀i x σ H t,xs[i]?=some x->Pv i σ H->H t=none->g (.ref t) σ (upd H t (.tup [161,x])) λσ2 H2=>tb { D with nx:=Pv (i+1),ct:=Pv (i+1),bk:=D.nx } σ2 H2)(hd:∀σ H,Pv xs.length σ H->D.nx σ H) :
  ∃W:Nat->Nat->St->143,(∃m,W 0 m σ H)/\∀i m σ H,W i m σ H ->
   ((TJ K a).stop i H/\D.nx σ H)\/((TJ K a).go i H/\∃N:St->143,(∀σ' H',N σ' H'->∃m',m' < m/\W (i+1) m' σ' H')/\∀x H',(TJ K a).oR i H x H'->g x σ H' λσ2 H2=>tb { D with nx:=N,ct:=N,bk:=D.nx } σ2 H2):=by
 refine⟨λi m σ H=>m=xs.length - i/\i<=xs.length/\Pv i σ H,⟨xs.length,by simp,cY _,h0⟩,?_⟩;rintro i m σ H ⟨rfl,hi,p⟩;have q:=hl i σ H hi p;by_cases gR:i < xs.length
 .refine 471;obtain⟨t,y0,rfl,ht,rfl,y⟩:=y;exact hs i y0 σ _ t (y xs q) p ht
 have e:i=xs.length:=by omega
 subst e;exact .inl ⟨⟨xs,q,aH _⟩,hd σ H p⟩
def pj {K:aU}{a:Addr}{xs:List V}{g:TG}{tb:TS}{D:Ends}{σ:St}(Pv:Nat->St->143)(h0:Pv 0 σ H)(hl:∀i σ H,i<=xs.length->Pv i σ H->aQ K H a xs)
  (hs:∀i x σ H t,xs[i]?=some x->Pv i σ H->H t=none->g (.ref t) σ (upd H t (.tup [161,x])) λσ2 H2=>tb { D with nx:=Pv (i+1),ct:=Pv (i+1),bk:=D.nx } σ2 H2)(hd:∀σ H,Pv xs.length σ H->D.nx σ H) :
  ∃W:Nat->Nat->St->143,(∃m,W 0 m σ H)/\∀i m σ H,W i m σ H ->
   ((tG K a).stop i H/\D.nx σ H)\/((tG K a).go i H/\∃N:St->143,(∀σ' H',N σ' H'->∃m',m' < m/\W (i+1) m' σ' H')/\∀x H',(tG K a).oR i H x H'->g x σ H' λσ2 H2=>tb { D with nx:=N,ct:=N,bk:=D.nx } σ2 H2):=by
 refine⟨λi m σ H=>m=xs.length - i/\i<=xs.length/\Pv i σ H,⟨xs.length,by simp,cY _,h0⟩,?_⟩;rintro i m σ H ⟨rfl,hi,p⟩;have q:=hl i σ H hi p;by_cases gR:i < xs.length
 .refine 471;obtain⟨t,y0,rfl,ht,rfl,y⟩:=y;exact hs i y0 σ _ t (y xs q) p ht
 have e:i=xs.length:=by omega
 subst e;exact .inl ⟨⟨xs,q,aH _⟩,hd σ H p⟩
def u0 {K:aU}{H:Hp}{p D d:Addr}{zs:z0s}{kvs:139}{σ:St}{js:z0i}{Qp:143}(hσ:eF ["part"] js σ=[none,a7 d])(hp:aQ K H p (zs.map V.str))(hz:zs.length<=1000)
  (hd:H d=184)(hD:H D=none)(q:∀H2,aF H H2->H2 D=some (.lst ((zs.map λz=>(aT kvs 153).isSome).map V.bl))->Qp H2) :
  ∃W:370,(∃m,W 0 m [] (eF ["part"] js σ) 237) /\
 ∀i m ys σ' H,W i m ys σ' H->((tF K p).stop i H/\Qp H)\/((tF K p).go i H/\∃m',m' < m/\∀x H',(tF K p).oR i H x H'->eB 0 x σ' H' λσ2 H2=>i3 σ2 H2 λb H3 =>
  if b=true then Qx (gH 0) (gH 1) σ2 H3 323 else W (i+1) m' ys σ2 H3):=by
 refine hJ (xs:=zs.map V.str) (λi ys σ2 H2=>ys=(((zs.take i).map λz=>(aT kvs 153).isSome).map V.bl)/\(∃y0,σ2=[y0,a7 d])/\449)
  ⟨rfl,⟨none,hσ⟩,ag hD _,ae⟩ (λi ys σ2 H2 _ h=>h.2.2.1.tup hp) (λi x ys σ2 H2 ex h=>?_) (λys σ2 H2 h=>?_)
 .obtain⟨rfl,⟨y0,rfl⟩,sm,hd2⟩:=h;rw [aS] at ex;obtain⟨z,ez,rfl⟩:=bQ.mp ex;have li:=(bw.mp ez).1;refine goN (BA ?_);refine⟨_,rfl,_,rfl,d,_,rfl,cb.k (k:=136) (sm _ _ hd),hd2,bF (by rw [aA,aA,dB];omega),?_,⟨_,rfl⟩,?_,ae⟩
  .rw [d7,ez,bC,bC];rfl
  intro b o hb;rw [450];exact sm b o hb
 obtain⟨rfl,_,sm,hd2⟩:=h;rw [aA,cE] at hd2;exact q H2 sm hd2
def gI {K:aU}{D a:Addr}{xs:List V}{ys:139}{o:HO}(hD:H D=some (.dK ys))(h:aQ K H a xs):aQ K (upd H D o) a xs:=by
 rcases h with (h | ⟨u,h⟩) | h
 .exact .inl (.inl (by rw [ai (λz=>by rw [z,hD] at h;cases h)];exact h))
 .exact .inl (.inr ⟨u,by rw [ai (λz=>by rw [z,hD] at h;cases h)];exact h⟩)
 exact .inr h
theorem g8 {α:Type} [DecidableEq α]:∀(l m:List α),l.Nodup->(∀x∈l,x∈m)->l.length<=m.length
 | [],m,_,_=>cY _
 | a::l,m,hn,h=>by
  have hm:=h a bP;have:=g8 l (m.erase a) (jo.mp hn).2 λx hx=>(List.mem_erase_of_ne (λz:x=a=>(jo.mp hn).1 (by rw [<-z];exact hx))).mpr (h x (b9 _ hx));rw [List.length_erase_of_mem hm] at this;have:=List.length_pos_of_mem hm;rw [dW];omega
end L2
namespace M11
open PySem L2
inductive x9 (aa:87):z0h->Prop
 | nil:x9 aa []
 | snoc {a_:z0h}{k:Nat}{ru:aB}:x9 aa a_->aa[k]?=some ru->ru.1∉a_.map 84->(∀p∈ru.2,p∈a_.map 84)->x9 aa (a_++[(ru.1,k)])
def zT (aa:87) (n:Nat)(a_:z0h):Prop:=∀ru∈aa.take n,(∀p∈ru.2,p∈a_.map 84)->ru.1∈a_.map 84
def x9.nd {aa:87}{a_:z0h}(h:x9 aa a_):(a_.map 84).Nodup:=by
 induction h with
 | nil=>exact jn
 | snoc h e n p ih =>
  rw [bC];refine fM.mpr ⟨ih,by simp,λa ha b hb=>?_⟩;rw [oI,bA] at hb;exact λz=>n (by rw [<-hb,<-z];exact ha)
def x9.head {aa:87}{a_:z0h}(h:x9 aa a_):∀x∈a_.map 84,x∈aa.map 84:=by
 induction h with
 | nil=>simp
 | snoc h e n p ih =>
  intro x hx;rw [bC] at hx;rcases cD.mp hx with hx | hx
  .exact ih x hx
  rw [oI,bA] at hx;rw [hx];exact iw (bE e)
def x9.len {aa:87}{a_:z0h}(h:x9 aa a_):a_.length<=aa.length:=by
 have:=g8 _ _ h.nd h.head;rw [aA,aA] at this;exact this
end M11
namespace gM
open PySem L2 M11
section
def pH (K:aU)(H:Hp)(ts:z0p)(a_:z0h):Prop:=Paired (λt (e:Str×Nat)=>aQ K H t [.str e.1,.int (e.2:Int)]) ts a_
def pH.keep {ts:z0p}(h:pH K H ts a_)(k:∀a xs,aQ K H a xs->aQ K H' a xs):pH K H' ts a_:=Paired.iq h λt e z=>k _ _ z
structure DE (K:aU)(aa:87)(H H5:Hp)(D d:Addr)(ts:z0p)(a_:z0h)(kvs:139):Prop where
 sm:aF H H5
 hD:H5 D=222
 hd:H5 d=184
 keys:kvs.map 84=(a_.map 84).map Sum.inr
 ev:pH K H5 ts a_
 emp:x9 aa a_
def DE.same {aa:87}{D d:Addr}{ts:z0p}{kvs:139}(h:DE K aa H H5 D d ts a_ kvs)(s:aF H5 H6):DE K aa H H6 D d ts a_ kvs :=
 ⟨h.sm.trans s,s _ _ h.hD,s _ _ h.hd,h.keys,h.ev.keep λ_ _ z=>s.tup z,h.emp⟩
def DE.mem {aa:87}{D d:Addr}{ts:z0p}{a_:z0h}{kvs:139}(h:DE K aa H H5 D d ts a_ kvs)(z:Str):(aT kvs 153).isSome=true↔z∈a_.map 84:=by
 rw [d_,h.keys];exact cR
def DE.len {aa:87}{D d:Addr}{ts:z0p}{a_:z0h}{kvs:139}(h:DE K aa H H5 D d ts a_ kvs):ts.length=a_.length/\kvs.length=a_.length:=by
 refine⟨a9 h.ev,?_⟩;have:=congrArg List.length h.keys;simpa using this
def DE.more {aa:87}{D d t:Addr}{ts:z0p}{a_:z0h}{kvs:139}(h:DE K aa H H5 D d ts a_ kvs)(fD:H D=none)(fd:H d=none){k:Nat}{ru:aB}(e:aa[k]?=some ru)
  (n:ru.1∉a_.map 84)(p:∀x∈ru.2,x∈a_.map 84)(ht:upd H5 d (.dK (bx kvs (Sum.inr ru.1) (.bl true))) t=none) :
  DE K aa H (upd (upd (upd H5 d (.dK (bx kvs (Sum.inr ru.1) (.bl true)))) t (.tup [.str ru.1,.int (k:Int)])) D (.lst (155++[.ref t]))) D d (ts++[t]) (a_++[(ru.1,k)]) (bx kvs (Sum.inr ru.1) (.bl true)):=by
 have Rb:D≠d:=λz=>by have:=h.hD;rw [z,h.hd] at this;cases this
 have nt:t≠d:=λz=>by rw [z,ae] at ht;cases ht
 have RL:H5 t=none:=by rw [ai nt] at ht;exact ht
 have nDt:D≠t:=λz=>by rw [<-z,h.hD] at RL;cases RL
 have ph:upd (upd H5 d (.dK (bx kvs (Sum.inr ru.1) (.bl true)))) t (.tup [.str ru.1,.int (k:Int)]) D=222:=by rw [ai nDt,ai Rb];exact h.hD
 have kp:∀a xs,aQ K H5 a xs->aQ K (upd (upd (upd H5 d (.dK (bx kvs (Sum.inr ru.1) (.bl true)))) t (.tup [.str ru.1,.int (k:Int)])) D (.lst (155++[.ref t]))) a xs:=λa xs z =>
  bT ph ((ag ht _).tup (gI h.hd z))
 refine⟨λb o hb=>?_,by rw [ae,bC];rfl,by rw [ai Rb.symm,ai nt.symm,ae],?_,fN (h.ev.keep kp) (bT ph (aQ.of ae)),.snoc h.emp e n p⟩
 .have:=h.sm b o hb;rw [ai (λz=>by rw [z,fD] at hb;cases hb),ai (λz=>by rw [z,RL] at this;cases this),ai (λz=>by rw [z,fd] at hb;cases hb)];exact this
 rw [iB (by rw [h.keys];exact λz=>n (cR.mp z)),h.keys,bC,bC];rfl
def oU (K:aU):Sp:=λvs H Q _=>∃(R:Addr)(rs:z0p)(aa:87),vs=[.ref R]/\aJ K H R 180/\bu K H rs aa/\aa.length<=1000/\325 /\
 ∀D ts a_ H',H D=none->aF H H'->H' D=222->pH K H' ts a_->x9 aa a_->zT aa aa.length a_->Q (.ref D) H'
def gu:aN ["rules","told","empty","many","number","rule"] ["rules"] (az rD):=185
def Ba (F:iU K "found_empties" "found_empties" rD f fd)(T:Txt mg):bS P w K mg base fC 1 f fd ["rules"] (oU K):=by
 refine F.ok gu 198 217
 .obtain⟨R,rs,aa,rfl,_⟩:=h;rfl
 obtain⟨R,rs,aa,rfl,hR,cU,bM,h8,q⟩:=h;have hu:=eJ hr;refine⟨_,aj (aG (i:=1) gu.nd rfl 86 (bc aq))
  (aj (aG (i:=2) gu.nd rfl (Or.inr rfl) fV)
  (aj (aG (i:=3) gu.nd rfl 86 (Gy Ai aC))
  (aj (kb cq (bj uK (pv 3) (bL bX rfl T.len hU (af (pv 1) aq)) (cv _))
   (aj (aG (i:=3) gu.nd rfl 86 (bL bX rfl T.len hU (af (pv 1) aq)))
   (av (bJ cq rfl (lg rfl T.Jt (af (pv 0) aq)) (dZ rfl (aE (aw (i:=4) gu.nd rfl 86) (aE (aw (i:=5) gu.nd rfl 86) bV)))
    (av (cS (PW.pt (AQ (dG (dX hu (aY bR (pv 5) aC 152) (pv 2)))
      (wV (rE (bL (u6 rfl) rfl T.all boot_all (af (bK ["part"] [(2,"empty")] rfl (gO (aY bR (pv 5) aC 152)) (bf rfl rfl) nofun rfl nofun
       (λ_ _ _ _ _=>aw (i:=0) (show (["part","empty"]:z0s).Nodup by decide +kernel) rfl 86) (λ_ _ _ _ _=>cQ) (λ_ _ _ _ _=>GX (mD hu (pv 0) (pv 1)))) aq))))))
     (aj (gW hu (pv 2) (aY bR (pv 5) aC 152) gQ rfl)
     (av (df (il hX jG jH cN (pv 1) (af (bq (af (aY bR (pv 5) aC 152) (af (pv 4) aq))) aq))))) bo))))))
  (av (bp (pv 1)))))),?_⟩
 nofun
 refine⟨qi,λD hD d hd=>?_⟩;have Q8:d≠D:=λz=>by rw [z,ae] at hd;cases hd
 have uT:H d=none:=by rw [ai Q8] at hd;exact hd
 have e0:DE K aa H (upd 237 d (.dK [])) D d [] [] []:=⟨(ag hD _).trans (ag hd _),by rw [ai Q8.symm,ae];rfl,ae,rfl,.nil,.nil⟩;generalize upd 237 d (.dK [])=H0 at e0;refine⟨1,rfl,?_⟩;refine⟨λm σ H5=>∃(ts:z0p)(a_:z0h)(kvs:139) (many:Int)(y4 y5:149),σ=[a7 R,a7 D,a7 d,some (.int many),y4,y5]/\DE K aa H H5 D d ts a_ kvs/\-1<=many/\many<=a_.length/\(many=a_.length->zT aa aa.length a_)/\(m:Int)=aa.length+1 - many,
  ⟨aa.length+2,[],[],[],-1,none,none,rfl,e0,∅,by simp,by simp,by simp;omega⟩,?_⟩
 rintro m σ H5 ⟨ts,a_,kvs,many,y4,y5,rfl,S,b1,b2,cl,em⟩;obtain⟨lt,lk⟩:=S.len;refine⟨_,rfl,_,rfl,D,_,rfl,.inl (aJ.of S.hD),_,_,rfl,rfl,_,rfl,?_⟩;refine dj (λc=>?_) (λc=>?_)
 .have c':=dC c;rw [aA,lt] at c';refine⟨λσ H5=>∃(yk:z0p)(gX:z0h)(eO:139)(y4 y5:149),σ=[a7 R,a7 D,a7 d,some (.int (a_.length:Int)),y4,y5]/\DE K aa H H5 D d yk gX eO/\a_.length<=gX.length/\(gX.length=a_.length->zT aa aa.length gX),?_,?_⟩
  .rintro σ H6 ⟨yk,gX,eO,y4,y5,rfl,S2,l2,c2⟩;have:=S2.emp.len;exact⟨(aa.length+1 - a_.length:Int).toNat,∅,yk,gX,eO,_,_,_,rfl,S2,∅,∅,λz=>c2 ∅,∅⟩
  refine⟨_,rfl,D,_,rfl,.inl (aJ.of S.hD),?_⟩;rw [aA,lt];refine⟨_,rfl,R,_,rfl,S.sm.seq hR,?_⟩;refine jc (xs:=156) (λi σ H6=>∃(yk:z0p)(gX:z0h)(eO:139)(y4 y5:149),σ=[a7 R,a7 D,a7 d,some (.int (a_.length:Int)),y4,y5]/\DE K aa H H6 D d yk gX eO/\a_.length<=gX.length/\(gX.length=a_.length->zT aa i gX))
   ⟨ts,a_,kvs,_,_,rfl,S,aH _,λ_ ru tO=>by simp at tO⟩ ?_ ?_ ?_
  .rintro i σ H6 _ ⟨yk,gX,eO,y4,y5,rfl,S2,_⟩;exact S2.sm.seq hR
  .rintro i x σ H6 t ex ⟨yk,gX,eO,y4,y5,rfl,S2,l2,c2⟩ ht
   ac_nf0
   rw [aS] at ex;obtain⟨r,er,rfl⟩:=bQ.mp ex;obtain⟨ru,e1,p,v1,v2⟩:=cU.get er;have Jp:=h8 ru (bE e1);have S3:=S2.same (ag ht 397);have Kz:aQ K (upd H6 t 397) t [161,.ref r]:=aQ.of ae;generalize upd H6 t 397=H7 at S3 Kz;obtain⟨lt2,Uq⟩:=S3.len;have el2:=S3.emp.len;have tk:aa.take (i+1)=aa.take i++[ru]:=by rw [d7,e1];rfl
   have jJ:(¬((∀p∈ru.2,p∈gX.map 84)/\ru.1∉gX.map 84))->(gX.length=a_.length->zT aa (i+1) gX):=λhn z CN yY hp=>by
    rw [tk] at yY;rcases cD.mp yY with h | h
    .exact c2 z CN h hp
    rw [bA.mp h] at hp ⊢;exact pL λhc=>hn ⟨hp,hc⟩
   refine⟨t,_,rfl,Kz,rfl,_,_,rfl,_,_,rfl,rfl,?_⟩;refine⟨_,rfl,r,_,_,_,rfl,rfl,S3.sm.tup v1,rfl,?_⟩;refine⟨_,rfl,d,_,rfl,cb.k (k:=Sum.inr ru.1) S3.hd,_,rfl,?_⟩;refine dj (λc3=>?_) (λc3=>?_)
   .have nm:ru.1∉gX.map 84:=λh=>by rw [(S3.mem _).mpr h] at c3;exact absurd c3 nofun
    refine⟨_,rfl,r,_,_,_,rfl,rfl,S3.sm.tup v1,rfl,p,rfl,⟨_,S3.sm.tup v2⟩,λD2 ph=>u0 rfl (S3.sm.tup v2) ∅ S3.hd ph λH8 O6 Sh=>?_⟩;have S4:=S3.same O6;refine⟨D2,_,rfl,aJ.of Sh,_,rfl,?_⟩;refine dj (λc4=>?_) (λc4=>?_)
    .have al:∀x∈ru.2,x∈gX.map 84:=λx hx=>(S4.mem x).mp (gb.mp c4 _ (iw hx));refine⟨_,rfl,_,rfl,r,_,_,_,rfl,rfl,S4.sm.tup v1,rfl,d,_,rfl,tK.k (k:=Sum.inr ru.1) S4.hd (bF ∅),?_⟩;have v1':aQ K (upd H8 d (.dK (bx eO (Sum.inr ru.1) (.bl true)))) r [.str ru.1,.ref p]:=gI S4.hd (S4.sm.tup v1);have Og:upd H8 d (.dK (bx eO (Sum.inr ru.1) (.bl true))) D=some (.lst (yk.map V.ref)):=by rw [ai (λz=>by have:=S4.hD;rw [z,S4.hd] at this;cases this)];exact S4.hD
     refine⟨_,rfl,.inl ⟨rfl,_,aJ.of Og⟩,_,rfl,r,_,_,_,rfl,rfl,v1',rfl,_,rfl,kR,λt2 ji=>?_⟩;refine⟨D,_,_,rfl,rfl,(by rw [ai (ay Og ji)];exact Og),220,?_⟩;have S5:=S4.more hD uT e1 nm al ji;exact⟨yk++[t2],gX++[(ru.1,i)],_,_,_,rfl,S5,by rw [bH];omega,λz=>by rw [bH] at z;simp at z;omega⟩
    refine⟨yk,gX,eO,_,_,rfl,S4,l2,jJ λ⟨ha,_⟩=>c4 (gb.mpr λb hb=>?_)⟩;obtain⟨x,hx,rfl⟩:=bD.mp hb;exact(S4.mem x).mpr (ha x hx)
   refine⟨yk,gX,eO,_,_,rfl,S3,l2,jJ λ⟨_,hn⟩=>c3 ?_⟩;cases hq:(aT eO (Sum.inr ru.1)).isSome with
   | true=>exact absurd ((S3.mem _).mp hq) hn
   | false=>rfl
  rintro σ H6 ⟨yk,gX,eO,y4,y5,rfl,S2,l2,c2⟩;rw [aA,a9 cU] at c2;exact⟨yk,gX,eO,_,_,rfl,S2,l2,c2⟩
 have c':=of_decide_eq_false (qQ.mpr c);rw [aA,lt] at c';exact⟨_,rfl,q D ts a_ H5 hD S.sm S.hD S.ev S.emp (cl ∅)⟩
end
end gM
namespace M11
open PySem L2
def EL (b:Str->Bool):z0s->Nat
 | []=>0
 | z::r=>if b z=true then EL b r+1 else 1
theorem Di (b:Str->Bool):∀zs:z0s,(∀z∈zs,b z=true)->EL b zs=zs.length
 | [],_=>rfl
 | z::r,h=>by
  unfold EL;rw [au (h z bP),Di b r λx hx=>h x (b9 _ hx)];rfl
theorem Ip (b:Str->Bool):∀(zs:z0s) (i:Nat)(z:Str),(∀x∈zs.take i,b x=true)->zs[i]?=some z->¬b z=true->EL b zs=i+1
 | y::r,0,z,_,e,n=>by
  cases e;unfold EL;rw [ar n]
 | y::r,i+1,z,h,e,n=>by
  unfold EL;rw [au (h y (by rw [List.take_succ_cons];exact bP)),Ip b r i z (λx hx=>h x (by rw [List.take_succ_cons];exact b9 _ hx)) e n]
theorem Io (b:Str->Bool):∀zs:z0s,EL b zs<=zs.length
 | []=>aH _
 | z::r=>by
  have:=Io b r;unfold EL;rw [dW]
  split <;> omega
def cnt (n:Nat):List V:=(List.range n).map λk:Nat=>V.int (k:Int)
end M11
namespace gM
open PySem L2 M11
section
def Cw (K:aU):Sp:=λvs H Q _=>∃(R:Addr)(rs:z0p)(aa:87),vs=[.ref R]/\aJ K H R 180/\bu K H rs aa/\aa.length<=1000/\325/\(aa.flatMap (·.2)).Nodup /\
 ∀H',aF H H'->Q .dY H'
def nr:aN ["strengths","met","way","words","word"] ["strengths"] (az AB):=185
def G4 (F:iU K "refuse_twice" "refuse_twice" AB f fd)(T:Txt mg):bS P w K mg base fC 1 f fd ["strengths"] (Cw K):=by
 refine F.ok nr 198 217
 .obtain⟨R,rs,aa,rfl,_⟩:=h;rfl
 obtain⟨R,rs,aa,rfl,hR,cU,bM,h8,UE,q⟩:=h;have hu:=eJ hr;refine⟨_,aj (aG (i:=1) nr.nd rfl 86 fV)
  (av (bJ cq rfl (aV (pv 0)) (dZ rfl (aE (aw (i:=2) nr.nd rfl 86) (aE (aw (i:=3) nr.nd rfl 86) bV)))
   (av (bJ cq rfl (gO (pv 3)) (aw (i:=4) nr.nd rfl 86)
    (aj (cS (dG (mD hu (pv 4) (pv 1))) (av ij) bo) (av (gW hu (pv 1) (pv 4) gQ rfl))))))),?_⟩
 nofun
 intro e he;have CK:∀o,aF H (upd H e o):=λo=>ag he o;have ll:=a9 cU
 let zO:zP:=λi σ H5=>∃(kvs:139)(y3 y4 y5:149),σ=[a7 R,a7 e,y3,y4,y5]/\H5=upd H e (.dK kvs) /\
  kvs.map 84=((aa.take i).flatMap (·.2)).map Sum.inr
 refine⟨_,rfl,R,rfl,⟨_,(CK _).seq hR⟩,cO (xs:=156) zO ⟨[],none,none,none,rfl,rfl,rfl⟩ ?_ ?_ ?_⟩
 .rintro i σ H5 _ ⟨kvs,y3,y4,y5,rfl,rfl,_⟩;exact(CK _).seq hR
 .rintro i x σ H5 ex ⟨kvs,y3,y4,y5,rfl,rfl,hk⟩
  ac_nf0
  rw [aS] at ex;obtain⟨r,er,rfl⟩:=bQ.mp ex;obtain⟨ru,e1,p,v1,v2⟩:=cU.get er;have li:=(bw.mp e1).1;have Jp:=h8 ru (bE e1);have eT:(aa.take (i+1)).flatMap (·.2)=(aa.take i).flatMap (·.2)++ru.2:=by
   rw [d7,e1,oM];simp
  have lA:((aa.take i).flatMap (·.2)).length<=8 * i:=jd (aa.take i) i (by rw [dB];omega) λru tO=>h8 ru (vM tO);have Ek:((aa.take i).flatMap (·.2)++ru.2).Nodup:=by
   have e2:aa.flatMap (·.2)=((aa.take i).flatMap (·.2)++ru.2)++(aa.drop (i+1)).flatMap (·.2):=by
    rw [<-eT,<-oM,vO]
   rw [e2] at UE;exact(fM.mp UE).1
  refine⟨r,_,rfl,(CK _).tup v1,rfl,_,_,rfl,_,_,rfl,rfl,?_⟩
  let Jd:zP:=λj σ H6=>∃(kvs:139)(y5:149),σ=[a7 R,a7 e,some (.str ru.1),a7 p,y5]/\H6=upd H e (.dK kvs) /\
   kvs.map 84=((aa.take i).flatMap (·.2)++ru.2.take j).map Sum.inr
  refine⟨_,rfl,p,rfl,⟨_,(CK _).tup v2⟩,qC (xs:=ru.2.map V.str) Jd ⟨kvs,_,rfl,rfl,by rw [List.take_zero,fq];exact hk⟩ ?_ ?_ ?_⟩
  .rintro j σ H6 _ ⟨kvs,y5,rfl,rfl,_⟩;exact(CK _).tup v2
  .rintro j x σ H6 Iv ⟨kvs,y5,rfl,rfl,ED⟩
   ac_nf0
   rw [aS] at Iv;obtain⟨z,ez,rfl⟩:=bQ.mp Iv;have lj:=(bw.mp ez).1;have eS:ru.2.take (j+1)=ru.2.take j++[z]:=by rw [d7,ez];rfl
   have lk:kvs.length<=8 * i+8:=by
    have h1:=congrArg List.length ED;rw [aA,aA,bH,dB] at h1;omega
   have nz:z∉(aa.take i).flatMap (·.2)++ru.2.take j:=λhz=>by
    have e3:(aa.take i).flatMap (·.2)++ru.2=((aa.take i).flatMap (·.2)++ru.2.take j)++([z]++ru.2.drop (j+1)):=by
     rw [lK,<-lK (ru.2.take j),<-eS,vO]
    rw [e3] at Ek;exact(fM.mp Ek).2.2 z hz z 88 rfl
   have nk:¬(136:aL)∈kvs.map 84:=by rw [ED];exact λh=>nz (cR.mp h)
   refine⟨_,rfl,_,rfl,e,_,rfl,cb.k (k:=136) ae,_,rfl,?_⟩;refine dj (λc=>absurd ((d_ kvs _).mp c) nk) (λ_=>?_);refine⟨_,rfl,_,rfl,e,_,rfl,tK.k (k:=136) ae (bF ∅),?_⟩;refine⟨bx kvs 153 (.bl true),_,rfl,by rw [wa],?_⟩;rw [iB nk,ED,eS,<-lK];simp only [bC,bY,jj]
  rintro σ H6 ⟨kvs,y5,rfl,rfl,ED⟩;rw [aA,cE,<-eT] at ED;exact⟨kvs,_,_,_,rfl,rfl,ED⟩
 rintro σ H5 ⟨kvs,y3,y4,y5,rfl,rfl,hk⟩;exact q _ (CK _)
def yq (K:aU):Sp:=λvs H Q _=>∃(p d:Addr) (zs:z0s)(kvs:139),vs=[.ref p,.ref d]/\aQ K H p (zs.map V.str)/\zs.length<=1000/\H d=184 /\
 ∀D H',H D=none->aF H H'->H' D=some (.lst (cnt (EL (λz=>(aT kvs 153).isSome) zs)))->Q (.ref D) H'
def nu:aN ["parts","empty","places","place","part"] ["parts","empty"] (az wF):=185
def Ed (F:iU K "first_places" "first_places" wF f fd)(T:Txt mg):bS P w K mg base fC 1 f fd ["parts","empty"] (yq K):=by
 refine F.ok nu 198 217
 .obtain⟨p,d,zs,kvs,rfl,_⟩:=h;rfl
 obtain⟨p,d,zs,kvs,rfl,hp,hz,hd,q⟩:=h;have hu:=eJ hr;refine⟨_,aj (aG (i:=2) nu.nd rfl 86 (bc aq))
  (aj (bJ cq rfl (nO rfl T.Jt (af (pv 0) aq)) (dZ rfl (aE (aw (i:=3) nu.nd rfl 86) (aE (aw (i:=4) nu.nd rfl 86) bV)))
   (aj (df (il hX jG jH cN (pv 2) (af (pv 3) aq)))
   (av (cS (dG (dX hu (pv 4) (pv 1))) (av Gu) bo))))
  (av (bp (pv 2)))),?_⟩
 nofun
 refine⟨qi,λD hD=>?_⟩;have up1:∀n,cnt n++[V.int (n:Int)]=cnt (n+1):=λn=>by
  unfold cnt;rw [List.range_succ,bC];rfl
 refine⟨_,rfl,p,_,rfl,(ag hD _).tup hp,?_⟩
 let Zs:zP:=λi σ H5=>∃(y3 y4:149),σ=[a7 p,a7 d,a7 D,y3,y4]/\aF H H5/\H5 D=some (.lst (cnt i))/\∀z∈zs.take i,(aT kvs 153).isSome=true
 refine pj (xs:=zs.map V.str) Zs
  ⟨none,none,rfl,ag hD _,ae,by simp⟩ ?_ ?_ ?_
 .rintro i σ H5 _ ⟨y3,y4,rfl,sm,_⟩;exact sm.tup hp
 .rintro i x σ H5 t ex ⟨y3,y4,rfl,sm,Si,iR⟩ ht
  ac_nf0
  rw [aS] at ex;obtain⟨z,ez,rfl⟩:=bQ.mp ex;have li:=(bw.mp ez).1;have wu:=sm.trans (ag ht (.tup [161,.str z]));have ph:upd H5 t (.tup [161,.str z]) D=some (.lst (cnt i)):=by rw [ai (ay Si ht)];exact Si
  have hv:aQ K (upd H5 t (.tup [161,.str z])) t [161,.str z]:=aQ.of ae;generalize upd H5 t (.tup [161,.str z])=H6 at wu ph hv;have O7:aF H (upd H6 D (.lst (cnt i++[V.int (i:Int)]))):=λb o hb=>by
   rw [450];exact wu b o hb
  refine⟨t,_,rfl,hv,rfl,_,_,rfl,_,_,rfl,rfl,?_⟩;refine⟨_,rfl,.inl ⟨rfl,_,aJ.of ph⟩,_,rfl,D,_,_,rfl,rfl,ph,bF (by unfold cnt;rw [aA,mU];omega),?_⟩;refine⟨_,rfl,_,rfl,d,_,rfl,cb.k (k:=136) (O7 _ _ hd),_,rfl,?_⟩;refine dj (λc=>?_) (λc=>?_)
  .refine⟨_,rfl,q D _ hD O7 ?_⟩;rw [ae,up1,Ip _ zs i z iR ez (λh=>by rw [h] at c;exact absurd c nofun)]
  refine⟨_,_,rfl,O7,by rw [ae,up1],λx hx=>?_⟩;rw [d7,ez] at hx;rcases cD.mp hx with h | h
  .exact iR x h
  rw [Option.toList_some,bA] at h;subst h;cases hq:(aT kvs (Sum.inr x)).isSome with
  | true=>rfl
  | false=>exact absurd (by rw [hq];rfl) c
 rintro σ H5 ⟨y3,y4,rfl,sm,Si,iR⟩;rw [aA] at Si iR;rw [cE] at iR;exact⟨_,rfl,q D _ hD sm (by rw [Di _ zs iR];exact Si)⟩
end
end gM
namespace L2
open PySem
section
variable {prog:Program}{w:World}{K:Type} [DecidableEq K] {knd:KeyKind prog w K}{A:Around}{E:z0b}
def uf {s:Shared}{d l:Addr}{items:z0k}{kvs more:List (K×Value)}(hh:A.handled=none)(uT:s.heap.DictOf knd d kvs)(hx:s.heap.get? l=some { cls:=.type "list",data:=.seq items n })
  (hi:items.size=more.length)(hp:∀(m:Nat) kv,more[m]?=some kv->∃u,items[m]?=some u/\mQ knd s.heap u kv)(hz:kvs.length+more.length<=sizeLine)
  (h:∀h' t',h'.DictOf knd d (more.foldl (λa p=>stored a p.1 p.2) kvs)->(∀b o,b≠d->160->h'.get? b=85)->Q .none { s with heap:=h',toks:=t' }) :
  wpAny 182 A (call (.builtin "dict.update") [.ref d,.ref l]) Q E s:=by
 refine jS (vB Ac.plain PySem.F.entry_dict_update (Ac.check _ _ _ _ _ _ _ _ uT.typeIs (PySem.F.args_dict_update_2 _ _) ?_));unfold Builtin.«dict.update»;refine ao ?_;unfold Builtin.Dict.selfAndRest;refine ao (oN uT.typeIs ?_);show wpAny _ _ (pure (d,[Value.ref l])) _ _ s;refine ax ?_;show wpAny _ _ (Builtin.Dict.updateFrom "dict.update" d (.ref l) [] .none) _ _ s;unfold Builtin.Dict.updateFrom;refine ao (iI (T := "list") ⟨_,hx,rfl⟩ ?_);rw [au Ap];refine ao (o9 hx hh λh1 t1 k1=>?_);refine ao (gN ?_);have l1:=k1 _ _ hx;refine ao (mr ⟨_,l1,rfl,_,rfl⟩ ?_);have k2:∀b o,160->(h1.push { cls:=.type "list_iterator",data:=.fields #[.ref l,.int 0 0] }).get? b=85:=λb o q=>a0 _ (k1 _ _ q);refine ax ⟨iL eK _,IC (knd:=knd) (A:=A) (l:=l) (items:=items) hh more 0 _ kvs _ _ (by rw [hi,mh]) ?_ ⟨_,bB _ rfl,rfl,rfl⟩ ⟨_,k2 _ _ hx,rfl,n,rfl⟩ (λm kv e=>?_) hz λh' t' hd k3=>?_⟩
 .obtain⟨o,es,ep,q,r⟩:=uT;exact⟨o,es,ep,k2 _ _ q,r⟩
 .obtain⟨u,e1,e2⟩:=hp m kv e;exact⟨u,by rw [mh];exact e1,e2.keep λb o _ q=>k2 b o q⟩
 exact h h' t' hd λb o n q=>k3 b o n (aR (aP (k1 _ _ q))) (k2 b o q)
end
section
variable {X:Cx}{o e:Expr}{apos eD:Pos}{td ty:TE}
def Qw (K:aU)(td ty:TE):TE:=λσ H Q=>td σ H λx H1=>∃a,x=.ref a/\Qa H1 a/\ty σ H1 λy H2=>∃l ts kvs more,y=.ref l/\H2 a=184/\H2 l=222 /\
 Paired (λt kv=>aQ K H2 t [kV kv.1,kv.2]) ts more/\kvs.length+more.length<=sizeLine/\Q .dY (upd H2 a (.dK (cP more kvs)))
def J0 (hc:X.calm=true)(ho:PE X o td)(he:PE X e ty)(m:M1 X o "update" apos e eD):PE X (.Call (.Attribute o "update" apos) [e] [] eD) (Qw X.K td ty):=by
 intro ah s σ H Q I h;refine oE m.base m.Iu m.line qV Ac PySem.F.type_dict_update (cM (ho ah s σ H _ I h) λu s1 aW=>?_);obtain⟨x,H1,I1,rx,a,ex,d,q1⟩:=aW;subst ex;obtain rfl:u=Value.ref a:=rx;obtain⟨t1,t2,_⟩:=rX I1 d;refine⟨t1,t2,?_⟩;rw [m.trees];refine qE rfl (oK (jQ (cM (he ah s1 σ H1 _ I1 q1) λiv s2 aW=>?_)));obtain⟨y,H2,I2,ry,l,ts,kvs,more,ey,ea,el,p,hz,q2⟩:=aW;refine jZ ?_;subst ey;cases (show iv=Value.ref l from ry);obtain⟨z,hsm,vs,rel,dd⟩:=zh I2.bI ea;obtain⟨z2,aK,n,rv,hl⟩:=(show bO X.prog X.w H2 s2.heap l (.lst _) from I2.bI l _ el);obtain⟨ms,r1,r2⟩:=pairs_at I2 p rv;have l1:=a9 r2;have l2:=r1.length;have l3:=a9 p;refine uf (I2.ok.hd hc) dd hl (by simpa using l1) (λm kv em=>?_) (by rw [<-rel.length,<-l2];exact hz) λh' t' hd kk=>?_
 .obtain⟨u,e1,e2⟩:=Paired.at_ r2 m kv em;exact⟨u,by simpa using e1,e2⟩
 have hn:(cP more kvs).length<=sizeLine:=dU (sE more kvs) hz;have he:∃q,h'.get? a=some q:=let ⟨q,_,_,hq,_⟩:=hd;⟨q,hq⟩;exact⟨.dY,_,I2.write (x:=a) (e:=a) (by rw [ea];exact True.intro) (.inl rfl) (λb q hb z=>kk b q hb z) he (sJ hn hsm (sD r1 rel) hd),rfl,q2⟩
def u5:gk X (.builtin "len") (λxs H Q=>∃a kvs,xs=[.ref a]/\H a=184/\Q (.int kvs.length) H):=by
 intro ah s σ H xs us Q I r h;obtain⟨a,kvs,rfl,e,q⟩:=h;obtain⟨u,rfl,rx⟩:=vals1 r;cases (show u=Value.ref a from rx);exact Tb I (.inl e) λt s' I'=>⟨.int _,H,I',⟨_,rfl⟩,q⟩
end
theorem yX:∀{us:z0m}{ns:z0t},PyProof.Rows.IntsAre us ns->∀ys:List (Int×Tok),us=ys.map (λp=>Value.int p.1 p.2)->ys.map 84=ns
 | _,_,.nil,ys,e=>by
  cases ys with
  | nil=>rfl
  | cons _ _=>cases e
 | _,_,.cons n t h,ys,e=>by
  cases ys with
  | nil=>cases e
  | cons y r =>
   rw [bY] at e;injection e with e1 e2;injection e1 with e3 e4;rw [bY,yX h r e2,e3]
def u4 {X:Cx}(hc:X.calm=true):gk X (.builtin "sum") (λxs H Q=>∃a ns,xs=[.ref a]/\aJ X.K H a (List.map V.int ns)/\Q (.int ns.sum) H):=by
 intro ah s σ H xs us Q I r h;obtain⟨a,ns,rfl,hq,q⟩:=h;obtain⟨u,rfl,rx⟩:=vals1 r;cases rx;obtain⟨aK,rv,pl,hz⟩:=I.list hq;have hi:=intsAre_of rv;have iR:AllInts aK.toArray:=hi.allInts;obtain⟨xs,e⟩:=iR.items;have hl:=pl.isList;rw [e] at hl;refine sum_intListG (I.ok.hd hc) hl λh' tk t' hk=>⟨.int _,H,I.kept hk,⟨_,rfl⟩,?_⟩;have e5:xs.toList.map 84=ns:=yX hi xs.toList (by
  have:=congrArg Array.toList e;simpa [intItems] using this)
 have e6:preSum (numAt xs) xs.size=ns.sum:=by
  rw [preSum_eq,e5,List.take_of_length_le (by rw [<-e5];simp)]
 rw [e6];exact q
def zr {K:aU}{H:Hp}{p D:Addr}{zs:z0s}{σ:St}{v:V}{x:Str}{Qp:143}(hp:aQ K H p (zs.map V.str))(hz:zs.length<=1000)(hD:H D=none)
  (q:∀ts H2,aF H H2->H2 D=222->Paired (λt h=>aQ K H2 t [.str h,v]) ts zs->Qp H2) :
  ∃W:370,(∃m,W 0 m [] (eF [x] [] σ) 237) /\
 ∀i m ys σ' H,W i m ys σ' H->((tF K p).stop i H/\Qp H)\/((tF K p).go i H/\∃m',m' < m/\∀x H',(tF K p).oR i H x H'->eB 0 x σ' H' λσ2 H2=>i3 σ2 H2 λb H3 =>
  if b=true then tT (fQ (gH 0) (fQ (tC v) q9)) σ2 H3 323 else W (i+1) m' ys σ2 H3):=by
 refine hJ (xs:=zs.map V.str) (λi ys σ2 H2=>∃ts:z0p,ys=155/\ts.length=i/\Paired (λt h=>aQ K H2 t [.str h,v]) ts (zs.take i)/\(∃y0,σ2=[y0])/\449)
  ⟨[],rfl,rfl,.nil,⟨none,rfl⟩,ag hD _,ae⟩ (λi ys σ2 H2 _ h=>?_) (λi x ys σ2 H2 ex h=>?_) (λys σ2 H2 h=>?_)
 .obtain⟨_,_,_,_,_,sm,_⟩:=h;exact sm.tup hp
 .obtain⟨ts,rfl,ht,xu,⟨y0,rfl⟩,sm,hd⟩:=h;rw [aS] at ex;obtain⟨z,ez,rfl⟩:=bQ.mp ex;have li:=(bw.mp ez).1;refine goN (BA ?_);refine⟨_,rfl,kR,λt ji=>⟨?_,220,ts++[t],?_,?_,?_,⟨_,rfl⟩,?_,ae⟩⟩
  .rw [ai (ay hd ji)];exact hd
  .rw [bC];rfl
  .rw [bH,ht];rfl
  .rw [d7,ez];have iQ:upd H2 t (.tup [.str z,v]) D=222:=by rw [ai (ay hd ji)];exact hd
   exact fN (Paired.iq xu λt' h' z=>bT iQ ((ag ji _).tup z)) (bT iQ (aQ.of ae))
  intro b o hb;rw [450];exact ag ji _ _ _ (sm b o hb)
 obtain⟨ts,rfl,ht,xu,_,sm,hd⟩:=h;rw [aA,cE] at xu;exact q ts H2 sm hd xu
end L2
namespace M11
open PySem L2
def jf (a:z0s)(h x:Str):x∈gL a h↔x∈a\/x=h:=by
 unfold gL;split
 .constructor
  .exact .inl
  rintro(z | rfl) <;> assumption
 simp
def DA {a:z0s}(h:Str)(n:a.Nodup):(gL a h).Nodup:=by
 unfold gL;split
 .exact n
 rename_i q
 refine fM.mpr ⟨n,by simp,λx hx y hy=>?_⟩;rw [bA.mp hy];exact λz=>q (z ▸ hx)
def DB (a:z0s)(h:Str):a.length<=(gL a h).length:=by
 unfold gL;split <;> simp
def Ld {a:z0s}{h:Str}(e:(gL a h).length=a.length):gL a h=a:=by
 unfold gL at e ⊢;split
 .rfl
 rename_i q
 rw [ar q,bH] at e;simp at e
theorem gF:∀(hs bz:z0s)(x:Str),x∈xM bz hs↔x∈bz\/x∈hs
 | [],bz,x=>by simp [xM]
 | h::r,bz,x=>by
  show x∈xM (gL bz h) r↔_;rw [gF r,jf,aX,or_assoc]
theorem pA:∀(hs:z0s){bz:z0s},bz.Nodup->(xM bz hs).Nodup
 | [],_,n=>n
 | h::r,_,n=>pA r (DA h n)
theorem BU:∀(hs bz:z0s),bz.length<=(xM bz hs).length
 | [],_=>aH _
 | h::r,bz=>dU (DB bz h) (BU r _)
theorem IE:∀(hs bz:z0s),(xM bz hs).length=bz.length->xM bz hs=bz
 | [],_,_=>rfl
 | h::r,bz,e=>by
  have h1:=DB bz h;have h2:=BU r (gL bz h);have e':(xM (gL bz h) r).length=bz.length:=e;show xM (gL bz h) r=bz;rw [IE r _ ∅];exact Ld ∅
inductive OV (aa:87)(s:Str):Str->Prop
 | start:OV aa s s
 | step {ru:aB}{x:Str}:OV aa s ru.1->ru∈aa->x∈ru.2->OV aa s x
def Jc (aa:87) (n:Nat) (ms:z0s):Prop:=∀ru∈aa.take n,ru.1∈ms->∀x∈ru.2,x∈ms
def OV.among {aa:87}{s x:Str}(h:OV aa s x):x∈s::aa.flatMap (·.2):=by
 cases h with
 | start=>exact bP
 | step _ h1 h2=>exact b9 _ (jO.mpr ⟨_,h1,h2⟩)
end M11
namespace gM
open PySem L2 M11
section
def Ls (K:aU):Sp:=λvs H Q _=>∃(R:Addr)(rs:z0p)(aa:87)(qo:aB),vs=[.ref R]/\aJ K H R 180/\bu K H rs aa/\aa[0]?=some qo/\aa.length<=1000/\325 /\
 ∀d kvs ms H',H d=none->aF H H'->H' d=184->kvs.map 84=ms.map Sum.inr->qo.1∈ms->(∀x∈ms,OV aa qo.1 x)->Jc aa aa.length ms->Q (.ref d) H'
def uE:aN ["rules","met","many","head","parts"] ["rules"] (az M8):=185
structure P9 (K:aU)(aa:87)(s0:Str)(H H5:Hp)(d:Addr) (ms:z0s)(kvs:139):Prop where
 sm:aF H H5
 hd:H5 d=184
 keys:kvs.map 84=ms.map Sum.inr
 nd:ms.Nodup
 st:s0∈ms
 Uc:∀x∈ms,OV aa s0 x
def P9.len {aa:87}{d:Addr}{ms:z0s}{kvs:139}(h:P9 K aa s0 H H5 d ms kvs)(hl:aa.length<=1000)(h8:∀ru∈aa,ru.2.length<=8):kvs.length=ms.length/\ms.length<=8001:=by
 refine⟨?_,?_⟩
 .have:=congrArg List.length h.keys;simpa using this
 have h1:=g8 ms _ h.nd λx hx=>(h.Uc x hx).among;have h2:=jd aa 1000 hl h8;rw [dW] at h1;omega
def Nu (F:iU K "names_met" "names_met" M8 f fd)(T:Txt mg):bS P w K mg base fC 1 f fd ["rules"] (Ls K):=by
 refine F.ok uE 198 217
 .obtain⟨R,rs,aa,qo,rfl,_⟩:=h;rfl
 obtain⟨R,rs,aa,qo,rfl,hR,cU,Pq,bM,h8,q⟩:=h;have hu:=eJ hr;refine⟨_,aj (aG (i:=1) uE.nd rfl 86 (C0 (nN (aY bR (aY bW (pv 0) aC 152) aC 152) gQ CQ) rfl rfl 88 (show 1<=15 by decide)))
  (aj (aG (i:=2) uE.nd rfl 86 aC)
  (aj (kb cq (bj uK (pv 2) (bL u5 rfl T.len hU (af (pv 1) aq)) (cv _))
   (aj (aG (i:=2) uE.nd rfl 86 (bL u5 rfl T.len hU (af (pv 1) aq)))
   (av (bJ cq rfl (aV (pv 0)) (dZ rfl (aE (aw (i:=3) uE.nd rfl 86) (aE (aw (i:=4) uE.nd rfl 86) bV)))
    (av (cS (dG (mD hu (pv 3) (pv 1)))
     (av (df (J0 rfl (pv 1) (bK ["part"] [] rfl (gO (pv 4)) (bf rfl rfl) nofun rfl nofun
       (λ_ _ _ _ _=>aw (i:=0) (show (["part"]:z0s).Nodup by decide +kernel) rfl 86) (λ_ _ _ _ _=>cQ) (λ_ _ _ _ _=>bq (af (pv 0) (af gQ aq)))) ⟨rfl,rfl,rfl,rfl⟩))) bo))))))
  (av (bp (pv 1))))),?_⟩
 nofun
 intro d hd;have ll:=a9 cU;have l0:=(bw.mp Pq).1;obtain⟨r0,U3⟩:∃r,rs[0]?=some r:=⟨rs[0]'∅,dA ∅⟩;obtain⟨aae,e0,p0,w1,w2⟩:=cU.get U3;rw [Pq] at e0;cases e0;have ZR:=ag hd (.dK []);refine⟨_,rfl,R,_,_,.ref r0,rfl,rfl,ZR.seq hR,?_,r0,_,_,_,rfl,rfl,ZR.tup w1,rfl,?_⟩
 .have e7:180[0]?=some (.ref r0):=by rw [aS,U3];rfl
  exact aZ (j:=0) e7
 refine⟨ae,[((Sum.inr qo.1:aL),.bl true)],rfl,(by show 1<=15;decide),?_⟩;have S0:P9 K aa qo.1 H (upd (upd H d (.dK [])) d (.dK (ku [] [((Sum.inr qo.1:aL),.bl true)]))) d [qo.1] [((Sum.inr qo.1:aL),.bl true)]:=by
  rw [wa];exact⟨ag hd _,ae,rfl,by simp,by simp,λx hx=>by rw [bA.mp hx];exact .start⟩
 generalize upd (upd H d (.dK [])) d (.dK (ku [] [((Sum.inr qo.1:aL),.bl true)]))=H0 at S0;refine⟨λm σ H5=>∃(ms:z0s)(kvs:139) (many:Int)(y3 y4:149),σ=[a7 R,a7 d,some (.int many),y3,y4]/\P9 K aa qo.1 H H5 d ms kvs/\0<=many/\many<=ms.length/\(many=ms.length->Jc aa aa.length ms)/\(m:Int)=8002 - many,
  ⟨8002,[qo.1],_,0,none,none,rfl,S0,∅,by simp,by simp,∅⟩,?_⟩
 rintro m σ H5 ⟨ms,kvs,many,y3,y4,rfl,S,b1,b2,cl,em⟩;obtain⟨lk,lm⟩:=S.len bM h8;refine⟨_,rfl,_,rfl,d,_,rfl,S.hd,_,_,rfl,rfl,_,rfl,?_⟩;refine dj (λc=>?_) (λc=>?_)
 .have c':=dC c;rw [lk] at c';refine⟨λσ H5=>∃(qv:z0s)(eO:139)(y3 y4:149),σ=[a7 R,a7 d,some (.int (ms.length:Int)),y3,y4]/\P9 K aa qo.1 H H5 d qv eO/\ms.length<=qv.length/\(qv.length=ms.length->Jc aa aa.length qv),?_,?_⟩
  .rintro σ H6 ⟨qv,eO,y3,y4,rfl,S2,l2,c2⟩;exact⟨(8002 - ms.length:Int).toNat,∅,qv,eO,_,_,_,rfl,S2,∅,∅,λz=>c2 ∅,∅⟩
  refine⟨_,rfl,d,_,rfl,S.hd,?_⟩;rw [lk];refine⟨_,rfl,R,rfl,⟨_,S.sm.seq hR⟩,?_⟩;refine cO (xs:=156) (λi σ H6=>∃(qv:z0s)(eO:139)(y3 y4:149),σ=[a7 R,a7 d,some (.int (ms.length:Int)),y3,y4]/\P9 K aa qo.1 H H6 d qv eO/\ms.length<=qv.length/\(qv.length=ms.length->Jc aa i qv))
   ⟨ms,kvs,_,_,rfl,S,aH _,λ_ ru tO=>by simp at tO⟩ ?_ ?_ ?_
  .rintro i σ H6 _ ⟨qv,eO,y3,y4,rfl,S2,_⟩;exact S2.sm.seq hR
  .rintro i x σ H6 ex ⟨qv,eO,y3,y4,rfl,S2,l2,c2⟩
   ac_nf0
   rw [aS] at ex;obtain⟨r,er,rfl⟩:=bQ.mp ex;obtain⟨ru,e1,p,v1,v2⟩:=cU.get er;have Jp:=h8 ru (bE e1);have tk:aa.take (i+1)=aa.take i++[ru]:=by rw [d7,e1];rfl
   obtain⟨Uq,lm2⟩:=S2.len bM h8;have mem:(aT eO (Sum.inr ru.1)).isSome=true↔ru.1∈qv:=by rw [d_,S2.keys];exact cR
   refine⟨r,_,rfl,S2.sm.tup v1,rfl,_,_,rfl,_,_,rfl,rfl,?_⟩;refine⟨_,rfl,_,rfl,d,_,rfl,cb.k (k:=Sum.inr ru.1) S2.hd,_,rfl,?_⟩;refine dj (λc3=>?_) (λc3=>?_)
   .have im:=mem.mp c3;refine⟨_,rfl,d,rfl,.inl ⟨_,.inl S2.hd⟩,_,rfl,p,rfl,⟨_,S2.sm.tup v2⟩,λD2 ph=>zr (S2.sm.tup v2) ∅ ph λts H8 O6 Sh hp8=>?_⟩;have kp:Paired (λt (kv:aL×V)=>aQ K H8 t [kV kv.1,kv.2]) ts (ru.2.map λh=>((Sum.inr h:aL),V.bl true)):=cH hp8 λ_ _ z=>z;refine⟨D2,ts,eO,_,rfl,O6 _ _ S2.hd,Sh,kp,fits (by rw [aA];omega),?_⟩;have aap:=BU ru.2 qv;refine⟨xM qv ru.2,cP (ru.2.map λh=>((Sum.inr h:aL),V.bl true)) eO,_,_,rfl,⟨λb o hb=>?_,ae,nR ru.2 eO qv S2.keys,pA ru.2 S2.nd,(gF ru.2 qv _).mpr (.inl S2.st),λx hx=>?_⟩,∅,λz CN yY hh=>?_⟩
    .rw [ai (λz=>by rw [z,hd] at hb;cases hb)];exact O6 _ _ (S2.sm b o hb)
    .rcases (gF ru.2 qv x).mp hx with h | h
     .exact S2.Uc x h
     exact .step (S2.Uc _ im) (bE e1) h
    have e9:=IE ru.2 qv ∅;rw [e9] at hh ⊢;rw [tk] at yY;rcases cD.mp yY with h | h
    .exact c2 ∅ CN h hh
    rw [bA.mp h];intro x hx;rw [<-e9];exact(gF ru.2 qv x).mpr (.inr hx)
   refine⟨qv,eO,_,_,rfl,S2,l2,λz CN yY hh=>?_⟩;rw [tk] at yY;rcases cD.mp yY with h | h
   .exact c2 z CN h hh
   rw [bA.mp h] at hh;exact absurd (mem.mpr hh) c3
  rintro σ H6 ⟨qv,eO,y3,y4,rfl,S2,l2,c2⟩;rw [aA,ll] at c2;exact⟨qv,eO,_,_,rfl,S2,l2,c2⟩
 have c':=of_decide_eq_false (qQ.mpr c);rw [lk] at c';exact⟨_,rfl,q d kvs ms H5 hd S.sm S.hd S.keys S.st S.Uc (cl ∅)⟩
end
end gM
namespace M11
open PySem L2
abbrev G:=Str->z0n
def dN (g:G)(h:Str) (n:Int):G:=λz=>if z=h then some n else g z
def aO (g:G)(ru:aB):Int:=1+(ru.2.map λp=>(g p).getD 0).sum
def kQ (g:G)(ru:aB):Bool:=ru.2.all λp=>(g p).isSome
def cA (bt:Int->Int->Bool)(g:G)(ru:aB):Bool:=kQ g ru && (!(g ru.1).isSome || bt (aO g ru) ((g ru.1).getD 0))
def sstep (bt:Int->Int->Bool)(a:G×Bool)(ru:aB):G×Bool:=if cA bt a.1 ru=true then (dN a.1 ru.1 (aO a.1 ru),true) else a
def tU (bt:Int->Int->Bool)(aa:87)(g:G):G×Bool:=aa.foldl (sstep bt) (g,false)
inductive dM (bt:Int->Int->Bool)(aa:87):G->G->Prop
 | refl {g:G}:dM bt aa g g
 | step {g g1:G}{ru:aB}:dM bt aa g g1->ru∈aa->cA bt g1 ru=true->dM bt aa g (dN g1 ru.1 (aO g1 ru))
def gY (bt:Int->Int->Bool)(aa:87)(g:G):Prop:=∀ru∈aa,cA bt g ru=false
def pI (bt:Int->Int->Bool)(aa:87):Nat->G->Prop
 | 0,g=>(tU bt aa g).2=false
 | n+1,g=>(tU bt aa g).2=false\/pI bt aa n (tU bt aa g).1
def dM.trans {aa:87}{g g1 g2:G}(h:dM bt aa g g1)(k:dM bt aa g1 g2):dM bt aa g g2:=by
 induction k with
 | refl=>exact h
 | step _ a b ih=>exact .step ih a b
theorem sj (bt:Int->Int->Bool)(aa:87):∀(l:87)(a:G×Bool),(∀ru∈l,ru∈aa)->dM bt aa a.1 (l.foldl (sstep bt) a).1
 | [],a,_=>.refl
 | ru::l,a,h=>by
  have ih:=sj bt aa l (sstep bt a ru) λx hx=>h x (b9 _ hx);refine dM.trans ?_ ih;unfold sstep;by_cases c:cA bt a.1 ru=true
  .rw [au c];exact .step .refl (h ru bP) c
  rw [ar c];exact .refl
theorem uU (bt:Int->Int->Bool):∀(l:87)(a:G×Bool),a.2=true->(l.foldl (sstep bt) a).2=true
 | [],a,h=>h
 | ru::l,a,h=>by
  refine uU bt l (sstep bt a ru) ?_;unfold sstep
  split
  .rfl
  exact h
theorem sr (bt:Int->Int->Bool):∀(l:87)(a:G×Bool),(l.foldl (sstep bt) a).2=false->(l.foldl (sstep bt) a).1=a.1/\∀ru∈l,cA bt a.1 ru=false
 | [],a,_=>⟨rfl,λ_ h=>nomatch h⟩
 | ru::l,a,h=>by
  by_cases c:cA bt a.1 ru=true
  .have e:sstep bt a ru=(dN a.1 ru.1 (aO a.1 ru),true):=au c;have h':(l.foldl (sstep bt) (sstep bt a ru)).2=false:=h;rw [e,uU bt l _ rfl] at h';cases h'
  have e:sstep bt a ru=a:=ar c;have h':(l.foldl (sstep bt) (sstep bt a ru)).2=false:=h;rw [e] at h';obtain⟨i1,i2⟩:=sr bt l a h';refine⟨by rw [List.foldl_cons,e];exact i1,λCN hr=>?_⟩;rcases aX.mp hr with z | z
  .rw [z];exact qQ.mpr c
  exact i2 CN z
end M11
namespace L2
open PySem M11
def eZ.tup {K:aU}{H H':Hp}{d a:Addr}{kvs:139}{xs:List V}(s:eZ d H H')(hd:H d=184)(h:aQ K H a xs):aQ K H' a xs:=by
 rcases h with (h | ⟨u,h⟩) | h
 .exact .inl (.inl (s _ _ (λz=>by rw [z,hd] at h;cases h) h))
 .exact .inl (.inr ⟨u,s _ _ (λz=>by rw [z,hd] at h;cases h) h⟩)
 exact .inr h
def eZ.seq {K:aU}{d a:Addr}{kvs:139}{xs:List V}(s:eZ d H H')(hd:H d=184)(h:aJ K H a xs):aJ K H' a xs:=by
 rcases h with (h | ⟨u,h⟩) | h
 .exact .inl (.inl (s _ _ (λz=>by rw [z,hd] at h;cases h) h))
 .exact .inl (.inr ⟨u,s _ _ (λz=>by rw [z,hd] at h;cases h) h⟩)
 exact .inr h
def EZ {K:aU}{H:Hp}{p D d:Addr}{zs:z0s}{kvs:139}{g:G}{σ:St}{js:z0i}{Qp:143}(hσ:eF ["part"] js σ=[none,a7 d])(hp:aQ K H p (zs.map V.str))(hz:zs.length<=1000)
  (hd:H d=184)(hv:∀z,aT kvs 153=(g z).map V.int)(ha:∀z∈zs,(g z).isSome=true)(hD:H D=none)(q:∀H2,aF H H2->H2 D=some (.lst ((zs.map λz=>(g z).getD 0).map V.int))->Qp H2) :
  ∃W:370,(∃m,W 0 m [] (eF ["part"] js σ) 237) /\
 ∀i m ys σ' H,W i m ys σ' H->((tF K p).stop i H/\Qp H)\/((tF K p).go i H/\∃m',m' < m/\∀x H',(tF K p).oR i H x H'->eB 0 x σ' H' λσ2 H2=>i3 σ2 H2 λb H3 =>
  if b=true then Co (gH 1) (gH 0) σ2 H3 323 else W (i+1) m' ys σ2 H3):=by
 refine hJ (xs:=zs.map V.str) (λi ys σ2 H2=>ys=(((zs.take i).map λz=>(g z).getD 0).map V.int)/\(∃y0,σ2=[y0,a7 d])/\449)
  ⟨rfl,⟨none,hσ⟩,ag hD _,ae⟩ (λi ys σ2 H2 _ h=>h.2.2.1.tup hp) (λi x ys σ2 H2 ex h=>?_) (λys σ2 H2 h=>?_)
 .obtain⟨rfl,⟨y0,rfl⟩,sm,hd2⟩:=h;rw [aS] at ex;obtain⟨z,ez,rfl⟩:=bQ.mp ex;have li:=(bw.mp ez).1;obtain⟨n,en⟩:=lQ.mp (ha z (bE ez));have hg:cb H2 d (.str z) (some (.int n)):=by
   have:=cb.k (k:=136) (sm _ _ hd);rw [hv,en] at this;exact this
  refine goN (BA ?_);refine⟨_,rfl,_,rfl,d,_,rfl,hg,hd2,bF (by rw [aA,aA,dB];omega),?_,⟨_,rfl⟩,?_,ae⟩
  .rw [d7,ez,bC,bC];show _=_++[V.int ((g z).getD 0)];rw [en];rfl
  intro b o hb;rw [450];exact sm b o hb
 obtain⟨rfl,_,sm,hd2⟩:=h;rw [aA,cE] at hd2;exact q H2 sm hd2
end L2
namespace gM
open PySem L2 M11
section
def h_ (K:aU)(q:Str)(params:Arguments)(body:Expr)(scope:Scope)(bt:Int->Int->Bool):Sp:=λvs H Q _=>∃(R:Addr)(rs:z0p)(aa:87)(d fl c':Addr)(pm fI:Value)(kvs:139) (ks:z0s)(g:G),
 vs=[.ref R,.ref d,.ref fl]/\aJ K H R 180/\bu K H rs aa/\aa.length<=1000/\325/\H d=184/\kvs.map 84=ks.map Sum.inr/\ks.Nodup/\ks.length<=10000 /\
 (∀z,aT kvs 153=(g z).map V.int)/\(∃n,pI bt aa n g)/\H fl=some (o7 fl (PySem.W.kla_obj "<lambda>" q params body scope [] pm c' fI))/\H c'=some (jI c' q) /\
 ∀(mM:139) (Ru:z0s)(g':G)(H':Hp),eZ d H H'->H' d=some (.dK mM)->mM.map 84=Ru.map Sum.inr->(∀z,aT mM 153=(g' z).map V.int)->dM bt aa g g'->gY bt aa g'->mM.length<=20000->Q (.ref d) H'
def ib:aN ["rules","sizes","better","changed","head","parts","size"] ["rules","sizes","better"] (az nA):=185
structure yf (K:aU)(aa:87) (LM:z0s)(H H5:Hp)(d:Addr)(kvs:139) (ks:z0s)(g:G):Prop where
 sm:eZ d H H5
 hd:H5 d=184
 keys:kvs.map 84=ks.map Sum.inr
 nd:ks.Nodup
 sub:∀x∈ks,x∈LM++aa.map 84
 val:∀z,aT kvs 153=(g z).map V.int
def yf.len {aa:87}{LM:z0s}{d:Addr}{kvs:139}{g:G}(h:yf K aa LM H H5 d kvs ks g):kvs.length<=LM.length+aa.length:=by
 have h1:=congrArg List.length h.keys;have h2:=g8 ks _ h.nd h.sub;rw [bH,aA] at h2;rw [aA,aA] at h1;omega
def yf.same {aa:87}{d:Addr}{kvs:139}{g:G}(h:yf K aa LM H H5 d kvs ks g)(s:aF H5 H6):yf K aa LM H H6 d kvs ks g :=
 ⟨λb o n e=>s _ _ (h.sm b o n e),s _ _ h.hd,h.keys,h.nd,h.sub,h.val⟩
def yf.put {aa:87}{d:Addr}{kvs:139}{g:G}(h:yf K aa LM H H5 d kvs ks g){ru:aB}(hr:ru∈aa) (n:Int) :
  yf K aa LM H (upd H5 d (.dK (bx kvs (Sum.inr ru.1) (.int n)))) d (bx kvs (Sum.inr ru.1) (.int n)) (gL ks ru.1) (dN g ru.1 n):=by
 refine⟨λb o nb e=>by rw [ai nb];exact h.sm b o nb e,ae,ky h.keys ru.1,DA ru.1 h.nd,λx hx=>?_,λz=>?_⟩
 .rcases (jf ks ru.1 x).mp hx with z | z
  .exact h.sub x z
  rw [z];exact gi _ (iw hr)
 rw [m_];unfold dN;by_cases c:z=ru.1
 .rw [au c,au (by rw [c])];rfl
 rw [ar c,ar (λe=>c (mf e)),h.val]
def uL (F:iU K "settled_sizes" "settled_sizes" nA f fd)(T:Txt mg)(S:aN ["size","known"] ["size","known"] scope)
  (sf:∀(pm fI:Value)(c':Addr)(us:z0m),us.length=(["size","known"]:z0s).length->bindArgs (PySem.W.kla_fn "<lambda>" q params body scope [] pm (.ref c') fI) ⟨us,[]⟩=pure ((["size","known"]:z0s).zip us))
  (jb:∀(f c':Addr)(A:Around)(outer:List Env)(s:Shared)(H:Hp),PE (pD fC P w K mg base ["size","known"] q scope f (.ref c') A outer s H λ_ _ _=>False) body te)
  (hte:∀a b H Q,Q (.bl (bt a b)) H->te [some (.int a),some (.int b)] H Q):bS P w K mg base fC 2 f fd ["rules","sizes","better"] (h_ K q params body scope bt):=by
 refine F.ok ib 198 217
 .obtain⟨R,rs,aa,d,fl,c',pm,fI,kvs,ks,g,rfl,_⟩:=h;rfl
 obtain⟨R,rs,aa,d,fl,c',pm,fI,kvs,ks,g,rfl,hR,cU,bM,h8,hd,hk,UE,hkl,hv,⟨n0,RZ⟩,HZ,kI,qq⟩:=h;have hu:=eJ hr;refine⟨_,aj (aG (i:=3) ib.nd rfl 86 gQ)
  (aj (kb cq (rE (pv 3))
   (aj (aG (i:=3) ib.nd rfl 86 gQ)
   (av (bJ cq rfl (aV (pv 0)) (dZ rfl (aE (aw (i:=4) ib.nd rfl 86) (aE (aw (i:=5) ib.nd rfl 86) bV)))
    (av (cS (rE (bL (u6 rfl) rfl T.all boot_all (af (bK ["part"] [(1,"sizes")] rfl (gO (pv 5)) (bf rfl rfl) nofun rfl nofun
       (λ_ _ _ _ _=>aw (i:=0) (show (["part","sizes"]:z0s).Nodup by decide +kernel) rfl 86) (λ_ _ _ _ _=>cQ) (λ_ _ _ _ _=>GX (mD hu (pv 0) (pv 1)))) aq)))
     (aj (aG (i:=6) ib.nd rfl 86 (cC mE aC (bL (u4 rfl) rfl T.sum PyProof.Rows.boot_sum (af (bK ["part"] [(1,"sizes")] rfl (gO (pv 5)) (bf rfl rfl) nofun rfl nofun
       (λ_ _ _ _ _=>aw (i:=0) (show (["part","sizes"]:z0s).Nodup by decide +kernel) rfl 86) (λ_ _ _ _ _=>cQ) (λ_ _ _ _ _=>dO hu (pv 1) (pv 0) 152)) aq))))
     (av (cS (PW.pt (yB (dG (dX hu (pv 4) (pv 1))) (wU (rE (AW (i:=2) (k:=0) rfl rfl S hr sf jb (af (pv 6) (af (dO hu (pv 1) (pv 4) 152) aq)))))))
      (aj (gW hu (pv 1) (pv 4) (pv 6) rfl) (av (aG (i:=3) ib.nd rfl 86 gQ))) bo))) bo))))))
  (av (bp (pv 1)))),?_⟩
 nofun
 have ll:=a9 cU;have S0:yf K aa ks H H d kvs ks g:=⟨λ_ _ _ e=>e,hd,hk,UE,λx hx=>mX _ hx,hv⟩;refine⟨λm σ H5=>∃(eO:139) (Uu:z0s)(g2:G)(ch:Bool)(y4 y5 y6:149),σ=[a7 R,a7 d,a7 fl,some (.bl ch),y4,y5,y6]/\yf K aa ks H H5 d eO Uu g2/\dM bt aa g g2 /\
  ((ch=true/\∃n,m=n+1/\pI bt aa n g2)\/(ch=false/\gY bt aa g2)),⟨n0+1,kvs,ks,g,true,none,none,none,rfl,S0,.refl,.inl ⟨rfl,n0,rfl,RZ⟩⟩,?_⟩
 rintro m σ H5 ⟨eO,Uu,g2,ch,y4,y5,y6,rfl,S2,Fm,cs⟩;refine⟨_,rfl,ch,rfl,?_⟩;refine dj (λc=>?_) (λc=>?_)
 .rcases cs with ⟨_,n,em,en⟩ | ⟨c',_⟩
  case inr=>rw [c'] at c;cases c
  refine⟨λσ H6=>∃(mK:139) (Fn:z0s)(g3:G)(zC:Bool)(y4 y5 y6:149),σ=[a7 R,a7 d,a7 fl,some (.bl zC),y4,y5,y6]/\yf K aa ks H H6 d mK Fn g3/\(g3,zC)=tU bt aa g2,?_,?_⟩
  .rintro σ H6 ⟨mK,Fn,g3,zC,y4,y5,y6,rfl,S3,e3⟩;have YJ:g3=(tU bt aa g2).1:=congrArg Prod.fst e3;have OG:zC=(tU bt aa g2).2:=congrArg Prod.snd e3;have MV:dM bt aa g g3:=by
    rw [YJ];exact Fm.trans (sj bt aa aa (g2,false) λ_ h=>h)
   cases h3:zC with
   | false =>
    rw [h3] at OG;obtain⟨f1,f2⟩:=sr bt aa (g2,false) OG.symm;refine⟨0,∅,mK,Fn,g3,false,_,_,_,rfl,S3,MV,.inr ⟨rfl,?_⟩⟩;have e33:g3=g2:=YJ.trans f1;rw [e33];exact f2
   | true =>
    rw [h3] at OG;cases n with
    | zero=>rw [show (tU bt aa g2).2=false from en] at OG;cases OG
    | succ n' =>
     rcases en with en | en
     .rw [en] at OG;cases OG
     exact⟨n'+1,∅,mK,Fn,g3,true,_,_,_,rfl,S3,MV,.inl ⟨rfl,n',rfl,by rw [YJ];exact en⟩⟩
  refine⟨_,rfl,R,rfl,⟨_,S2.sm.seq hd hR⟩,?_⟩;refine cO (xs:=156) (λi σ H6=>∃(mK:139) (Fn:z0s)(g3:G)(zC:Bool)(y4 y5 y6:149),σ=[a7 R,a7 d,a7 fl,some (.bl zC),y4,y5,y6]/\yf K aa ks H H6 d mK Fn g3/\(g3,zC)=(aa.take i).foldl (sstep bt) (g2,false))
   ⟨eO,Uu,g2,false,_,_,_,rfl,S2,rfl⟩ ?_ ?_ ?_
  .rintro i σ H6 _ ⟨mK,Fn,g3,zC,y4,y5,y6,rfl,S3,_⟩;exact S3.sm.seq hd hR
  .rintro i x σ H6 ex ⟨mK,Fn,g3,zC,y4,y5,y6,rfl,S3,e3⟩;rw [aS] at ex;obtain⟨r,er,rfl⟩:=bQ.mp ex;obtain⟨ru,e1,p,v1,v2⟩:=cU.get er;have pb:=bE e1;have Jp:=h8 ru pb;have fo:(aa.take (i+1)).foldl (sstep bt) (g2,false)=sstep bt (g3,zC) ru:=by
    rw [d7,e1,vw,<-e3];rfl
   rw [fo];have Vt:=S3.sm.tup hd v2;refine⟨r,_,rfl,S3.sm.tup hd v1,rfl,_,_,rfl,_,_,rfl,rfl,?_⟩;refine⟨_,rfl,p,rfl,⟨_,Vt⟩,λD2 ph=>u0 rfl Vt ∅ S3.hd ph λH7 ZQ hd7=>?_⟩;have S4:=S3.same ZQ;have v4:=ZQ.tup Vt;have eb:(ru.2.map λz=>(aT mK 153).isSome).all id=kQ g3 ru:=by
    unfold kQ;rw [List.all_map];refine List.all_congr rfl λz=>?_;show (aT mK 153).isSome=_;rw [S3.val,mv]
   refine⟨D2,_,rfl,aJ.of hd7,_,rfl,?_⟩;rw [eb];refine dj (λc4=>?_) (λc4=>?_)
   .have al:∀z∈ru.2,(g3 z).isSome=true:=λz hz=>gb.mp c4 z hz;refine⟨_,rfl,p,rfl,⟨_,v4⟩,λD3 Sq=>EZ (g:=g3) rfl v4 ∅ S4.hd S4.val al Sq λH8 O6 Sh=>?_⟩;have S5:=S4.same O6;have esz:1+(ru.2.map λz=>(g3 z).getD 0).sum=aO g3 ru:=rfl;refine⟨D3,_,rfl,aJ.of Sh,_,_,rfl,rfl,?_⟩;have mem:(aT mK (Sum.inr ru.1)).isSome=(g3 ru.1).isSome:=by rw [S5.val,mv]
    have fl5:=S5.sm fl _ (λz=>by rw [z,hd] at HZ;cases HZ) HZ;have c5':=S5.sm c' _ (λz=>by rw [z,hd] at kI;cases kI) kI;have l5:=S5.len;refine⟨_,rfl,_,rfl,d,_,rfl,cb.k (k:=Sum.inr ru.1) S5.hd,_,rfl,?_⟩;refine dj (λc5=>?_) (λc5=>?_)
    .have fr:cA bt g3 ru=true:=by
      unfold cA;rw [<-mem,c4,c5];rfl
     refine⟨_,rfl,_,rfl,_,rfl,d,_,rfl,tK.k (k:=Sum.inr ru.1) S5.hd (bF ∅),?_⟩;exact⟨_,_,dN g3 ru.1 (aO g3 ru),true,_,_,_,rfl,S5.put pb (aO g3 ru),(au fr).symm⟩
    have isS:(g3 ru.1).isSome=true:=by
     rw [mem] at c5;cases hq:(g3 ru.1).isSome with
     | true=>rfl
     | false=>rw [hq] at c5;exact absurd rfl c5
    obtain⟨k,ek⟩:=lQ.mp isS;have hg:cb H8 d (.str ru.1) (some (.int k)):=by
     have:=cb.k (k:=Sum.inr ru.1) S5.hd;rw [S5.val,ek] at this;exact this
    refine⟨fl,pm,c',fI,rfl,_,rfl,_,rfl,_,rfl,d,_,rfl,hg,fl5,c5',rfl,hte (aO g3 ru) k _ _ ⟨_,rfl,?_⟩⟩;refine dj (λc6=>?_) (λc6=>?_)
    .have fr:cA bt g3 ru=true:=by
      unfold cA;rw [c4,ek];show (true && (false || bt (aO g3 ru) k))=true
      rw [c6];rfl
     refine⟨_,rfl,_,rfl,_,rfl,d,_,rfl,tK.k (k:=Sum.inr ru.1) S5.hd (bF ∅),?_⟩;exact⟨_,_,dN g3 ru.1 (aO g3 ru),true,_,_,_,rfl,S5.put pb (aO g3 ru),(au fr).symm⟩
    have fr:¬cA bt g3 ru=true:=by
     unfold cA;rw [c4,ek];show ¬(true && (false || bt (aO g3 ru) k))=true
     rw [qQ.mpr c6];exact nofun
    exact⟨mK,Fn,g3,zC,_,_,_,rfl,S5,(ar fr).symm⟩
   have e5:sstep bt (g3,zC) ru=(g3,zC):=ar (λz=>c4 (by unfold cA at z;exact(pJ.mp z).1));exact⟨mK,Fn,g3,zC,_,_,_,rfl,S4,e5.symm⟩
  rintro σ H6 ⟨mK,Fn,g3,zC,y4,y5,y6,rfl,S3,e3⟩;rw [aA,ll,cE] at e3;exact⟨mK,Fn,g3,zC,_,_,_,rfl,S3,e3⟩
 rcases cs with ⟨c',_⟩ | ⟨_,se⟩
 .rw [c'] at c;exact absurd rfl c
 exact⟨_,rfl,qq eO Uu g2 H5 S2.sm S2.hd S2.keys S2.val Fm se (by have:=S2.len;omega)⟩
end
end gM
namespace M11
open PySem L2
theorem fold_lt {aa:87}{J:G->Prop}{r:G->G->Prop}(tr:∀a b c,r a b->r b c->r a c)
  (qy:∀g ru,J g->ru∈aa->cA bt g ru=true->J (dN g ru.1 (aO g ru))/\r (dN g ru.1 (aO g ru)) g) :
  ∀(l:87)(a:G×Bool),(∀ru∈l,ru∈aa)->J a.1->J (l.foldl (sstep bt) a).1/\(l.foldl (sstep bt) a=a\/r (l.foldl (sstep bt) a).1 a.1)
 | [],a,_,j=>⟨j,.inl rfl⟩
 | ru::l,a,h,j=>by
  by_cases c:cA bt a.1 ru=true
  .have e:sstep bt a ru=(dN a.1 ru.1 (aO a.1 ru),true):=au c;obtain⟨j1,r1⟩:=qy a.1 ru j (h ru bP) c;obtain⟨j2,r2⟩:=fold_lt tr qy l (dN a.1 ru.1 (aO a.1 ru),true) (λx hx=>h x (b9 _ hx)) j1;rw [List.foldl_cons,e];refine⟨j2,.inr ?_⟩;rcases r2 with r2 | r2
   .rw [r2];exact r1
   exact tr _ _ _ r2 r1
  have e:sstep bt a ru=a:=ar c;rw [List.foldl_cons,e];exact fold_lt tr qy l a (λx hx=>h x (b9 _ hx)) j
def zg {aa:87}{J:G->Prop}{r:G->G->Prop}(tr:∀a b c,r a b->r b c->r a c)
  (qy:∀g ru,J g->ru∈aa->cA bt g ru=true->J (dN g ru.1 (aO g ru))/\r (dN g ru.1 (aO g ru)) g){g:G}(h:Acc r g)(j:J g):∃n,pI bt aa n g:=by
 induction h with
 | intro g _ ih =>
  cases c:(tU bt aa g).2 with
  | false=>exact⟨0,c⟩
  | true =>
   obtain⟨j2,r2⟩:=fold_lt tr qy aa (g,false) (λ_ h=>h) j;have r3:r (tU bt aa g).1 g:=by
    rcases r2 with r2 | r2
    .have e:(tU bt aa g)=(g,false):=r2;rw [e] at c;cases c
    exact r2
   obtain⟨n,hn⟩:=ih _ r3 j2;exact⟨n+1,.inr hn⟩
def dM.keep {aa:87}{J:G->Prop}(qy:∀g ru,J g->ru∈aa->cA bt g ru=true->J (dN g ru.1 (aO g ru))){g g':G}(h:dM bt aa g g')(j:J g):J g':=by
 induction h with
 | refl=>exact j
 | step _ a b ih=>exact qy _ _ ih a b
def eG (f:Str->Nat) (hs:z0s):Nat:=(hs.map f).sum
theorem yn {f k:Str->Nat}:∀{hs:z0s},(∀x∈hs,f x<=k x)->eG f hs<=eG k hs
 | [],_=>aH _
 | h::r,q=>by
  have h1:=q h bP;have h2:=yn (hs:=r) λx hx=>q x (b9 _ hx);show f h+eG f r<=k h+eG k r;omega
theorem ni {f k:Str->Nat}:∀{hs:z0s}{h:Str},(∀x∈hs,f x<=k x)->h∈hs->f h < k h->eG f hs < eG k hs
 | a::r,h,q,m,l=>by
  have h1:=q a bP;have h2:∀x∈r,f x<=k x:=λx hx=>q x (b9 _ hx);show f a+eG f r < k a+eG k r;rcases aX.mp m with z | z
  .have:=yn h2;rw [z] at l;omega
  have:=ni h2 z l;omega
theorem ju (g:G)(J:∀z n,g z=some n->(0:Int)<=n):∀ps:z0s,0<=(ps.map λp=>(g p).getD 0).sum
 | []=>by simp
 | p::r=>by
  have h1:=ju g J r;have h2:0<=(g p).getD 0:=by
   cases e:g p with
   | none=>exact ot _
   | some n=>exact J p n e
  rw [bY,ox];omega
def NN (g:G):Prop:=∀z n,g z=some n->(0:Int)<=n
def wZ {g:G}(j:NN g)(ru:aB):NN (dN g ru.1 (aO g ru)):=λz n e=>by
 unfold dN at e;by_cases c:z=ru.1
 .rw [au c] at e;cases e;have:=ju g j ru.2;unfold aO;omega
 rw [ar c] at e;exact j z n e
def bl (a b:Int):Bool:=decide (a < b)
def bg (a b:Int):Bool:=decide (a > b)
def Bl (hs:z0s)(g' g:G):Prop :=
 eG (λh=>if (g' h).isSome then 0 else 1) hs < eG (λh=>if (g h).isSome then 0 else 1) hs \/
 (eG (λh=>if (g' h).isSome then 0 else 1) hs=eG (λh=>if (g h).isSome then 0 else 1) hs/\eG (λh=>((g' h).getD 0).toNat) hs < eG (λh=>((g h).getD 0).toNat) hs)
def Kr (hs:z0s)(g:G):Acc (Bl hs) g:=by
 have wf:=(Prod.lex (β:=Nat) (α:=Nat) ⟨(· < ·),Nat.lt_wfRel.wf⟩ ⟨(· < ·),Nat.lt_wfRel.wf⟩).wf;have key:∀p:Nat×Nat,∀g:G,(eG (λh=>if (g h).isSome then 0 else 1) hs,eG (λh=>((g h).getD 0).toNat) hs)=p->Acc (Bl hs) g:=λp=>by
  induction p using wf.induction with
  | _ p ih =>
   intro g e;refine⟨g,λg' r=>ih _ ?_ g' rfl⟩;rw [<-e];rcases r with r | ⟨r1,r2⟩
   .exact Prod.Lex.left _ _ r
   show Prod.Lex _ _ (eG (λh=>if (g' h).isSome then 0 else 1) hs,_) _;rw [r1];exact Prod.Lex.right _ r2
 exact key _ g rfl
def NB (hs:z0s)(a b c:G)(h:Bl hs a b)(k:Bl hs b c):Bl hs a c:=by
 unfold Bl at *;omega
def Hz {aa:87}(g:G)(ru:aB)(j:NN g)(m:ru∈aa)(f:cA bl g ru=true):NN (dN g ru.1 (aO g ru))/\Bl (aa.map 84) (dN g ru.1 (aO g ru)) g:=by
 refine⟨wZ j ru,?_⟩;have hm:ru.1∈aa.map 84:=iw m;have nn:=wZ j ru;have zI:dN g ru.1 (aO g ru) ru.1=some (aO g ru):=au rfl;have ne:∀z,z≠ru.1->dN g ru.1 (aO g ru) z=g z:=λz n=>ar n;unfold cA at f;have f2:=(pJ.mp f).2;cases e:g ru.1 with
 | none =>
  refine .inl (ni (λx _=>?_) hm ?_)
  .by_cases c:x=ru.1
   .show (if (dN g ru.1 (aO g ru) x).isSome then 0 else 1)<=_;rw [c,zI];exact cY _
   show (if (dN g ru.1 (aO g ru) x).isSome then 0 else 1)<=_;rw [ne x c];exact aH _
  show (if (dN g ru.1 (aO g ru) ru.1).isSome then 0 else 1) < (if (g ru.1).isSome then 0 else 1);rw [zI,e];show 0 < 1;exact Nat.one_pos
 | some k =>
  rw [e] at f2;have lt:aO g ru < k:=dC (by simpa [bl] using f2);have h0:=nn ru.1 _ zI;refine .inr ⟨?_,ni (λx _=>?_) hm ?_⟩
  .unfold eG
   congr 1
   refine vG λx _=>?_;by_cases c:x=ru.1
   .show (if (dN g ru.1 (aO g ru) x).isSome then 0 else 1)=(if (g x).isSome then 0 else 1);rw [c,zI,e];rfl
   show (if (dN g ru.1 (aO g ru) x).isSome then 0 else 1)=(if (g x).isSome then 0 else 1);rw [ne x c]
  .by_cases c:x=ru.1
   .show ((dN g ru.1 (aO g ru) x).getD 0).toNat<=((g x).getD 0).toNat;rw [c,zI,e];show (aO g ru).toNat<=k.toNat;omega
   show ((dN g ru.1 (aO g ru) x).getD 0).toNat<=((g x).getD 0).toNat;rw [ne x c];exact aH _
  show ((dN g ru.1 (aO g ru) ru.1).getD 0).toNat < ((g ru.1).getD 0).toNat;rw [zI,e];show (aO g ru).toNat < k.toNat;omega
def Bm (aa:87)(g:G)(j:NN g):∃n,pI bl aa n g:=zg (NB (aa.map 84)) (λg ru=>Hz g ru) (Kr _ g) j
inductive Em (aa:87):Str->Prop
 | mk {ru:aB}:ru∈aa->(∀p∈ru.2,Em aa p)->Em aa ru.1
def zV (aa:87)(b:Str->Int):Prop:=(∀z,0<=b z)/\∀ru∈aa,(∀p∈ru.2,Em aa p)->1+(ru.2.map b).sum<=b ru.1
def GJ (aa:87)(b:Str->Int)(g:G):Prop:=∀z n,g z=some n->0<=n/\n<=b z/\Em aa z
theorem Cq {aa:87}{b:Str->Int}{g:G}(j:GJ aa b g)(hb:∀z,0<=b z):∀ps:z0s,(ps.map λp=>(g p).getD 0).sum<=(ps.map b).sum
 | []=>by simp
 | p::r=>by
  have h1:=Cq j hb r;have h2:(g p).getD 0<=b p:=by
   cases e:g p with
   | none=>exact hb p
   | some n=>exact(j p n e).2.1
  rw [bY,ox,bY,ox];omega
def gm (b:Str->Int)(g:G)(h:Str):Nat:=if (g h).isSome then (b h - (g h).getD 0).toNat else (b h).toNat+1
def sg {aa:87}{b:Str->Int}(B:zV aa b)(g:G)(ru:aB)(j:GJ aa b g)(m:ru∈aa)(f:cA bg g ru=true) :
  GJ aa b (dN g ru.1 (aO g ru))/\eG (gm b (dN g ru.1 (aO g ru))) (aa.map 84) < eG (gm b g) (aa.map 84):=by
 have hm:ru.1∈aa.map 84:=iw m;have zI:dN g ru.1 (aO g ru) ru.1=some (aO g ru):=au rfl;have ne:∀z,z≠ru.1->dN g ru.1 (aO g ru) z=g z:=λz n=>ar n;unfold cA at f;obtain⟨f1,f2⟩:=pJ.mp f;have em:∀p∈ru.2,Em aa p:=λp hp=>by
  obtain⟨n,en⟩:=lQ.mp (gb.mp f1 p hp);exact(j p n en).2.2
 have bd:=B.2 ru m em;have sb:=Cq j B.1 ru.2;have s0:=ju g (λz n e=>(j z n e).1) ru.2;have sz:0<=aO g ru/\aO g ru<=b ru.1:=by unfold aO;omega
 refine⟨λz n e=>?_,ni (λx _=>?_) hm ?_⟩
 .by_cases c:z=ru.1
  .rw [c,zI] at e;cases e;rw [c];exact⟨sz.1,sz.2,.mk m em⟩
  rw [ne z c] at e;exact j z n e
 .by_cases c:x=ru.1
  .rw [c];unfold gm;rw [zI];show (b ru.1 - aO g ru).toNat<=_;cases e:g ru.1 with
   | none=>show _<=(b ru.1).toNat+1;omega
   | some k =>
    rw [e] at f2;have lt:aO g ru > k:=dC (by simpa [bg] using f2);show _<=(b ru.1 - k).toNat;omega
  unfold gm;rw [ne x c];exact aH _
 unfold gm;rw [zI];show (b ru.1 - aO g ru).toNat < _;cases e:g ru.1 with
 | none=>show _ < (b ru.1).toNat+1;omega
 | some k =>
  rw [e] at f2;have lt:aO g ru > k:=dC (by simpa [bg] using f2);show _ < (b ru.1 - k).toNat;omega
def Bz {aa:87}{b:Str->Int}(B:zV aa b)(g:G)(j:GJ aa b g):∃n,pI bg aa n g :=
 zg (r:=λg' g=>eG (gm b g') (aa.map 84) < eG (gm b g) (aa.map 84)) (λ_ _ _ h k=>iK h k) (sg B) ((InvImage.wf (λg:G=>eG (gm b g) (aa.map λx:aB=>x.1)) Nat.lt_wfRel.wf).apply g) j
def y_ {aa:87}{b:Str->Int}(B:zV aa b){g g':G}(h:dM bg aa g g')(j:GJ aa b g):GJ aa b g':=h.keep (λg ru a m f=>(sg B g ru a m f).1) j
end M11
namespace L2
open PySem
def zt {K:aU}{H:Hp}{p D:Addr}{zs:z0s}{σ:St}{v:V}{x:Str}{Qp:143}(hp:aJ K H p (zs.map V.str))(hz:zs.length<=10000)(hD:H D=none)
  (q:∀ts H2,aF H H2->H2 D=222->Paired (λt h=>aQ K H2 t [.str h,v]) ts zs->Qp H2) :
  ∃W:370,(∃m,W 0 m [] (eF [x] [] σ) 237) /\
 ∀i m ys σ' H,W i m ys σ' H->((l_ K p).stop i H/\Qp H)\/((l_ K p).go i H/\∃m',m' < m/\∀x H',(l_ K p).oR i H x H'->eB 0 x σ' H' λσ2 H2=>i3 σ2 H2 λb H3 =>
  if b=true then tT (fQ (gH 0) (fQ (tC v) q9)) σ2 H3 323 else W (i+1) m' ys σ2 H3):=by
 refine bN (xs:=zs.map V.str) (λi ys σ2 H2=>∃ts:z0p,ys=155/\ts.length=i/\Paired (λt h=>aQ K H2 t [.str h,v]) ts (zs.take i)/\(∃y0,σ2=[y0])/\449)
  ⟨[],rfl,rfl,.nil,⟨none,rfl⟩,ag hD _,ae⟩ (λi ys σ2 H2 _ h=>?_) (λi x ys σ2 H2 ex h=>?_) (λys σ2 H2 h=>?_)
 .obtain⟨_,_,_,_,_,sm,_⟩:=h;exact sm.seq hp
 .obtain⟨ts,rfl,ht,xu,⟨y0,rfl⟩,sm,hd⟩:=h;rw [aS] at ex;obtain⟨z,ez,rfl⟩:=bQ.mp ex;have li:=(bw.mp ez).1;refine goN (BA ?_);refine⟨_,rfl,kR,λt ji=>⟨?_,220,ts++[t],?_,?_,?_,⟨_,rfl⟩,?_,ae⟩⟩
  .rw [ai (ay hd ji)];exact hd
  .rw [bC];rfl
  .rw [bH,ht];rfl
  .rw [d7,ez];have iQ:upd H2 t (.tup [.str z,v]) D=222:=by rw [ai (ay hd ji)];exact hd
   exact fN (Paired.iq xu λt' h' z=>bT iQ ((ag ji _).tup z)) (bT iQ (aQ.of ae))
  intro b o hb;rw [450];exact ag ji _ _ _ (sm b o hb)
 obtain⟨ts,rfl,ht,xu,_,sm,hd⟩:=h;rw [aA,cE] at xu;exact q ts H2 sm hd xu
def Tab.same {T:Addr}(h:Tab T pos qual H)(s:aF H H'):Tab T pos qual H':=by
 obtain⟨ps,a,b,c⟩:=h;refine⟨ps,s _ _ a,b,c.imp id ?_⟩;rintro⟨c',e,g⟩;exact⟨c',e,s _ _ g⟩
def Tab.Lu {T d:Addr}{kvs:139}(h:Tab T pos qual H)(s:eZ d H H')(hd:H d=184):Tab T pos qual H':=by
 obtain⟨ps,a,b,c⟩:=h;refine⟨ps,s _ _ (λz=>by rw [z,hd] at a;cases a) a,b,c.imp id ?_⟩;rintro⟨c',e,g⟩;exact⟨c',e,s _ _ (λz=>by rw [z,hd] at g;cases g) g⟩
structure zQ (K:aU)(x qual:Str)(st:Stmt)(f:Addr)(fd:FuncData)(T:Addr):Prop where
 ex:∃(oc:Value)(od:z0l)(kV doc pm:Value)(an:z0l)(c:Addr)(ct:Value)(wW:z0a),
  fd=PySem.W.fnOf x qual (cW st) (cg st) (az st) .none kV doc pm an (.ref c) ct/\K.lookup f=some ⟨oc,od,.func fd,wW⟩/\PySem.W.codeIn K (.ref c) qual=true/\PySem.W.codeHdIn K c T=true
 kp:PySem.W.keepIn K (.ref f)=true
def zQ.ok {K:aU}{x qual:Str}{f:Addr}{T:Addr}{N ps:z0s}{k:Nat}(F:zQ K x qual st f fd T)(S:aN N ps (az st))(len:∀vs H Q E,sp vs H Q E->vs.length=ps.length)
  (jb:∀(c:Addr)(A:Around)(outer:List Env)(s:Shared)(H:Hp)(vs:List V)(Q:VK)(E:XK),PySem.W.codeHdIn K c T=true->fA k (A.deeper (PyProof.Rows.envOfC qual (az st) s.heap.objs.size f (.ref c)))->sp vs H Q E ->
   ∃t,B_ (pD fC P w K mg base N qual (az st) f (.ref c) A outer s H E).Ki (cg st) t/\t { nx:=λ_ H'=>Q .dY H',rt:=Q } (start N vs) H):bS P w K mg base fC (k+1) f fd ps sp:=by
 obtain⟨oc,od,kV,doc,pm,an,c,ct,wW,rfl,lk,xA,hC⟩:=F.ex;refine Iq lk xA S len λA outer s H vs Q E hr Fs=>?_;obtain⟨t,h,q⟩:=jb c A outer s H vs Q E hC hr Fs;exact⟨t,h.Ki,q⟩
theorem uO {v:V}:∀(hs:z0s)(bz:139) (as:z0s),bz.map 84=as.map Sum.inr->(cP (hs.map λh=>((Sum.inr h:aL),v)) bz).map 84=(M11.xM as hs).map Sum.inr
 | [],bz,as,e=>e
 | h::r,bz,as,e=>uO r (bx bz (Sum.inr h) v) (M11.gL as h) (gM.ky e h)
theorem q8 {v:V}:∀(hs:z0s)(bz:139)(z:Str),aT (cP (hs.map λh=>((Sum.inr h:aL),v)) bz) 153=if z∈hs then some v else aT bz 153
 | [],bz,z=>by simp [cP]
 | h::r,bz,z=>by
  have ih:=q8 (v:=v) r (bx bz (Sum.inr h) v) z;show aT (cP (r.map λh=>((Sum.inr h:aL),v)) (bx bz (Sum.inr h) v)) 153=_;rw [ih,m_];by_cases c:z∈r
  .rw [au c,au (b9 _ c)]
  rw [ar c];by_cases c2:z=h
  .rw [au (by rw [c2]),au (by rw [c2];exact bP)]
  rw [ar (λe=>c2 (mf e)),ar (λe=>(aX.mp e).elim c2 c)]
end L2
namespace gM
open PySem L2 M11
def Ro:List Stmt->Arguments×Expr×Scope×Pos
 | [.Return (some (.Call _ [_,_,.Lambda p b s pos] _ _)) _]=>(p,b,s,pos)
 | _=>(⟨[],[],none,[],[],none,[]⟩,.Constant .none 0 ⟨0,0,0,0⟩,az rq,⟨0,0,0,0⟩)
abbrev rP:=Ro (cg rq)
abbrev Bk:=Ro (cg wI)
abbrev zW:Str := "least_sizes" ++ ".<locals>." ++ "<lambda>"
abbrev LH:Str := "greatest_empty_sizes" ++ ".<locals>." ++ "<lambda>"
def MZ:aN ["size","known"] ["size","known"] rP.2.2.1:=185
def M0:aN ["size","known"] ["size","known"] Bk.2.2.1:=185
section
def A6 (F:iU K "settled_sizes" "settled_sizes" nA f fd)(T:Txt mg):bS P w K mg base fC 2 f fd ["rules","sizes","better"] (h_ K zW rP.1 rP.2.1 rP.2.2.1 M11.bl) :=
 uL F T MZ (λpm fI c' us hl=>match us,hl with | [_,_],_=>rfl) (λ_ _ _ _ _ _=>qr uK (pv 0) (pv 1) (cv _)) (λa b H Q h=>⟨_,rfl,_,rfl,_,_,rfl,rfl,h⟩)
def A7 (F:iU K "settled_sizes" "settled_sizes" nA f fd)(T:Txt mg):bS P w K mg base fC 2 f fd ["rules","sizes","better"] (h_ K LH Bk.1 Bk.2.1 Bk.2.2.1 M11.bg) :=
 uL F T M0 (λpm fI c' us hl=>match us,hl with | [_,_],_=>rfl) (λ_ _ _ _ _ _=>qr yG (pv 0) (pv 1) (cv _)) (λa b H Q h=>⟨_,rfl,_,rfl,_,_,rfl,rfl,h⟩)
def zY (aa:87):G:=λz=>if z∈qj (hd aa) [] (aa.flatMap (·.2)) then some 0 else none
def qk (K:aU)(T1:Addr):Sp:=λvs H Q _=>∃(R:Addr)(rs:z0p)(aa:87),vs=[.ref R]/\aJ K H R 180/\bu K H rs aa/\aa.length<=1000/\325/\Tab T1 rP.2.2.2 zW H /\
 ∀(d:Addr)(kvs:139) (ks:z0s)(g:G)(H':Hp),H d=none->eZ T1 H H'->Tab T1 rP.2.2.2 zW H'->H' d=184->kvs.map 84=ks.map Sum.inr->(∀z,aT kvs 153=(g z).map V.int)->dM M11.bl aa (zY aa) g->gY M11.bl aa g->kvs.length<=20000->Q (.ref d) H'
def JI:aN ["rules"] ["rules"] (az rq):=185
def G9 (F:zQ K "least_sizes" "least_sizes" rq f fd T1)(T:Txt mg)(hB:tL mg base)(GW:aM P w K mg base 1 "words_in" ["rules"] (Cv K))
  (GS:aM P w K mg base 2 "settled_sizes" ["rules","sizes","better"] (h_ K zW rP.1 rP.2.1 rP.2.2.1 M11.bl)):bS P w K mg base fC 3 f fd ["rules"] (qk K T1):=by
 refine F.ok JI 198 (λc A outer s H vs Q E hC hr h=>?_)
 .obtain⟨R,rs,aa,rfl,_⟩:=h;rfl
 obtain⟨R,rs,aa,rfl,hR,cU,bM,h8,hT,q⟩:=h;refine⟨_,av (bp (bZ GS hr rfl (af (pv 0) (af (a8 (dS rfl) rfl T.Dp eY (af
  (bK ["word"] [] rfl (aV (bZ (GW.mono (by decide:1<=2)) hr rfl (af (pv 0) aq))) (bf rfl rfl) nofun rfl nofun
   (λ_ _ _ _ _=>aw (i:=0) (show (["word"]:z0s).Nodup by decide +kernel) rfl 86) (λ_ _ _ _ _=>cQ)
   (λ_ _ _ _ _=>bq (af (pv 0) (af aC aq)))) aq)) (af (GB (T:=T1) rfl hC hB nofun) aq))))),?_⟩
 dsimp only [lF];refine⟨_,rfl,_,rfl,R,rs,aa,rfl,hR,cU,bM,h8,λD1 H1 f1 s1 e1=>?_⟩;have lw:(qj (hd aa) [] (aa.flatMap (·.2))).length<=8000:=by
  have h1:=v9 (hd aa) (aa.flatMap (·.2)) [];have h2:=jd aa 1000 bM h8;simp only [jD] at h1;omega
 refine⟨D1,rfl,⟨_,aJ.of e1⟩,λD2 ph=>zt (aJ.of e1) ∅ ph λts H2 s2 e2 p2=>?_⟩;have kp:Paired (λt (kv:aL×V)=>aQ K H2 t [kV kv.1,kv.2]) ts ((qj (hd aa) [] (aa.flatMap (·.2))).map λh=>((Sum.inr h:aL),V.int 0)):=cH p2 λ_ _ z=>z;refine⟨D2,ts,_,rfl,e2,kp,λd hd2=>?_⟩;have k1:=uO (v:=.int 0) (qj (hd aa) [] (aa.flatMap (·.2))) [] [] rfl;have k2:∀z,aT (cP ((qj (hd aa) [] (aa.flatMap (·.2))).map λh=>((Sum.inr h:aL),V.int 0)) []) 153=(zY aa z).map V.int:=λz=>by
  rw [q8];unfold zY
  split <;> rfl
 have lk:=iG (qj (hd aa) [] (aa.flatMap (·.2))) [];simp only [jD] at lk;generalize cP ((qj (hd aa) [] (aa.flatMap (·.2))).map λh=>((Sum.inr h:aL),V.int 0)) []=Rt at k1 k2;have s3:=(s1.trans s2).trans (ag hd2 (.dK Rt));have e3:upd H2 d (.dK Rt) d=some (.dK Rt):=ae;have xD:H d=none:=(s1.trans s2).free hd2;generalize upd H2 d (.dK Rt)=H3 at s3 e3;refine⟨hT.same s3,λfl c' fI H4 s4 t4 ffl e4 YB=>?_⟩;have nT:d≠T1:=λz=>by
  obtain⟨ps,a,_⟩:=hT.same s3;rw [<-z,e3] at a;cases a
 have Fv:=s4 d _ nT e3;have Wv:∀{a xs},aQ K H a xs->aQ K H4 a xs:=λ{a xs} h=>by
  obtain⟨ps,b,_⟩:=hT;rcases h with (h | ⟨u,h⟩) | h
  .exact .inl (.inl (s4 _ _ (λz=>by rw [z,b] at h;cases h) (s3 _ _ h)))
  .exact .inl (.inr ⟨u,s4 _ _ (λz=>by rw [z,b] at h;cases h) (s3 _ _ h)⟩)
  exact .inr h
 have Ww:∀{a xs},aJ K H a xs->aJ K H4 a xs:=λ{a xs} h=>by
  obtain⟨ps,b,_⟩:=hT;rcases h with (h | ⟨u,h⟩) | h
  .exact .inl (.inl (s4 _ _ (λz=>by rw [z,b] at h;cases h) (s3 _ _ h)))
  .exact .inl (.inr ⟨u,s4 _ _ (λz=>by rw [z,b] at h;cases h) (s3 _ _ h)⟩)
  exact .inr h
 refine⟨R,rs,aa,d,fl,c',_,fI,Rt,_,zY aa,rfl,Ww hR,cU.keep λ_ _ z=>Wv z,bM,h8,Fv,k1,pA _ jn,∅,k2,Bm aa _ λz n e=>?_,e4,YB,λmM Ru g' H5 s5 e5 k5 v5 st se lk'=>?_⟩
 .unfold zY at e
  split at e
  .cases e;exact ot _
  cases e
 refine q d mM Ru g' H5 xD (λb o n hb=>s5 b o (λz=>?_) (s4 b o n (s3 b o hb))) (t4.Lu s5 Fv) e5 k5 v5 st se lk';rw [z,xD] at hb;cases hb
def wq (K:aU)(T2:Addr):Sp:=λvs H Q _=>∃(R:Addr)(rs:z0p)(aa:87)(b:Str->Int),vs=[.ref R]/\aJ K H R 180/\bu K H rs aa/\aa.length<=1000/\325/\zV aa b/\Tab T2 Bk.2.2.2 LH H /\
 ∀(d:Addr)(kvs:139) (ks:z0s)(g:G)(H':Hp),H d=none->eZ T2 H H'->Tab T2 Bk.2.2.2 LH H'->H' d=184->kvs.map 84=ks.map Sum.inr->(∀z,aT kvs 153=(g z).map V.int)->GJ aa b g->dM M11.bg aa (λ_=>none) g->gY M11.bg aa g->Q (.ref d) H'
def JL:aN ["rules"] ["rules"] (az wI):=185
def Ha (F:zQ K "greatest_empty_sizes" "greatest_empty_sizes" wI f fd T2)(hB:tL mg base)
  (GS:aM P w K mg base 2 "settled_sizes" ["rules","sizes","better"] (h_ K LH Bk.1 Bk.2.1 Bk.2.2.1 M11.bg)):bS P w K mg base fC 3 f fd ["rules"] (wq K T2):=by
 refine F.ok JL 198 (λc A outer s H vs Q E hC hr h=>?_)
 .obtain⟨R,rs,aa,b,rfl,_⟩:=h;rfl
 obtain⟨R,rs,aa,b,rfl,hR,cU,bM,h8,hBd,hT,q⟩:=h;refine⟨_,av (bp (bZ GS hr rfl (af (pv 0) (af fV (af (GB (T:=T2) rfl hC hB nofun) aq))))),?_⟩;refine⟨_,rfl,λd xD=>?_⟩;have s3:=ag xD (.dK []);have e3:upd H d (.dK []) d=some (.dK []):=ae;generalize upd H d (.dK [])=H3 at s3 e3;refine⟨hT.same s3,λfl c' fI H4 s4 t4 ffl e4 YB=>?_⟩;have nT:d≠T2:=λz=>by
  obtain⟨ps,a,_⟩:=hT.same s3;rw [<-z,e3] at a;cases a
 have Fv:=s4 d _ nT e3;have Wv:∀{a xs},aQ K H a xs->aQ K H4 a xs:=λ{a xs} h=>by
  obtain⟨ps,b,_⟩:=hT;rcases h with (h | ⟨u,h⟩) | h
  .exact .inl (.inl (s4 _ _ (λz=>by rw [z,b] at h;cases h) (s3 _ _ h)))
  .exact .inl (.inr ⟨u,s4 _ _ (λz=>by rw [z,b] at h;cases h) (s3 _ _ h)⟩)
  exact .inr h
 have Ww:∀{a xs},aJ K H a xs->aJ K H4 a xs:=λ{a xs} h=>by
  obtain⟨ps,b,_⟩:=hT;rcases h with (h | ⟨u,h⟩) | h
  .exact .inl (.inl (s4 _ _ (λz=>by rw [z,b] at h;cases h) (s3 _ _ h)))
  .exact .inl (.inr ⟨u,s4 _ _ (λz=>by rw [z,b] at h;cases h) (s3 _ _ h)⟩)
  exact .inr h
 have j0:GJ aa b (λ_=>none):=λz n e=>nomatch e;refine⟨R,rs,aa,d,fl,c',_,fI,[],[],λ_=>none,rfl,Ww hR,cU.keep λ_ _ z=>Wv z,bM,h8,Fv,rfl,jn,cY _,λ_=>rfl,Bz hBd _ j0,e4,YB,λmM Ru g' H5 s5 e5 k5 v5 st se lk'=>?_⟩;refine q d mM Ru g' H5 xD (λb o n hb=>s5 b o (λz=>?_) (s4 b o n (s3 b o hb))) (t4.Lu s5 Fv) e5 k5 v5 (y_ hBd st j0) st se;rw [z,xD] at hb;cases hb
end
end gM
namespace L2
open PySem PySem.Spec PyProof.Rows
def zf (o:Obj):Nat:=match o.data with
 | .dict _ ep=>ep
 | _=>0
def TL (d:Addr)(o:Obj)(kvs:139):It :=
 ⟨λi H=>H d=some (.g9 o (.dK kvs))/\i < kvs.length,λi H x H'=>H'=H/\∃kv,kvs[i]?=some kv/\x=kV kv.1,λi H=>H d=some (.g9 o (.dK kvs))/\kvs.length<=i⟩
def BI {X:Cx}{σ:St}{s:Shared}{d:Addr}{o:Obj}{kvs:139}(I:141)(e:H d=some (.g9 o (.dK kvs))) :
  (d == sysModules)=false/\∃vs,KV kvs vs/\s.heap.DictAt (aI X.prog X.w) d vs (zf o):=by
 obtain⟨ho,hz,hs,vs,r,o',es,ep,h1,h2,h3,h4⟩:=(show bO X.prog X.w H s.heap d (.g9 o (.dK kvs)) from I.bI d _ e);rw [ho] at h1;cases h1;refine⟨hs,vs,r,o,es,ho,h2,?_,h4⟩;unfold zf;rw [h3]
def DL {K:aU}(d it:Addr)(o:Obj)(kvs:139):Turn P w K tg (TL d o kvs) [it] it (λi h=>h.IsKeyIter it d i kvs.length (zf o)) where
 mem:=by simp
 obj:=λi h st b hb=>by
  have e:b=it:=by simpa using hb
  subst e;obtain⟨o,e,c,d⟩:=st;exact⟨o,e,λv z=>by rw [d] at z;cases z⟩
 keep:=λi h h' st k=>let ⟨o,e,r⟩:=st;⟨o,k it 88 o e,r⟩
 item:=by
  intro X hP hw hK hc i ah s σ H E I hf st hg;subst hP hw hK;obtain⟨hq,hi⟩:=hg;obtain⟨hs,vs,r,da⟩:=BI I hq;have l:=r.length;obtain⟨kv,IB⟩:∃kv,kvs[i]?=some kv:=⟨kvs[i],dA hi⟩;obtain⟨q,eq⟩:∃q,vs[i]?=some q:=⟨vs[i]'∅,dA ∅⟩;have ek:kv.1=q.1:=by
   have:=congrArg (λl:List aL=>l[i]?) r.keys;simp only [aS,IB,eq] at this;exact jE this
  obtain⟨f0,f1,f2,f3,f4,f5⟩:=hf it 88;rw [l] at st;refine wpAny_pyNext_dict_item (k:=q.1) (v:=q.2) st da eq λkey h' hk x_ sb=>?_;have I1:Inv X ah σ H 221:=I.turned (t':=s.toks) (λb o hb e=>(sb.2 b hb).trans e) f0 f1 f3 f4 f5;obtain⟨o2,e,c,dd⟩:=id x_;rw [<-l] at x_;exact⟨key,rfl,De (s:=221) e c dd nofun ⟨kV kv.1,H,I1,by rw [ek];exact LS hk,⟨rfl,kv,IB,rfl⟩,x_,λb hb=>(hf b hb).1⟩⟩
 done:=by
  intro X hP hw hK hc i ah s σ H E I hf st hg;subst hP hw hK;obtain⟨hq,hi⟩:=hg;obtain⟨hs,vs,r,da⟩:=BI I hq;have l:=r.length;obtain⟨f0,f1,f2,f3,f4,f5⟩:=hf it 88;rw [l] at st;exact wpAny_pyNext_dict_end (I.ok.hd hc) st da (mZ ∅) 465
 self:=λ_ _ _ _ _ st h=>wpAny_pyIter_keyiter st h
def RF (tl:TE):TI:=λσ H R=>tl σ H λx H1=>∃d kvs,x=.ref d/\H1 d=184/\∀o,R (TL d o kvs) (upd H1 d (.g9 o (.dK kvs)))
def CY {tg l:Expr}{tl:TE}(hl:PE X l tl):PI X tg l (RF tl):=by
 intro ah s σ H R I h;refine cM (hl ah s σ H _ I h) λv s1 aW=>?_;obtain⟨x,H1,I1,r1,q1⟩:=aW;obtain⟨d,kvs,e,hd,q⟩:=q1;subst e;cases r1;obtain⟨hz,hs,vs,r,o,es,ep,h1,h2⟩:=(show bO X.prog X.w H1 s1.heap d (.dK kvs) from I1.bI d _ hd);have I2:Inv X ah σ (upd H1 d (.g9 o (.dK kvs))) { s1 with heap:=s1.heap,toks:=s1.toks }:=I1.write (x:=d) (e:=d) (by rw [hd];exact True.intro) (.inl rfl) (λb u _ e=>e) ⟨o,h1⟩ ⟨h1,hz,hs,vs,r,o,es,ep,h1,h2⟩;have e2:upd H1 d (.g9 o (.dK kvs)) d=some (.g9 o (.dK kvs)):=ae;obtain⟨_,ZE,r2,da⟩:=BI I2 e2;have q2:=q o;generalize upd H1 d (.g9 o (.dK kvs))=H2 at I2 e2 q2;refine wpAny_pyIter_dict hs da ?_;refine⟨s1.heap.objs.size,[s1.heap.objs.size],_,_,H2,rfl,I2.kept (t':=s1.toks) λb o e=>a0 _ e,DL d _ o kvs,⟨_,bB _ rfl,rfl,by rw [r2.length];rfl⟩,λb hb=>?_,q2⟩;have e:b=s1.heap.objs.size:=by simpa using hb
 subst e;exact I2.ue (aH _) (I2.bI.fresh (aH _))
section
variable {d D:Addr}{o:Obj}{kvs:139}{ts:z0s}{js:z0i}{g:TG}{tif:TT}{te:TE}{R:143}{σ:St}{H:Hp}
def sW (Pv:Nat->List V->St->143)(h0:Pv 0 [] (eF ts js σ) 237)(hl:∀i ys σ H,i<=kvs.length->Pv i ys σ H->H d=some (.g9 o (.dK kvs)))
  (hs:∀i kv ys σ H,kvs[i]?=some kv->Pv i ys σ H->g (kV kv.1) σ H 468)
  (hd:∀ys σ H,Pv kvs.length ys σ H->R H) :
  ∃W:370,(∃m,W 0 m [] (eF ts js σ) 237) /\
 ∀i m ys σ' H,W i m ys σ' H->((TL d o kvs).stop i H/\R H)\/((TL d o kvs).go i H/\∃m',m' < m/\∀x H',(TL d o kvs).oR i H x H'->g x σ' H' λσ2 H2=>tif σ2 H2 λb H3 =>
  if b=true then te σ2 H3 323 else W (i+1) m' ys σ2 H3):=by
 refine⟨λi m ys σ H=>m=kvs.length - i/\i<=kvs.length/\Pv i ys σ H,⟨kvs.length,by simp,cY _,h0⟩,?_⟩;rintro i m ys σ' H ⟨rfl,hi,p⟩;have q:=hl i ys σ' H hi p;by_cases gR:i < kvs.length
 .refine .inr ⟨⟨q,gR⟩,kvs.length - (i+1),∅,λx H' y=>?_⟩;obtain⟨e,kv,IB,rfl⟩:=y;subst e;have z:=hs i kv ys σ' _ IB p;have h1:(i+1<=kvs.length)=True:=eq_true gR;simp only [h1,true_and];exact z
 have e:i=kvs.length:=by omega
 subst e;exact .inl ⟨⟨q,aH _⟩,hd ys σ' H p⟩
end
def uZ {A:Around}{s:Shared}{l b:Addr}{ys xs:z0t}{aK cX:z0m}(r:bh (ys.map V.int) aK)(r2:bh (xs.map V.int) cX)(hl:s.heap.IsList l aK.toArray)(hb:s.heap.IsList b cX.toArray)(ne:l≠b)(hu:A.units < cLine) :
  SeqAt.EqAt A s (.ref l) (.ref b) (decide (ys=xs)):=by
 have l1:=r.length;have l2:=r2.length;rw [aA] at l1 l2;by_cases bM:ys.length=xs.length
 .have h:=SeqAt.RcAt.lists (A:=A) (e:=λj=>decide (ys[j]?=xs[j]?)) hl hb (by simp only [cu];omega) hu λj h1 h2=>?_
  .have e:((List.range aK.toArray.size).all λj=>decide (ys[j]?=xs[j]?))=decide (ys=xs):=by
    rw [hV,gb,decide_eq_true_iff];constructor
    .intro h;refine List.ext_getElem? λj=>?_;by_cases c:j < ys.length
     .exact dC (h j (gG.mpr (by simp only [cu];omega)))
     rw [mZ ∅,mZ ∅]
    intro h j _;rw [h];exact cZ rfl
   rw [e] at h;exact .of_refs ne h
  have k1:j < aK.length:=by simpa using h1
  have k2:j < cX.length:=by simpa using h2
  have e1:ys[j]?=some (ys[j]'∅):=dA ∅;have e2:xs[j]?=some (xs[j]'∅):=dA ∅;obtain⟨u1,f1,q1⟩:=r.get (show (ys.map V.int)[j]?=some (.int (ys[j]'∅)) by rw [aS,e1];rfl);obtain⟨u2,f2,q2⟩:=r2.get (show (xs.map V.int)[j]?=some (.int (xs[j]'∅)) by rw [aS,e2];rfl);have g1:aK.toArray[j]=u1:=by
   have:=(bw.mp f1).2;simpa using this
  have g2:cX.toArray[j]=u2:=by
   have:=(bw.mp f2).2;simpa using this
  rw [g1,g2,e1,e2];obtain⟨t1,rfl⟩:=q1;obtain⟨t2,rfl⟩:=q2;have:=qO (A:=A.in1) (s:=s) (ys[j]'∅) t1 (xs[j]'∅) t2;have e3:(ys[j]'∅ == xs[j]'∅)=decide (some (ys[j]'∅)=some (xs[j]'∅)):=by
   rw [hV,beq_iff_eq,decide_eq_true_iff,Option.some.injEq]
  rw [e3] at this;exact this
 have h:=SeqAt.RcAt.lists_lengths (A:=A) hl hb (by simp only [cu,bne_iff_ne];omega) hu;rw [fK (λz=>bM (by rw [z]))];exact .of_refs ne h
def Eb {X:Cx}(hu:X.A.units+1 < cLine):oj X (compareOp .In) (λx y H Q=>∃t a l1 l2 xs ys zs,x=.ref a/\y=.ref t/\aQ X.K H t [.ref l1,.ref l2]/\aJ X.K H a (List.map V.int xs)/\aJ X.K H l1 (List.map V.int ys)/\aJ X.K H l2 (List.map V.int zs)/\l1≠a/\l2≠a /\
  Q (.bl (decide (ys=xs) || decide (zs=xs))) H):=by
 intro ah s σ H x y v u Q I rx ry h;obtain⟨t,a,l1,l2,xs,ys,zs,rfl,rfl,ht,ha,h1,h2,n1,n2,q⟩:=h;cases rx;cases ry;obtain⟨aK,r,pl,hz⟩:=I.tuple ht;obtain⟨u1,u2,rfl,q1,q2⟩:=vals2 r;cases (show u1=Value.ref l1 from q1);cases (show u2=Value.ref l2 from q2);obtain⟨xa,ra,pa,za⟩:=I.list ha;obtain⟨x1,r1,p1,z1⟩:=I.list h1;obtain⟨x2,r2,p2,z2⟩:=I.list h2;have e1:=uZ (A:=X.A.in1) (s:=s) r1 ra p1.isList pa.isList n1 hu;have e2:=uZ (A:=X.A.in1) (s:=s) r2 ra p2.isList pa.isList n2 hu;refine SeqAt.in_tupleAt (λy=>if y == .ref l1 then decide (ys=xs) else decide (zs=xs)) (show s.heap.IsTuple t #[.ref l1,.ref l2] from pl) (λy hy=>?_) ?_
 .have hy':y=.ref l1\/y=.ref l2:=by simpa using hy
  by_cases c:y=.ref l1
  .subst c;rw [au (lI _)];exact e1
  rcases hy' with z | z
  .exact absurd z c
  subst z;rw [ar (λq=>c (eq_of_beq q))];exact e2
 refine⟨.bl (decide (ys=xs) || decide (zs=xs)),H,I,?_,q⟩
 show Value.bool _=Value.bool _
 congr 1
 by_cases c:l2=l1
 .subst c;have e3:=I.rQ h1 h2;have e4:ys=zs:=by
   have:=congrArg (List.map λv:V=>match v with | .int n=>n | _=>0) e3
   simpa [fj,Function.comp_def] using this
  subst e4;simp
 simp [c]
end L2
namespace M11
open PySem L2
def EM (b:Str->Bool) (zs:z0s) (i:Nat):z0t:=((List.range i).filter λj=>!(zs[j]?.elim true b)).map λj:Nat=>(j:Int)
def zc (b:Str->Bool) (zs:z0s) (i:Nat)(e:zs[i]?=some z):EM b zs (i+1)=EM b zs i++(if b z=true then [] else [(i:Int)]):=by
 unfold EM;rw [List.range_succ,jR,bC]
 congr 1
 by_cases h:b z=true
 .rw [au h];simp [e,h]
 rw [ar h];simp [e,h]
def KW (b:Str->Bool) (zs:z0s) (i:Nat):(EM b zs i).length<=i:=by
 unfold EM;rw [aA];have:=iz (λj=>!(zs[j]?.elim true b)) (List.range i);rw [mU] at this;exact this
def Kq (b:Str->Bool) (zs:z0s) (j:Nat):Bool:=decide ([]=EM b zs zs.length) || decide ([(j:Int)]=EM b zs zs.length)
def Qb (aa:87) (names:z0s)(b:Str->Bool)(n:Str) (k j:Nat):Prop:=∃ru z,aa[k]?=some ru/\ru.1=n/\ru.2[j]?=some z/\z∈names/\Kq b ru.2 j=true
end M11
namespace L2
open PySem M11
def jh (p:Str×Addr):aL×V:=(Sum.inr p.1,.ref p.2)
theorem n8:∀(ps bz:139),((bz++ps).map 84).Nodup->cP ps bz=bz++ps
 | [],bz,_=>by simp [cP]
 | p::r,bz,h=>by
  have n:aT bz p.1=none:=by
   cases e:aT bz p.1 with
   | none=>rfl
   | some v =>
    have hm:=(d_ bz p.1).mp (by rw [e];rfl);rw [bC,bY] at h;exact absurd rfl ((fM.mp h).2.2 p.1 hm p.1 bP)
  show cP r (bx bz p.1 p.2)=_;rw [yC p.2 n,n8 r (bz++[(p.1,p.2)]) (by rw [lK];exact h),lK];rfl
theorem gq:∀(ps:z0f),(ps.map 84).Nodup->∀p∈ps,aT (ps.map jh) (Sum.inr p.1)=some (.ref p.2)
 | q::r,h,p,hp=>by
  rw [bY] at h ⊢;rcases aX.mp hp with z | z
  .rw [z];exact dD rfl
  rw [de,gq r (jo.mp h).2 p z];intro e;have e':q.1=p.1:=mf e;exact(jo.mp h).1 (by rw [e'];exact iw z)
def nQ (ps:z0f):(ps.map jh).map 84=(ps.map 84).map Sum.inr:=by
 rw [fj,fj];rfl
def sV {K:aU}{H:Hp}{p D:Addr}{zs:z0s}{σ:St}{x:Str}{Qp:143}(hp:aJ K H p (zs.map V.str))(hz:zs.length<=10000)(hD:H D=none)
  (q:∀ts (ps:z0f) H2,aF H H2->H2 D=222->ps.map 84=zs->Paired (λt (p:Str×Addr)=>aQ K H2 t [.str p.1,.ref p.2]) ts ps->(∀p∈ps,H2 p.2=some 142/\H p.2=none/\p.2≠D)->(ps.map (·.2)).Nodup->Qp H2) :
  ∃W:370,(∃m,W 0 m [] (eF [x] [] σ) 237) /\
 ∀i m ys σ' H,W i m ys σ' H->((l_ K p).stop i H/\Qp H)\/((l_ K p).go i H/\∃m',m' < m/\∀x H',(l_ K p).oR i H x H'->eB 0 x σ' H' λσ2 H2=>i3 σ2 H2 λb H3 =>
  if b=true then tT (fQ (gH 0) (fQ (Qs q9) q9)) σ2 H3 323 else W (i+1) m' ys σ2 H3):=by
 refine bN (xs:=zs.map V.str) (λi ys σ2 H2=>∃(ts:z0p)(ps:z0f),ys=155/\ts.length=i/\ps.map 84=zs.take i/\Paired (λt (p:Str×Addr)=>aQ K H2 t [.str p.1,.ref p.2]) ts ps /\
   (∀p∈ps,H2 p.2=some 142/\H p.2=none/\p.2≠D)/\(ps.map (·.2)).Nodup/\(∃y0,σ2=[y0])/\449)
  ⟨[],[],rfl,rfl,rfl,.nil,by simp,by simp,⟨none,rfl⟩,ag hD _,ae⟩ (λi ys σ2 H2 _ h=>?_) (λi x ys σ2 H2 ex h=>?_) (λys σ2 H2 h=>?_)
 .obtain⟨_,_,_,_,_,_,_,_,_,sm,_⟩:=h;exact sm.seq hp
 .obtain⟨ts,ps,rfl,ht,hm,xu,hl,hn,⟨y0,rfl⟩,sm,hd⟩:=h;rw [aS] at ex;obtain⟨z,ez,rfl⟩:=bQ.mp ex;have li:=(bw.mp ez).1;refine goN (BA ?_);refine⟨_,rfl,qi,λl rY=>⟨kR,λt ji=>?_⟩⟩;have Ny:l≠D:=(ay hd rY).symm;have nt:t≠l:=λe=>by rw [e,ae] at ji;cases ji
  have RM:H2 t=none:=by rw [ai nt] at ji;exact ji
  have ntD:t≠D:=(ay hd RM).symm;have wu:aF H2 (upd (upd H2 l 142) t (.tup [.str z,.ref l])):=(ag rY _).trans (ag ji _);have iQ:=wu _ _ hd;have el:upd (upd H2 l 142) t (.tup [.str z,.ref l]) l=some 142:=by rw [ai nt.symm,ae]
  have et:aQ K (upd (upd H2 l 142) t (.tup [.str z,.ref l])) t [.str z,.ref l]:=aQ.of ae;generalize upd (upd H2 l 142) t (.tup [.str z,.ref l])=H4 at wu iQ el et;refine⟨iQ,220,ts++[t],ps++[(z,l)],by rw [bC];rfl,by rw [bH,ht];rfl,by rw [bC,hm,d7,ez];rfl,?_,?_,?_,⟨_,rfl⟩,?_,ae⟩
  .exact fN (Paired.iq xu λt' h' z=>bT iQ (wu.tup z)) (bT iQ et)
  .intro p' lX;rcases cD.mp lX with h | h
   .obtain⟨a1,a2,a3⟩:=hl p' h;exact⟨by rw [ai a3];exact wu _ _ a1,a2,a3⟩
   rw [bA.mp h];exact⟨by rw [ai Ny];exact el,sm.free rY,Ny⟩
  .rw [bC];refine fM.mpr ⟨hn,by simp,λa ha b hb e=>?_⟩;rw [oI,bA] at hb;obtain⟨p',lX,rfl⟩:=bD.mp ha;have:=(hl p' lX).1;rw [e,hb] at this;rw [show H2 l=none from rY] at this;cases this
  intro b o hb;rw [450];exact wu _ _ (sm b o hb)
 obtain⟨ts,ps,rfl,ht,hm,xu,hl,hn,_,sm,hd⟩:=h;rw [aA,cE] at hm;exact q ts ps H2 sm hd hm xu hl hn
def zx {K:aU}{H:Hp}{p D d:Addr}{zs:z0s}{kvs:139}{σ:St}{js:z0i}{Qp:143}(hσ:eF ["place","part"] js σ=[none,none,a7 d])(hp:aQ K H p (zs.map V.str))(hz:zs.length<=1000)
  (hd:H d=184)(hD:H D=none)(q:∀H2,aF H H2->H2 D=some (.lst ((EM (λz=>(aT kvs 153).isSome) zs zs.length).map V.int))->Qp H2) :
  ∃W:370,(∃m,W 0 m [] (eF ["place","part"] js σ) 237) /\
 ∀i m ys σ' H,W i m ys σ' H->((tG K p).stop i H/\Qp H)\/((tG K p).go i H/\∃m',m' < m/\∀x H',(tG K p).oR i H x H'->BE K 2 (kJ (eB 0) (kJ (eB 1) Ij)) x σ' H' λσ2 H2=>tB (Cn (gH 1) (gH 2)) σ2 H2 λb H3 =>
  if b=true then gH 0 σ2 H3 323 else W (i+1) m' ys σ2 H3):=by
 refine zz (xs:=zs.map V.str) (λi ys σ2 H2=>ys=(EM (λz=>(aT kvs 153).isSome) zs i).map V.int/\(∃y0 y1,σ2=[y0,y1,a7 d])/\449)
  ⟨rfl,⟨none,none,hσ⟩,ag hD _,ae⟩ (λi ys σ2 H2 _ h=>h.2.2.1.tup hp) (λi x ys σ2 H2 t ex h ht=>?_) (λys σ2 H2 h=>?_)
 .obtain⟨rfl,⟨y0,y1,rfl⟩,sm,hd2⟩:=h;rw [aS] at ex;obtain⟨z,ez,rfl⟩:=bQ.mp ex;have li:=(bw.mp ez).1;have wu:=sm.trans (ag ht (.tup [161,.str z]));have iQ:upd H2 t (.tup [161,.str z]) D=some (.lst ((EM (λz=>(aT kvs 153).isSome) zs i).map V.int)):=by rw [ai (ay hd2 ht)];exact hd2
  have hv:aQ K (upd H2 t (.tup [161,.str z])) t [161,.str z]:=aQ.of ae;generalize upd H2 t (.tup [161,.str z])=H3 at wu iQ hv;have fl:=KW (λz=>(aT kvs 153).isSome) zs i;refine⟨t,_,rfl,hv,rfl,_,_,rfl,_,_,rfl,rfl,?_⟩;refine⟨_,rfl,_,rfl,d,_,rfl,cb.k (k:=136) (wu _ _ hd),_,rfl,?_⟩;refine dj (λc=>?_) (λc=>?_)
  .refine⟨_,rfl,iQ,220,?_,⟨_,_,rfl⟩,?_,ae⟩
   .rw [zc _ zs i ez,ar (λe=>by rw [e] at c;exact absurd c nofun),bC];rfl
   intro b o hb;rw [450];exact wu b o hb
  refine⟨?_,⟨_,_,rfl⟩,wu,iQ⟩;rw [zc _ zs i ez,au,fq];cases hq:(aT kvs 153).isSome with
  | true=>rfl
  | false=>exact absurd (by rw [hq];rfl) c
 obtain⟨rfl,_,sm,hd2⟩:=h;rw [aA] at hd2;exact q H2 sm hd2
open PySem PySem.Spec PyProof.Rows
def gE {X:Cx}{y:Str}{py QG:Pos}{scope:Scope}{wi:TI}{g:TG}(ts:z0s)(js:z0i)(hN:X.N.Nodup)(hiy:X.N[iy]?=some y)(hy:X.env.scope.names.lookup y=some .local)(hc:X.calm=true)(hi:PI X tg iter wi)
  (cp:Lj X scope js)(ja:∀y∈scope.names,y.2≠.cell)(i_:scope.kind=.function)
  (Bw:∀y∈scope.names,y.2=.local->scope.names.lookup y.1=some .local)
  (hg:∀cl C s1 H1 fp,PG (sP X scope cl C s1 H1 (ts++js.map (·.2)) fp) tg g)
  (XE:∀cl C s1 H1 fp,Fh (sP X scope cl C s1 H1 (ts++js.map (·.2)) fp) ifs tif)(he:∀cl C s1 H1 fp,PE (sP X scope cl C s1 H1 (ts++js.map (·.2)) fp) elt te)
  (hsw:swapsWith (.ListComp elt [⟨tg,iter,ifs,0⟩] scope pos) (some (.Name y py)) QG.line X.env=pure true:=by rfl)(hs:∀x,foldedSetIterable iter X.env x=pure x:=by intro _;rfl) :
  PS X (.Assign [.Name y py] (.ListComp elt [⟨tg,iter,ifs,0⟩] scope pos) QG) (Qy (FY wi ts js g tif te) (eB iy)):=by
 intro ah s σ H DD I h;rw [exec_Assign_Name_used _ _ _ _ hsw];refine ao (wpAny_standAt (ao ?_));show wpAny _ _ (do let _ <-comprehension (.ListComp elt [⟨tg,iter,ifs,0⟩] scope pos) scope X.env _ (newList []) false (eval iter X.env) (some (assign (.Name y py) X.env))) _ _ s;obtain⟨cl,mT⟩:=xN (env:=X.env) (scope:=scope) λy hy=>I.ok.has y (.inl (cp.all y hy));refine ao (dw (wpAny_comprehension_free (use:=some (assign (.Name y py) X.env)) (Q:=λ_ s'=>SP X ah DD .next s') rfl hs mT.eq i_ Bw (cM (hi ah s σ H _ I h) λv s1 h1=>cM h1 λUv s2 h2=>?_)) (λ_ s' hq=>ax (ax hq)) λ_ _ e=>e);obtain⟨it,fp,tn,J,H2,e,I2,T,Fm,f2,h2⟩:=h2;subst e;obtain⟨W,⟨m0,w0⟩,turn⟩:=h2 s2.heap.objs.size I2.fresh;have HZ:∀b∈fp,b < s2.heap.objs.size:=λb hb=>by obtain⟨o,e,_⟩:=T.obj _ _ Fm b hb;exact aP e
 refine gh (wpAny_newFunctionEnv ja (by intro y hy;simp at hy) (λh₁ Bv xt=>?_) i_);dsimp only at Bv xt ⊢;generalize Of:s2.heap.push { cls:=.type "list",dict:=none,data:=.seq ([]:z0m).toArray }=G2 at Bv xt ⊢;have EJ:G2.objs.size=s2.heap.objs.size+1:=by rw [<-Of,iW]
 have X3:s2.heap.objs.size≠G2.objs.size:=by rw [EJ];exact aR (jP _)
 have old:∀b o,s2.heap.get? b=85->h₁.get? b=85:=λb o e =>
  xt.extBut b o (by rw [EJ];exact aR (mV (aP e))) (a0 _ (Of ▸ a0 _ e))
 have nZ:h₁.get? s2.heap.objs.size=some { cls:=.type "list",data:=.seq ([]:z0m).toArray 0 }:=xt.extBut _ _ X3 (a0 _ (Of ▸ bB _ rfl));generalize n5:sP X scope cl G2.objs.size s2 H2 (ts++js.map (·.2)) fp=X2;have I4:Inv X2 [] (eF ts js σ) (upd H2 s2.heap.objs.size 142) { s2 with heap:=h₁,toks:=s2.toks+([]:z0d).length }:=by
  rw [<-n5];exact uR I2 f2 HZ i_ ja cp mT (by rw [EJ];exact jP _) rfl rfl old Bv nZ
 have x1:X2.prog=X.prog:=by rw [<-n5];rfl
 have x2:X2.w=X.w:=by rw [<-n5];rfl
 have x3:X2.K=X.K:=by rw [<-n5];rfl
 have x4:X2.calm=true:=by rw [<-n5];exact hc
 have x5:X2.A=X.A:=by rw [<-n5];rfl
 have x6:X2.env=compEnvC scope cl G2.objs.size X.env:=by rw [<-n5];rfl
 have x7:X2.xe=λ_ _=>False:=by rw [<-n5];rfl
 have XH:PG X2 tg g:=by rw [<-n5];exact hg _ _ _ _ _
 have N5:Fh X2 ifs tif:=by rw [<-n5];exact XE _ _ _ _ _
 have KO:PE X2 elt te:=by rw [<-n5];exact he _ _ _ _ _
 have MU:tn 0 h₁:=T.keep _ _ _ Fm λb _ o e=>old b o e;have rb:∀{H':Hp}{kc:z0e},(∀b∈fp,H' b=none)->(∀p∈kc,p.1∉fp)->∀b∈fp,um X2 kc H' b:=λ{H' kc} hn hp b hb=>by
  have o4:=I4.ok;subst n5;exact⟨hn b hb,(o4.PM b hb).1,o4.EN b hb,.inl hb,(o4.PM b hb).2,λp lX=>by
   have EB:p∈([]:z0e)++kc:=lX;rw [oC] at EB;intro z;exact hp p EB (by rw [z];exact hb)⟩
 have fin:∀{s':Shared}{σ':St}{H':Hp},Inv X2 [] σ' H' s'->DD.nx (σ.set iy (some (.ref s2.heap.objs.size))) H' ->
   compPost 154 X.A X.xe (some (assign (.Name y py) X.env)) (λ_ s'=>SP X ah DD .next s') (.ref s2.heap.objs.size) G2.objs.size (.ok .next) s':=λ{s' σ' H'} J' q=>by
  subst n5;obtain⟨m',KG,_⟩:=J'.loc;have I5:Inv X ah σ H' s':=I2.Mo (s':=s') J'.os J'.base J'.bI J'.bare λb hb=>by
   obtain⟨_,f1,_,f3,f4,f5⟩:=f2 b hb;exact⟨f3,f1,f4,f5⟩
  obtain⟨f0,f1,_,f3,f4,f5⟩:=I2.ue (H':=H') (b:=G2.objs.size) (by rw [EJ];exact gp _) J'.free;show wpAny _ _ (assign (.Name y py) X.env (.ref s2.heap.objs.size)) _ _ s';refine wpAny_assign_Name (uz I5 hN hiy (.inl hy) (v:=.ref s2.heap.objs.size) rfl (λNd I6 aW=>?_) (.inr hy));obtain⟨a,sb,ha⟩:=aW;have nCa:G2.objs.size≠a:=by
   rcases ha with ha | ha
   .rw [ha];exact f1
   exact(f4 _ _ ha).symm
  refine⟨m',KG.sameBut sb nCa,λh' HR=>?_⟩;exact⟨_,H',I6.turned (t':=Nd.toks) (λb o hb e=>(HR.2 b hb).trans e) f0 f1 f3 f4 f5,q⟩
 have loop:∀s₃:Shared,s₃={ s2 with heap:=h₁,toks:=s2.toks+([]:z0d).length } ->
   codeAny 154 X.A (.compLoop (.ListComp elt [⟨tg,iter,ifs,0⟩] scope pos) 0 (.ref it) (.ref s2.heap.objs.size) (compEnvC scope cl G2.objs.size X.env))
    (compPost 154 X.A X.xe (some (assign (.Name y py) X.env)) (λ_ s'=>SP X ah DD .next s') (.ref s2.heap.objs.size) G2.objs.size) s₃:=by
  rintro s₃ rfl;subst n5;refine pU (λn s'=>∃i ys σ' H',Inv 459 [] σ' H' s'/\tn i s'.heap/\(∀b∈fp,H' b=none)/\W i n ys σ' H') ?_ m0
   ⟨0,[],_,_,I4,MU,λb hb=>by rw [ai (aR (HZ b hb))];exact(f2 b hb).1,w0⟩
  rintro n s' ⟨i,ys,σ0,H',J',x_,Sw,w'⟩;rcases turn i n ys σ0 H' w' with ⟨stop,q⟩ | ⟨go,m',hm,step⟩
  .refine dw (T.done 459 rfl rfl rfl hc i [] s' _ H' (λ_ _=>False) J' (rb Sw 88) x_ stop) (λr s4 ⟨hr,J4⟩=>?_) λ_ _ z=>z;subst hr;exact fin J4 q
  refine dw (T.item 459 rfl rfl rfl hc i [] s' _ H' (λ_ _=>False) J' (rb Sw 88) x_ go) (λr s4 ⟨u,hr,h4⟩=>?_) λ_ _ z=>z;subst hr;refine dw h4 (λ_ s5 aW=>?_) λ_ _ z=>z;obtain⟨xv,H5,J5,r5,y5,DO,Sv⟩:=aW;have Zq:=J5.pinned (rb Sv 88) (T.obj _ _ DO);have back:∀{s7:Shared}{σ7:St}{H7:Hp},Inv 459 ([]++oY fp s5.heap) σ7 H7 s7->Inv 459 [] σ7 H7 s7/\tn (i+1) s7.heap/\∀b∈fp,H7 b=none:=λ{s7 σ7 H7} J7=>by
   refine⟨J7.j8,T.keep _ _ _ DO λb hb o e=>(J7.pin (b,o) (gi _ (gi _ (gB hb e)))).1,λb hb=>?_⟩;obtain⟨o,e,d⟩:=T.obj _ _ DO b hb;exact(J7.pin (b,o) (gi _ (gi _ (gB hb e)))).2.1
  show wpAny _ _ (assign tg (sP X scope cl G2.objs.size s2 H2 (ts++js.map (·.2)) fp).env u) _ _ s5;refine dw (XH _ s5 _ H5 xv u _ Zq r5 (step xv H5 y5)) (λ_ s6 aW=>?_) λ_ _ z=>z;obtain⟨σ6,H6,J6,q6⟩:=aW;refine dw (N5 _ s6 _ H6 _ J6 q6) (λb s7 aW=>?_) λ_ _ z=>z;obtain⟨H7,J7,q7⟩:=aW;cases b with
  | false =>
   rw [ar bG] at q7 ⊢;obtain⟨J8,VI,Ye⟩:=back J7;exact⟨m',hm,i+1,ys,σ6,H7,J8,VI,Ye,q7⟩
  | true =>
   rw [au rfl] at q7 ⊢;refine dw (KO _ s7 _ H7 _ J7 q7) (λyv s8 aW=>?_) λ_ _ z=>z;obtain⟨y,H8,J8,r8,X4,W6,w8⟩:=aW;refine dw (cN (X:=sP X scope cl G2.objs.size s2 H2 (ts++js.map (·.2)) fp) _ s8 _ H8 (.ref s2.heap.objs.size) [y] (.ref s2.heap.objs.size) [yv] (λv H'=>W (i+1) m' (ys++[y]) σ6 H') J8 rfl (.cons r8 .nil) ⟨s2.heap.objs.size,ys,y,rfl,rfl,X4,W6,w8⟩)
    (λ_ s9 ⟨_,H9,J9,_,w9⟩=>?_) λ_ _ z=>z
   obtain⟨Zr,MX,Ol⟩:=back J9;exact⟨m',hm,i+1,ys++[y],σ6,H9,Zr,MX,Ol,w9⟩
 exact codeAny_compStart_list (loop _ rfl) (T.self _ _ _ _ _ MU (loop _ rfl))
end L2
namespace gM
open PySem L2 M11
section
def w6 {l:z0s}(h:l.Nodup):(l.map (Sum.inr:Str->aL)).Nodup:=List.Pairwise.map _ (λa b UP e=>UP (mf e)) h
structure Fz (K:aU)(ps:z0f)(st:Str->z0g)(H:Hp)(d:Addr):Prop where
 hd:Rd H d 244
 n1:(ps.map 84).Nodup
 n2:(ps.map (·.2)).Nodup
 lst:∀p∈ps,∃ts,H p.2=222/\Paired (λt (e:Nat×Nat)=>aQ K H t [.int (e.1:Int),.int (e.2:Int)]) ts (st p.1)
def Rd.same {a:Addr}{u:HO}(h:Rd H a u)(s:aF H H'):Rd H' a u:=h.elim (λz=>.inl (s _ _ z)) λ⟨o,z⟩=>.inr ⟨o,s _ _ z⟩
theorem Fz.same {ps:z0f}{st:Str->z0g}{d:Addr}(h:Fz K ps st H d)(s:aF H H'):Fz K ps st H' d :=
 ⟨Rd.same h.hd s,h.n1,h.n2,λp hp=>let ⟨ts,a,b⟩:=h.lst p hp;⟨ts,s _ _ a,Paired.iq b λ_ _ z=>s.tup z⟩⟩
def vk (st:Str->z0g)(n:Str)(e:Nat×Nat):Str->z0g:=λz=>if z=n then st z++[e] else st z
def Fz.more {ps:z0f}{st:Str->z0g}{d:Addr}(h:Fz K ps st H d){p:Str×Addr}(hp:p∈ps){ts:z0p}{t:Addr}{e:Nat×Nat}(a:H p.2=222)
  (b:Paired (λt (e:Nat×Nat)=>aQ K H t [.int (e.1:Int),.int (e.2:Int)]) ts (st p.1))(c:aQ K H t [.int (e.1:Int),.int (e.2:Int)]) :
  Fz K ps (vk st p.1 e) (upd H p.2 (.lst (155++[.ref t]))) d:=by
 have nd:d≠p.2:=λz=>by
  rcases h.hd with q | ⟨o,q⟩
  .rw [z,a] at q;cases q
  rw [z,a] at q;cases q
 refine⟨?_,h.n1,h.n2,λp' lX=>?_⟩
 .rcases h.hd with q | ⟨o,q⟩
  .exact .inl (by rw [ai nd];exact q)
  exact .inr ⟨o,by rw [ai nd];exact q⟩
 by_cases z:p'=p
 .rw [z];refine⟨ts++[t],by rw [ae,bC];rfl,?_⟩;have e1:vk st p.1 e p.1=st p.1++[e]:=au rfl;rw [e1];exact fN (Paired.iq b λ_ _ z=>bT a z) (bT a c)
 have n1:p'.1≠p.1:=λq=>z (by
  have w1:=gq ps h.n1 p' lX;have w2:=gq ps h.n1 p hp;rw [q,w2] at w1;injection w1 with w3;injection w3 with w4;exact Prod.ext q w4.symm)
 have n2:p'.2≠p.2:=λq=>by
  obtain⟨i,hi,ei⟩:=jF.mp lX;obtain⟨j,hj,ej⟩:=jF.mp hp;have yZ:i=j:=by
   refine(vo (xs:=ps.map (·.2)) (h₀:=by simpa using hi) (h₁:=by simpa using hj) h.n2).mp ?_;rw [oG,oG,ei,ej];exact q
  subst yZ;exact z (ei.symm.trans ej)
 obtain⟨fE,a',b'⟩:=h.lst p' lX;refine⟨fE,by rw [ai n2];exact a',?_⟩;have e1:vk st p.1 e p'.1=st p'.1:=ar n1;rw [e1];exact Paired.iq b' λ_ _ z=>bT a z
def Cy (K:aU):Sp:=λvs H Q _=>∃(R:Addr)(rs:z0p)(aa:87),vs=[.ref R]/\aJ K H R 180/\bu K H rs aa/\aa.length<=1000/\325 /\
 ∀(d:Addr)(ps:z0f)(st:Str->z0g)(a_:z0h)(H':Hp),H d=none->aF H H'->H' d=some 244->Fz K ps st H' d->ps.map 84=hd aa->(∀p∈ps,H p.2=none)->x9 aa a_->zT aa aa.length a_ ->
  (∀n k j,n∈hd aa->((k,j)∈st n↔Qb aa (hd aa) 447 n k j))->Q (.ref d) H'
def iA:aN ["rules","empty","steps","number","rule","place","part","filled"] ["rules"] (az AD):=185
def G5 (F:iU K "steps_with_like_rows" "steps_with_like_rows" AD f fd)(T:Txt mg)(GE:aM P w K mg base 1 "found_empties" ["rules"] (oU K))(GH:aM P w K mg base 1 "heads_of" ["rules"] (kW K)):bS P w K mg base fC 2 f fd ["rules"] (Cy K):=by
 refine F.ok iA 198 217
 .obtain⟨R,rs,aa,rfl,_⟩:=h;rfl
 obtain⟨R,rs,aa,rfl,hR,cU,bM,h8,q⟩:=h;have hu:=eJ hr;refine⟨_,aj (aG (i:=1) iA.nd rfl (Or.inr rfl) (a8 (dS rfl) rfl T.Dp eY (af (bZ GE hr rfl (af (pv 0) aq)) aq)))
  (aj (aG (i:=2) iA.nd rfl 86 (a8 (dS rfl) rfl T.Dp eY (af
   (bK ["name"] [] rfl (aV (bZ GH hr rfl (af (pv 0) aq))) (bf rfl rfl) nofun rfl nofun
    (λ_ _ _ _ _=>aw (i:=0) (show (["name"]:z0s).Nodup by decide +kernel) rfl 86) (λ_ _ _ _ _=>cQ)
    (λ_ _ _ _ _=>bq (af (pv 0) (af (bc aq) aq)))) aq)))
  (aj (bJ cq rfl (lg rfl T.Jt (af (pv 0) aq)) (dZ rfl (aE (aw (i:=3) iA.nd rfl 86) (aE (aw (i:=4) iA.nd rfl 86) bV)))
   (aj (gE (iy:=7) ["place","part"] [(1,"empty")] iA.nd rfl rfl rfl (nO rfl T.Jt (af (aY bR (pv 4) aC 152) aq)) (bf rfl rfl) nofun rfl nofun
    (λ_ _ _ _ _=>iD (n:=2) K rfl (aE (aw (i:=0) (show (["place","part","empty"]:z0s).Nodup by decide +kernel) rfl 86) (aE (aw (i:=1) (show (["place","part","empty"]:z0s).Nodup by decide +kernel) rfl 86) bV)))
    (λ_ _ _ _ _=>eA (dG (dX hu (pv 1) (pv 2)))) (λ_ _ _ _ _=>pv 0))
   (av (bJ cq rfl (nO rfl T.Jt (af (aY bR (pv 4) aC 152) aq)) (dZ rfl (aE (aw (i:=5) iA.nd rfl 86) (aE (aw (i:=6) iA.nd rfl 86) bV)))
    (av (cS (PW.pt (AQ (dG (mD hu (pv 6) (pv 2))) (wV (bj (Eb hu) (pv 7) (bq (af (bc aq) (af (bc (af (pv 5) aq)) aq))) rfl))))
     (av (df (il hX jG jH cN (dO hu (pv 2) (aY bR (pv 4) aC 152) 152) (af (bq (af (pv 3) (af (pv 5) aq))) aq)))) bo)))))
   )
  (av (bp (pv 2))))),?_⟩
 nofun
 have ll:=a9 cU;refine⟨_,rfl,R,rs,aa,rfl,hR,cU,bM,h8,λD1 DM a_ H1 f1 s1 e1 w1 emp IA=>?_⟩;have LN:Paired (λt (kv:aL×V)=>aQ K H1 t [kV kv.1,kv.2]) DM (a_.map λp=>((Sum.inr p.1:aL),V.int (p.2:Int))):=cH w1 λ_ _ z=>z;refine⟨D1,DM,_,rfl,e1,LN,λe he=>?_⟩;have ekE:cP (a_.map λp=>((Sum.inr p.1:aL),V.int (p.2:Int))) []=a_.map λp=>((Sum.inr p.1:aL),V.int (p.2:Int)):=n8 _ [] (by
  rw [oC,fj];have:=w6 emp.nd;rw [fj] at this;exact this)
 rw [ekE];have Eo:∀z,(aT (a_.map λp=>((Sum.inr p.1:aL),V.int (p.2:Int))) 153).isSome=decide (z∈a_.map 84):=λz=>by
  rw [hV,d_,decide_eq_true_iff,fj];have:(a_.map λp:Str×Nat=>(Sum.inr p.1:aL))=(a_.map 84).map Sum.inr:=by rw [fj];rfl
  show _∈(a_.map λp:Str×Nat=>(Sum.inr p.1:aL))↔_;rw [this];exact cR
 generalize (a_.map λp=>((Sum.inr p.1:aL),V.int (p.2:Int)))=kE at Eo ⊢;have s2:=s1.trans (ag he (.dK kE));have e2:upd H1 e (.dK kE) e=some (.dK kE):=ae;generalize upd H1 e (.dK kE)=H2 at s2 e2;refine⟨_,rfl,R,rs,aa,rfl,s2.seq hR,cU.same s2,bM,λD2 H3 f3 s3 e3=>?_⟩;have NA:=iG (aa.map 84) [];simp only [jD,aA] at NA;refine⟨D2,rfl,⟨_,aJ.of e3⟩,λD3 Sq=>sV (aJ.of e3) ∅ Sq λts ps H4 s4 e4 m4 p4 l4 n4=>?_⟩;have n1:(ps.map 84).Nodup:=by rw [m4];exact pA _ jn
 have Fo:Paired (λt (kv:aL×V)=>aQ K H4 t [kV kv.1,kv.2]) ts (ps.map jh):=cH p4 λ_ _ z=>z;refine⟨D3,ts,_,rfl,e4,Fo,λd uT=>?_⟩;have SJ:cP (ps.map jh) []=ps.map jh:=n8 _ [] (by
  rw [oC,nQ];exact w6 n1)
 rw [SJ];have s5:=((s2.trans s3).trans s4).trans (ag uT 244);have DT:=ag uT 244;have e5:upd H4 d 244 d=some 244:=ae;have SR:=DT _ _ (s4 _ _ (s3 _ _ e2));have xD:H d=none:=((s2.trans s3).trans s4).free uT;have S5:Fz K ps (λ_=>[]) (upd H4 d 244) d:=⟨.inl e5,n1,n4,λp hp=>⟨[],DT _ _ (l4 p hp).1,.nil⟩⟩;have PH:∀p∈ps,H p.2=none:=λp hp=>(s2.trans s3).free (l4 p hp).2.1;generalize upd H4 d 244=H5 at s5 e5 SR S5;clear DT;have eb:(λz=>(aT kE 153).isSome)=λz=>decide (z∈a_.map 84):=funext Eo;refine⟨_,rfl,R,_,rfl,s5.seq hR,?_⟩
 let zO:zP:=λi σ H6=>∃(st:Str->z0g)(y3 y4 y5 y6 y7:149),σ=[a7 R,a7 e,a7 d,y3,y4,y5,y6,y7]/\aF H H6/\H6 e=some (.dK kE)/\H6 d=some 244/\Fz K ps st H6 d /\
  (∀n,(st n).length<=8 * i)/\∀n k j,n∈hd aa->((k,j)∈st n↔k < i/\Qb aa (hd aa) 447 n k j)
 refine jc (xs:=156) zO
  ⟨λ_=>[],none,none,none,none,none,rfl,s5,SR,e5,S5,by simp,by simp⟩ ?_ ?_ ?_
 .rintro i σ H6 _ ⟨st,y3,y4,y5,y6,y7,rfl,s6,_⟩;exact s6.seq hR
 .rintro i x σ H6 t ex ⟨st,y3,y4,y5,y6,y7,rfl,s6,Ox,PZ,S6,l6,c6⟩ ht
  ac_nf0
  rw [aS] at ex;obtain⟨r,er,rfl⟩:=bQ.mp ex;obtain⟨ru,pq,p,v1,v2⟩:=cU.get er;have pb:=bE pq;have Jp:=h8 ru pb;have li:=(bw.mp pq).1;have Jj:=ag ht 397;have LU:aQ K (upd H6 t 397) t [161,.ref r]:=aQ.of ae;have s7:=s6.trans Jj;have Ow:=Jj _ _ Ox;have ed7:=Jj _ _ PZ;have S7:=S6.same Jj;generalize upd H6 t 397=H7 at LU s7 Ow ed7 S7;refine⟨t,_,rfl,LU,rfl,_,_,rfl,_,_,rfl,rfl,?_⟩;refine⟨_,rfl,r,_,_,_,rfl,rfl,s7.tup v1,rfl,p,_,rfl,s7.tup v2,λD5 PB=>zx rfl (s7.tup v2) ∅ Ow PB λH8 O_ e8=>?_⟩;rw [eb] at e8;have s8:=s7.trans O_;have ee8:=O_ _ _ Ow;have ed8:=O_ _ _ ed7;have S8:=S7.same O_;have nD5:∀p∈ps,p.2≠D5:=λp hp z=>by
   obtain⟨fE,a,_⟩:=S7.lst p hp;rw [z,PB] at a;cases a
  obtain⟨pn,uS,z5⟩:∃pn∈ps,pn.1=ru.1:=by
   have:ru.1∈ps.map 84:=by rw [m4];exact(gF _ _ _).mpr (.inr (iw pb))
   obtain⟨pn,a,b⟩:=bD.mp this;exact⟨pn,a,b⟩
  refine⟨_,rfl,r,_,_,_,rfl,rfl,s8.tup v1,rfl,p,_,rfl,s8.tup v2,?_⟩
  let Jd:zP:=λj σ H9=>∃(st:Str->z0g)(y5 y6:149),σ=[a7 R,a7 e,a7 d,some (161),a7 r,y5,y6,a7 D5]/\aF H H9/\H9 e=some (.dK kE)/\H9 d=some 244/\Fz K ps st H9 d /\
   H9 D5=some (.lst ((EM 447 ru.2 ru.2.length).map V.int))/\(∀n,(st n).length<=8 * i+j)/\∀n k j',n∈hd aa->((k,j')∈st n↔(k < i\/(k=i/\j' < j))/\Qb aa (hd aa) 447 n k j')
  refine pj (xs:=ru.2.map V.str) Jd
   ⟨st,_,_,rfl,s8,ee8,ed8,S8,e8,λn=>l6 n,λn k j' hn=>by rw [c6 n k j' hn];simp⟩ ?_ ?_ ?_
  .rintro j σ H9 _ ⟨st,y5,y6,rfl,s9,_⟩;exact s9.tup v2
  .rintro j x σ H9 t2 Iv ⟨st,y5,y6,rfl,s9,Yx,Yz,S9,e9,l9,c9⟩ ji
   ac_nf0
   rw [aS] at Iv;obtain⟨z,ez,rfl⟩:=bQ.mp Iv;have lj:=(bw.mp ez).1;have yz:=ag ji (.tup [.int (j:Int),.str z]);have HN:aQ K (upd H9 t2 (.tup [.int (j:Int),.str z])) t2 [.int (j:Int),.str z]:=aQ.of ae;have ie:=s9.trans yz;have xF:=yz _ _ Yx;have qe:=yz _ _ Yz;have sI:=yz _ _ e9;have Mz:=S9.same yz;generalize upd H9 t2 (.tup [.int (j:Int),.str z])=gU at HN ie xF qe sI Mz;have mem:(aT (ps.map jh) 153).isSome=true↔z∈hd aa:=by rw [d_,nQ,m4];exact cR
   have jJ:¬(z∈hd aa/\Kq 447 ru.2 j=true)->∀n k j',n∈hd aa->((k,j')∈st n↔(k < i\/(k=i/\j' < j+1))/\Qb aa (hd aa) 447 n k j'):=λhn n k j' Xv=>by
    rw [c9 n k j' Xv];constructor
    .rintro⟨h1,h3⟩;exact⟨∅,h3⟩
    rintro⟨h1,h3⟩;refine⟨?_,h3⟩;by_cases c:k=i/\j'=j
    .obtain⟨CN,z',a1,a2,a3,a4,a5⟩:=h3;rw [c.1,pq] at a1;cases a1;rw [c.2] at a5;rw [c.2,ez] at a3;cases a3;exact absurd ⟨a4,a5⟩ hn
    omega
   have l9':∀n,(st n).length<=8 * i+(j+1):=λn=>by have:=l9 n;omega
   refine⟨t2,_,rfl,HN,rfl,_,_,rfl,_,_,rfl,rfl,?_⟩;refine⟨_,rfl,_,rfl,d,_,rfl,cb.k (k:=136) qe,_,rfl,?_⟩;refine dj (λc=>?_) (λc=>?_)
   .have hz:=mem.mp c;refine⟨_,rfl,qi,λl1 R6=>?_⟩;have wL:=ag R6 142;have xG:upd gU l1 142 l1=some 142:=ae;have nl1:l1≠D5:=(ay sI R6).symm;generalize upd gU l1 142=pY at wL xG;refine⟨_,rfl,DF,λl2 rY=>?_⟩;have pM:=ag rY (.lst [.int (j:Int)]);have BR:upd pY l2 (.lst [.int (j:Int)]) l2=some (.lst [.int (j:Int)]):=ae;have Wm:l2≠D5:=(ay (wL _ _ sI) rY).symm;generalize upd pY l2 (.lst [.int (j:Int)])=jL at pM BR;refine⟨kR,λt3 RM=>?_⟩;have T_:=ag RM (.tup [.ref l1,.ref l2]);have SY:aQ K (upd jL t3 (.tup [.ref l1,.ref l2])) t3 [.ref l1,.ref l2]:=aQ.of ae;generalize upd jL t3 (.tup [.ref l1,.ref l2])=tJ at T_ SY;have p_:=(wL.trans pM).trans T_;refine⟨t3,D5,l1,l2,_,[],[(j:Int)],rfl,rfl,SY,aJ.of (p_ _ _ sI),aJ.of (T_ _ _ (pM _ _ xG)),aJ.of (T_ _ _ BR),nl1,Wm,_,rfl,?_⟩;have I_:=Mz.same p_;have Nb:=ie.trans p_;refine dj (λc2=>?_) (λc2=>?_)
    .obtain⟨ZK,an,bn⟩:=I_.lst pn uS;have vn:=gq ps n1 pn uS;rw [z5] at vn;have hg:cb tJ d (.str ru.1) (some (.ref pn.2)):=by
      have:=cb.k (k:=Sum.inr ru.1) (p_ _ _ qe);rw [vn] at this;exact this
     have ltn:=a9 bn;have l9n:=l9 pn.1;refine⟨_,rfl,_,rfl,r,_,_,_,rfl,rfl,Nb.tup v1,rfl,d,_,rfl,hg,.inl ⟨rfl,_,aJ.of an⟩,_,rfl,_,rfl,kR,λt4 Ez=>?_⟩;have AM:=ag Ez (.tup [161,.int (j:Int)]);have Mi:aQ K (upd tJ t4 (.tup [161,.int (j:Int)])) t4 [161,.int (j:Int)]:=aQ.of ae;generalize upd tJ t4 (.tup [161,.int (j:Int)])=OX at AM Mi;have Tw:=I_.same AM;have Lb:=AM _ _ an;have YZ:=Paired.iq bn λt' (e':Nat×Nat)(z:aQ K tJ t' [.int (e'.1:Int),.int (e'.2:Int)])=>AM.tup z;refine⟨pn.2,_,_,rfl,rfl,Lb,220,?_⟩;have Zm:=Tw.more (e:=(i,j)) uS Lb YZ Mi;have ne1:e≠pn.2:=λz=>by have:=AM _ _ (p_ _ _ xF);rw [z,Lb] at this;cases this
     have ne2:d≠pn.2:=λz=>by have:=AM _ _ (p_ _ _ qe);rw [z,Lb] at this;cases this
     refine⟨vk st pn.1 (i,j),_,_,rfl,λb o hb=>?_,by rw [ai ne1];exact AM _ _ (p_ _ _ xF),by rw [ai ne2];exact AM _ _ (p_ _ _ qe),Zm,by rw [ai (nD5 pn uS).symm];exact AM _ _ (p_ _ _ sI),λn=>?_,λn k j' Xv=>?_⟩
     .rw [ai (λz=>by rw [z,PH pn uS] at hb;cases hb)];exact AM _ _ (Nb b o hb)
     .have:=l9 n;unfold vk
      split
      .rw [bH];simp;omega
      omega
     have hit:Qb aa (hd aa) 447 ru.1 i j:=⟨ru,z,pq,rfl,ez,hz,c2⟩;have Mq:=c9 n k j' Xv;unfold vk;by_cases cn:n=pn.1
     .rw [au cn,cD,bA,Mq];constructor
      .rintro(⟨h1,h3⟩ | h1)
       .exact⟨∅,h3⟩
       cases h1;exact⟨∅,by rw [cn,z5];exact hit⟩
      rintro⟨h1,h3⟩;by_cases cc:k=i/\j'=j
      .exact .inr (by rw [cc.1,cc.2])
      exact .inl ⟨∅,h3⟩
     rw [ar cn,Mq];constructor
     .rintro⟨h1,h3⟩;exact⟨∅,h3⟩
     rintro⟨h1,h3⟩;refine⟨?_,h3⟩;by_cases cc:k=i/\j'=j
     .obtain⟨CN,z',a1,a2,_⟩:=h3;rw [cc.1,pq] at a1;cases a1;exact absurd (a2.symm.trans z5.symm) cn
     omega
    exact⟨st,_,_,rfl,Nb,p_ _ _ xF,p_ _ _ qe,I_,p_ _ _ sI,l9',jJ λ⟨_,h⟩=>c2 h⟩
   exact⟨st,_,_,rfl,ie,xF,qe,Mz,sI,l9',jJ λ⟨h,_⟩=>c (mem.mpr h)⟩
  rintro σ H9 ⟨st,y5,y6,rfl,s9,Yx,Yz,S9,e9,l9,c9⟩;rw [aA] at l9 c9;refine⟨st,_,_,_,_,_,rfl,s9,Yx,Yz,S9,λn=>?_,λn k j' hn=>?_⟩
  .have:=l9 n;omega
  rw [c9 n k j' hn];constructor
  .rintro⟨h1 | ⟨h1,h2⟩,h3⟩
   .exact⟨∅,h3⟩
   exact⟨∅,h3⟩
  rintro⟨h1,h3⟩;refine⟨?_,h3⟩;by_cases c:k < i
  .exact .inl c
  refine .inr ⟨∅,?_⟩;obtain⟨CN,z',a1,_,a3,_⟩:=h3;have:k=i:=by omega
  rw [this,pq] at a1;cases a1;exact(bw.mp a3).1
 rintro σ H6 ⟨st,y3,y4,y5,y6,y7,rfl,s6,Ox,PZ,S6,l6,c6⟩;rw [aA,ll] at c6;refine⟨_,rfl,q d ps st a_ H6 xD s6 PZ S6 m4 PH emp IA λn k j hn=>?_⟩;rw [c6 n k j hn];constructor
 .exact λh=>h.2
 intro h;obtain⟨CN,_,a1,_⟩:=id h;exact⟨(bw.mp a1).1,h⟩
end
end gM
namespace L2
open PySem
def cb.r {a:Addr}{kvs:139}{k:aL}(e:Rd H a (.dK kvs)):cb H a (kV k) (aT kvs k):=.inl ⟨kvs,k,e,rfl,rfl⟩
end L2
namespace gM
open PySem L2 M11
section
def Down (aa:87) (names:z0s)(st:Str->z0g)(rk:Str->Nat):Prop:=∀n∈names,∀e∈st n,∃ru z,aa[e.1]?=some ru/\ru.2[e.2]?=some z/\z∈names/\rk z < rk n
def Lo (K:aU):Sp:=λvs H Q _=>∃(R d:Addr)(rs:z0p)(aa:87)(ps:z0f)(st:Str->z0g)(name:Str)(rk:Str->Nat),vs=[.ref R,.ref d,.str name]/\aJ K H R 180/\bu K H rs aa/\aa.length<=1000 /\
 Fz K ps st H d/\ps.length<=1000/\name∈ps.map 84/\Down aa (ps.map 84) st rk/\∀(D:Addr)(H':Hp),H D=none->aF H H'->H' D=some 142->Q (.ref D) H'
structure Lg (K:aU) (names:z0s)(rk:Str->Nat)(name:Str)(H H5:Hp)(D m:Addr)(oq:z0p)(j6:z0f) (ms:z0s)(kvs:139):Prop where
 sm:aF H H5
 hD:H5 D=some (.lst (oq.map V.ref))
 hm:H5 m=184
 keys:kvs.map 84=ms.map Sum.inr
 nd:ms.Nodup
 sub:∀x∈ms,x∈names
 wl:j6.length=ms.length+1
 wv:Paired (λt (e:Str×Addr)=>aQ K H5 t [.str e.1,.ref e.2]) oq j6
 we:∀e∈j6,e.1∈names/\rk e.1<=rk name/\∃xs,H5 e.2=some (.lst xs)/\xs.length<=j6.length/\e.2≠D
def Lg.len {names:z0s}{D m:Addr}{oq:z0p}{j6:z0f}{ms:z0s}{kvs:139}(h:Lg K names rk name H H5 D m oq j6 ms kvs):oq.length=j6.length/\kvs.length=ms.length/\ms.length<=names.length:=by
 refine⟨a9 h.wv,?_,g8 _ _ h.nd h.sub⟩;have:=congrArg List.length h.keys;simpa using this
def Lg.more {D m t c:Addr}{oq:z0p}{j6:z0f}{kvs:139}{xs:List V}(h:Lg K names rk name H H5 D m oq j6 ms kvs)(fD:H D=none)(fm:H m=none)
  (hz:z∈names)(hr:rk z<=rk name)(hn:z∉ms)(s:aF (upd H5 m (.dK (bx kvs 153 (.bl true)))) H9)(ht:aQ K H9 t [.str z,.ref c])(hc:H9 c=some (.lst xs))(hx:xs.length<=j6.length+1)(nc:c≠D) :
  Lg K names rk name H (upd H9 D (.lst (oq.map V.ref++[.ref t]))) D m (oq++[t]) (j6++[(z,c)]) (ms++[z]) (bx kvs 153 (.bl true)):=by
 have Uo:D≠m:=λe=>by have:=h.hD;rw [e,h.hm] at this;cases this
 have Mb:H9 D=some (.lst (oq.map V.ref)):=s _ _ (by rw [ai Uo];exact h.hD);have hm9:H9 m=some (.dK (bx kvs 153 (.bl true))):=s _ _ ae;refine⟨λb o hb=>?_,by rw [ae,bC];rfl,by rw [ai Uo.symm];exact hm9,?_,?_,?_,?_,?_,?_⟩
 .rw [ai (λe=>by rw [e,fD] at hb;cases hb)];exact s _ _ (by rw [ai (λe=>by rw [e,fm] at hb;cases hb)];exact h.sm b o hb)
 .rw [iB (by rw [h.keys];exact λe=>hn (cR.mp e)),h.keys,bC];rfl
 .refine fM.mpr ⟨h.nd,by simp,λa ha b hb e=>?_⟩;rw [bA.mp hb] at e;exact hn (e ▸ ha)
 .intro x W7;rcases cD.mp W7 with e | e
  .exact h.sub x e
  rw [bA.mp e];exact hz
 .rw [bH,bH,h.wl];rfl
 .exact fN (Paired.iq h.wv λ_ _ e=>bT Mb (s.tup (gI h.hm e))) (bT Mb ht)
 intro e he;rw [bH];rcases cD.mp he with e' | e'
 .obtain⟨a,b,ys,c1,d1,n1⟩:=h.we e e';exact⟨a,b,ys,by rw [ai n1];exact s _ _ (by rw [ai (λq=>by rw [q,h.hm] at c1;cases c1)];exact c1),∅,n1⟩
 rw [bA.mp e'];exact⟨hz,hr,xs,by rw [ai nc];exact hc,hx,nc⟩
def nq:aN ["rules","steps","name","ways","met","at","way","number","place","part"] ["rules","steps","name"] (az M5):=185
def Np (F:iU K "way_back" "way_back" M5 f fd)(T:Txt mg):bS P w K mg base fC 1 f fd ["rules","steps","name"] (Lo K):=by
 refine F.ok nq 198 217
 .obtain⟨R,d,rs,aa,ps,st,name,rk,rfl,_⟩:=h;rfl
 obtain⟨R,d,rs,aa,ps,st,name,rk,rfl,hR,cU,bM,S,LW,HW,XO,q⟩:=h;have hu:=eJ hr;refine⟨_,aj (aG (i:=3) nq.nd rfl 86 (bc (af (bq (af (pv 2) (af (bc aq) aq))) aq)))
  (aj (aG (i:=4) nq.nd rfl 86 fV)
  (aj (aG (i:=5) nq.nd rfl 86 aC)
  (aj (kb cq (bj uK (pv 5) (bL bX rfl T.len hU (af (pv 3) aq)) (cv _))
   (aj (aG (i:=6) nq.nd rfl 86 (aY bR (aY bW (pv 3) (pv 5) 152) aC 152))
   (aj (bJ cq rfl (aV (dO hu (pv 1) (aY bR (aY bW (pv 3) (pv 5) 152) aC 152) 152)) (dZ rfl (aE (aw (i:=7) nq.nd rfl 86) (aE (aw (i:=8) nq.nd rfl 86) bV)))
    (aj (aG (i:=9) nq.nd rfl 86 (aY bR (aY bR (aY bW (pv 0) (pv 7) 152) aC 152) (pv 8) 152))
    (aj (cS (bj nP (pv 9) (pv 2) (cv _)) (av ij) bo)
    (av (cS (dG (dX hu (pv 9) (pv 4)))
     (aj (gW hu (pv 4) (pv 9) gQ rfl) (av (df (il hX jG jH cN (pv 3) (af (bq (af (pv 9) (af (cC A5 (pv 6) (bc (af (bq (af (pv 7) (af (pv 8) aq))) aq))) aq))) aq))))) bo)))))
   (av (Nj (i:=5) nq.nd rfl 86 aC NP)))))
  (av (bp (bc aq)))))),?_⟩
 nofun
 have t_:(ps.map 84).length=ps.length:=aA _;refine⟨_,rfl,qi,λl0 UH=>?_⟩;have s1:=ag UH 142;have e1:upd H l0 142 l0=some 142:=ae;generalize upd H l0 142=H1 at s1 e1;refine⟨kR,λt0 UA=>?_⟩;have s2:=ag UA (.tup [.str name,.ref l0]);have e2:aQ K (upd H1 t0 (.tup [.str name,.ref l0])) t0 [.str name,.ref l0]:=aQ.of ae;generalize upd H1 t0 (.tup [.str name,.ref l0])=H2 at s2 e2;refine⟨DF,λD hD=>?_⟩;have s3:=ag hD (.lst [.ref t0]);have e3:upd H2 D (.lst [.ref t0]) D=some (.lst ([t0].map V.ref)):=ae;have Ul:l0≠D:=ay (s2 _ _ e1) hD;generalize upd H2 D (.lst [.ref t0])=H3 at s3 e3;intro m hm;have s4:=ag hm (.dK []);have e4:upd H3 m (.dK []) m=some (.dK []):=ae;generalize upd H3 m (.dK [])=H4 at s4 e4;have fD:H D=none:=(s1.trans s2).free hD;have fm:H m=none:=((s1.trans s2).trans s3).free hm;have W0:Lg K (ps.map 84) rk name H H4 D m [t0] [(name,l0)] [] []:=⟨((s1.trans s2).trans s3).trans s4,s4 _ _ e3,e4,rfl,jn,by simp,rfl,.cons ((s3.trans s4).tup e2) .nil,λe he=>by
  rw [bA.mp he];exact⟨HW,aH _,[],s4 _ _ (s3 _ _ (s2 _ _ e1)),by simp,Ul⟩⟩
 refine⟨λmm σ H5=>∃(oq:z0p)(j6:z0f) (ms:z0s)(kvs:139) (at_:Nat)(y6 y7 y8 y9:149),σ=[a7 R,a7 d,some (.str name),a7 D,a7 m,some (.int (at_:Int)),y6,y7,y8,y9]/\Lg K (ps.map 84) rk name H H5 D m oq j6 ms kvs /\
  at_<=j6.length/\mm=1002 - at_,⟨1002,[t0],[(name,l0)],[],[],0,none,none,none,none,rfl,W0,by simp,rfl⟩,?_⟩
 rintro mm σ H5 ⟨oq,j6,ms,kvs,at_,y6,y7,y8,y9,rfl,W,hat,rfl⟩;obtain⟨lw,lk,lm⟩:=W.len;have aag:=W.wl;refine⟨_,rfl,_,rfl,D,_,rfl,.inl (aJ.of W.hD),_,_,rfl,rfl,_,rfl,?_⟩;refine dj (λc=>?_) (λc=>?_)
 .have c':=dC c;rw [aA,lw] at c';have gR:at_ < j6.length:=by omega
  obtain⟨n,l,en⟩:∃n l,j6[at_]?=some (n,l):=⟨(j6[at_]).1,(j6[at_]).2,dA gR⟩;obtain⟨t1,et1,Uz⟩:=Paired.at_ W.wv at_ (n,l) en;have P5:tq (oq.map V.ref) (at_:Int)=some (.ref t1):=aZ (by rw [aS,et1];rfl);obtain⟨hn,hrn,xs,hl,hxl,Ny⟩:=W.we (n,l) (bE en);dsimp only at hn hrn hl Ny;obtain⟨pn,uS,z5⟩:=bD.mp hn;have vn:=gq ps S.n1 pn uS;rw [z5] at vn;obtain⟨ZK,an,bn⟩:=S.lst pn uS;rw [z5] at bn;refine⟨λσ H5=>∃(oq:z0p)(j6:z0f) (ms:z0s)(kvs:139)(y6 y7 y8 y9:149),σ=[a7 R,a7 d,some (.str name),a7 D,a7 m,some (.int ((at_+1:Nat):Int)),y6,y7,y8,y9]/\Lg K (ps.map 84) rk name H H5 D m oq j6 ms kvs/\at_+1<=j6.length,?_,?_⟩
  .rintro σ H6 ⟨oq,j6,ms,kvs,y6,y7,y8,y9,rfl,W2,h2⟩;exact⟨1002 - (at_+1),∅,oq,j6,ms,kvs,at_+1,_,_,_,_,rfl,W2,h2,rfl⟩
  refine⟨_,rfl,_,rfl,D,_,_,_,rfl,rfl,aJ.of W.hD,P5,t1,_,_,_,rfl,rfl,Uz,rfl,?_⟩;have hg:cb H5 d (.str n) (some (.ref pn.2)):=by
   have:=cb.r (k:=Sum.inr n) (Rd.same S.hd W.sm);rw [vn] at this;exact this
  refine⟨_,rfl,_,rfl,_,rfl,D,_,_,_,rfl,rfl,aJ.of W.hD,P5,t1,_,_,_,rfl,rfl,Uz,rfl,d,_,rfl,hg,pn.2,rfl,⟨_,aJ.of (W.sm _ _ an)⟩,?_⟩
  let zO:zP:=λi σ H6=>∃(oq:z0p)(j6:z0f) (ms:z0s)(kvs:139)(y7 y8 y9:149),σ=[a7 R,a7 d,some (.str name),a7 D,a7 m,some (.int (at_:Int)),a7 l,y7,y8,y9]/\Lg K (ps.map 84) rk name H H6 D m oq j6 ms kvs /\
   at_+1<=j6.length/\∃e∈j6,e.2=l
  refine cO (xs:=ZK.map V.ref) zO ⟨oq,j6,ms,kvs,_,_,_,rfl,W,gR,(n,l),bE en,rfl⟩ ?_ ?_ ?_
  .rintro i σ H6 _ ⟨oq,j6,ms,kvs,y7,y8,y9,rfl,W2,_⟩;exact aJ.of (W2.sm _ _ an)
  .rintro i x σ H6 ex ⟨oq,j6,ms,kvs,y7,y8,y9,rfl,W2,h2,e0,XN,Yy⟩
   ac_nf0
   rw [aS] at ex;obtain⟨ti,eti,rfl⟩:=bQ.mp ex;have lbn:=a9 bn;have lti:=(bw.mp eti).1;obtain⟨⟨k,j⟩,ekj⟩:∃e,(st n)[i]?=some e:=⟨(st n)[i]'∅,dA ∅⟩;obtain⟨ti',SE,hti⟩:=Paired.at_ bn i (k,j) ekj;rw [eti] at SE;cases SE;obtain⟨ru,z,er,ez,hz,hrk⟩:=XO n hn (k,j) (bE ekj);obtain⟨r,PR,p,v1,v2⟩:=Paired.at_ cU k ru er;have atr:tq 180 (k:Int)=some (.ref r):=aZ (by rw [aS,PR];rfl);have Ms:tq (ru.2.map V.str) (j:Int)=some (.str z):=aZ (by rw [aS,ez];rfl);obtain⟨lw2,Uq,lm2⟩:=W2.len;have aaa:=W2.wl;refine⟨ti,_,rfl,W2.sm.tup hti,rfl,_,_,rfl,_,_,rfl,rfl,?_⟩;refine⟨_,rfl,_,rfl,R,_,_,_,rfl,rfl,W2.sm.seq hR,atr,r,_,_,_,rfl,rfl,W2.sm.tup v1,rfl,_,rfl,p,_,_,_,rfl,rfl,W2.sm.tup v2,Ms,?_⟩;refine⟨_,rfl,_,rfl,rfl,_,rfl,?_⟩;have nz:z≠name:=λe=>by rw [e] at hrk;omega
   refine dj (λc=>absurd (dC c) (λe=>nz (by injection e))) (λ_=>?_);have mem:(aT kvs 153).isSome=true↔z∈ms:=by rw [d_,W2.keys];exact cR
   refine⟨_,rfl,_,rfl,m,_,rfl,cb.k (k:=136) W2.hm,_,rfl,?_⟩;refine dj (λc=>?_) (λc=>?_)
   .have nm:z∉ms:=λh=>by rw [mem.mpr h] at c;exact absurd c nofun
    refine⟨_,rfl,_,rfl,m,_,rfl,tK.k (k:=136) W2.hm (bF ∅),?_⟩;obtain⟨_,_,O2,rY,aal,Wm⟩:=W2.we e0 XN;rw [Yy] at rY Wm;have Uo:D≠m:=λe=>by have:=W2.hD;rw [e,W2.hm] at this;cases this
    have nlm:l≠m:=λe=>by rw [e,W2.hm] at rY;cases rY
    have Og:upd H6 m (.dK (bx kvs 153 (.bl true))) D=some (.lst (oq.map V.ref)):=by rw [ai Uo];exact W2.hD
    have hlu:upd H6 m (.dK (bx kvs 153 (.bl true))) l=some (.lst O2):=by rw [ai nlm];exact rY
    refine⟨_,rfl,.inl ⟨rfl,_,aJ.of Og⟩,_,rfl,_,rfl,_,rfl,_,rfl,kR,λt4 Ez=>?_⟩;have ZX:=ag Ez (.tup [.int (k:Int),.int (j:Int)]);generalize upd (upd H6 m (.dK (bx kvs 153 (.bl true)))) t4 (.tup [.int (k:Int),.int (j:Int)])=H7 at ZX;refine⟨DF,λl4 hl4=>?_⟩;have ZW:=ag hl4 (.lst [.ref t4]);have e5':upd H7 l4 (.lst [.ref t4]) l4=some (.lst [.ref t4]):=ae;generalize upd H7 l4 (.lst [.ref t4])=H8 at ZW e5';have VU:=ZX.trans ZW;refine⟨l,l4,O2,[.ref t4],rfl,rfl,VU _ _ hlu,e5',fits (by simp;omega),λc0 Oa=>?_⟩;have ZV:=ag Oa (.lst (O2++[.ref t4]));have e6':upd H8 c0 (.lst (O2++[.ref t4])) c0=some (.lst (O2++[.ref t4])):=ae;have nc0:c0≠D:=(ay (VU _ _ Og) Oa).symm;generalize upd H8 c0 (.lst (O2++[.ref t4]))=H9 at ZV e6';refine⟨kR,λt5 RL=>?_⟩;have VT:=ag RL (.tup [.str z,.ref c0]);have e7':aQ K (upd H9 t5 (.tup [.str z,.ref c0])) t5 [.str z,.ref c0]:=aQ.of ae;generalize upd H9 t5 (.tup [.str z,.ref c0])=gU at VT e7';have sA:=(VU.trans ZV).trans VT;refine⟨D,_,_,rfl,rfl,sA _ _ Og,220,?_⟩;exact⟨oq++[t5],j6++[(z,c0)],ms++[z],_,_,_,_,rfl,W2.more fD fm hz ∅ nm sA e7' (VT _ _ e6') (by rw [bH];simp;omega) nc0,by rw [bH];omega,e0,mX _ XN,Yy⟩
   exact⟨oq,j6,ms,kvs,_,_,_,rfl,W2,h2,e0,XN,Yy⟩
  rintro σ H6 ⟨oq,j6,ms,kvs,y7,y8,y9,rfl,W2,h2,_⟩;exact⟨_,rfl,_,_,rfl,rfl,oq,j6,ms,kvs,_,_,_,_,rfl,W2,h2⟩
 refine⟨qi,λD9 Mb=>q D9 _ (W.sm.free Mb) (W.sm.trans (ag Mb _)) ae⟩
end
end gM
namespace L2
open PySem PySem.Spec PyProof.Rows
section
variable {prog:Program}{w:World}{A:Around}{E:z0b}{s:Shared}
def zL (a b c:Value):argsOk "min" ⟨[a],[("key",b),("default",c)]⟩:=by unfold argsOk;kernel_rfl
def ug (hh:A.handled=none)(hl:s.heap.IsList l #[])(h:∀h' tk,(∀b o,160->h'.get? b=85)->Q dv { s with heap:=h',toks:=tk }) :
  wpAny 182 A (call (.builtin "min") [.ref l] [("key",kf),("default",dv)]) Q E s:=by
 have HW:(toString "min" ++ toString ".loop":String) = "min.loop" := by decide
 refine jS (vB F.plain_min F.entry_min ?_);have core:wpAny 182 A.in1 (Builtin.«min» ⟨[.ref l],[("key",kf),("default",dv)]⟩) (λfin s'=>match fin with
   | .done f=>(match (Except.ok f:Result) with | .ok (.ret v)=>Q v s' | .ok _=>False | .error e=>E e s')
   | .again c'=>c'.quiet=true/\codeAny 182 A c' (λr s'=>match r with | .ok (.ret v)=>Q v s' | .ok _=>False | .error e=>E e s') s') E s:=by
  show wpAny _ A.in1 (Builtin.Builtins.bindParams "min" ["key","default"] 0 ⟨[],[("key",kf),("default",dv)]⟩ >>= _) _ _ s;refine ao (wpAny_of_eq (show Builtin.Builtins.bindParams "min" ["key","default"] 0 ⟨[],[("key",kf),("default",dv)]⟩=pure [some kf,some dv] from rfl) ?_);refine ao (ax ?_);refine ao (mr hl ?_);refine ao (gh ?_);rw [HW];obtain⟨ol,h1,h2⟩:=id hl;generalize hG:s.heap.push { cls:=.type "list_iterator",data:=.fields #[.ref l,.int 0 0] }=G;have k1:∀b o,160->G.get? b=85:=λb o e=>by rw [<-hG];exact a0 _ e
  have hi:G.get? s.heap.objs.size=some { cls:=.type "list_iterator",data:=.fields #[.ref l,.int 0 0] }:=by rw [<-hG];exact bB _ rfl
  refine ax ⟨iL F.plain_min_loop _,jM F.entry_min_loop ?_⟩;rw [lM F.plain_min_loop _];show wpAny _ A.in1 (seqItems? (.ref G.objs.size) >>= _) _ _ _;refine ao (jC (bB _ rfl) rfl ?_);show wpAny _ A.in1 (tryCatch (pyNext 398) _ >>= _) _ _ _;refine ao (wpAny_tryCatch (vK (show A.in1.handled=none from hh) ⟨_,a0 _ hi,rfl,rfl⟩ ⟨ol,a0 _ (k1 _ _ h1),h2⟩ 88 λh' eb=>?_));refine ao (gN (ax ?_));exact h h' _ λb o e=>eb b o (aR (aP e)) (a0 _ (k1 b o e))
 simp only [checkBuiltinCall,F.kind_min];cases Xf:Manifest.signature? "min" with
 | none=>exact ax core
 | some sig =>
  have ha':Bind.checkArgs "min" sig ⟨[.ref l],[("key",kf),("default",dv)]⟩=pure ():=by have:=zL (.ref l) kf dv;simpa only [argsOk,Xf] using this
  simp only [ha'];exact ax core
end
def Qo (K:aU)(t:TA)(td:TE):TE:=λσ H Q=>t σ H λvs H1=>td σ H1 λdv H2=>∃a,vs=[.ref a]/\aJ K H2 a []/\Q dv H2
def JX {X:Cx}{e e2:Expr}{t:TA}(hc:X.calm=true)(hg:Gl X "min")(hm:X.mg "min"=none)(LZ:Gl X "len")(Xx:X.mg "len"=none)(ha:PA X [e] t)(hd:PE X e2 td)
  (he:backTo pos (starEach [e] X.env)=(false,eval e X.env)::backTo pos (starEach [] X.env):=by rfl)(hp:(backTo pos (starEach [e] X.env)).any 84=false:=by rfl) :
  PE X (.Call (.Name "min" p) [e] [⟨some "key",.Name "len" lp,LN⟩,⟨some "default",e2,Fo⟩] pos) (Qo X.K t td):=by
 intro ah s σ H Q I h;refine mW (ir I hg hm boot_min ?_);refine callWith_kw 460 he hp rfl rfl;obtain⟨vs,H1,I1,r1,q1⟩:=aW;refine kws_cons (ir I1 LZ Xx hU (kws_cons (cM (hd ah s1 σ H1 _ I1 q1) λu2 s2 aW=>?_)));obtain⟨dv,H2,I2,r2,a,ev,hs,q⟩:=aW;refine kws_nil ?_;subst ev;obtain⟨u,rfl,rx⟩:=vals1 r1;cases (show u=Value.ref a from rx);obtain⟨aK,rv,pl,hz⟩:=I2.list hs;cases rv;exact ug (I2.ok.hd hc) pl.isList λh' tk kk=>⟨dv,H2,I2.kept (t':=tk) kk,r2,q⟩
open PySem
def E2 {K:aU}{H:Hp}{p D:Addr}{ls:z0p}{σ:St}{x:Str}{Qp:143}(hp:H p=some (.lst (ls.map V.ref)))(hl:∀l∈ls,H l=some 142)(hD:H D=none)(q:∀H2,aF H H2->H2 D=some 142->Qp H2) :
  ∃W:370,(∃m,W 0 m [] (eF [x] [] σ) 237) /\
 ∀i m ys σ' H,W i m ys σ' H->((l_ K p).stop i H/\Qp H)\/((l_ K p).go i H/\∃m',m' < m/\∀x H',(l_ K p).oR i H x H'->eB 0 x σ' H' λσ2 H2=>gH 0 σ2 H2 λx H'=>∃k,I9 K x H' k/\(λb H3 =>
  if b=true then gH 0 σ2 H3 323 else W (i+1) m' ys σ2 H3) k H'):=by
 refine bN (tif:=λσ H Q=>gH 0 σ H λx H'=>∃k,I9 K x H' k/\Q k H') (xs:=ls.map V.ref) (λi ys σ2 H5=>ys=[]/\(∃y0,σ2=[y0])/\aF H H5/\H5 D=some 142) ⟨rfl,⟨none,rfl⟩,ag hD _,ae⟩ (λi ys σ2 H5 _ h=>aJ.of (h.2.2.1 _ _ hp)) (λi x ys σ2 H5 ex h=>?_) (λys σ2 H5 h=>?_)
 .obtain⟨rfl,⟨y0,rfl⟩,s5,e5⟩:=h;rw [aS] at ex;obtain⟨l,el,rfl⟩:=bQ.mp ex;refine goN ?_;refine⟨_,rfl,false,.inl ⟨[],aJ.of (s5 _ _ (hl l (bE el))),rfl⟩,?_⟩;refine iP ?_;exact⟨rfl,⟨_,rfl⟩,s5,e5⟩
 obtain⟨rfl,_,s5,e5⟩:=h;exact q H5 s5 e5
end L2
namespace gM
open PySem L2 M11
section
def Jb (aa:87)(rk:Str->Nat):Prop:=∀a_,x9 aa a_->zT aa aa.length a_->∀n k j,Qb aa (hd aa) 447 n k j->∀ru z,aa[k]?=some ru->ru.2[j]?=some z->rk z < rk n
def F5 (K:aU):Sp:=λvs H Q _=>∃(R:Addr)(rs:z0p)(aa:87)(rk:Str->Nat),vs=[.ref R]/\aJ K H R 180/\bu K H rs aa/\aa.length<=1000/\325/\Jb aa rk /\
 ∀(D:Addr)(H':Hp),H D=none->aF H H'->H' D=some 142->Q (.ref D) H'
def Az:aN ["rules","steps","loops"] ["rules"] (az Gd):=185
def Kc (F:iU K "find_loop" "find_loop" Gd f fd)(T:Txt mg)(GS:aM P w K mg base 2 "steps_with_like_rows" ["rules"] (Cy K))(GW:aM P w K mg base 1 "way_back" ["rules","steps","name"] (Lo K)):bS P w K mg base fC 3 f fd ["rules"] (F5 K):=by
 refine F.ok Az 198 217
 .obtain⟨R,rs,aa,rk,rfl,_⟩:=h;rfl
 obtain⟨R,rs,aa,rk,rfl,hR,cU,bM,h8,hnl,q⟩:=h;refine⟨_,aj (aG (i:=1) Az.nd rfl (Or.inr rfl) (bZ GS hr rfl (af (pv 0) aq)))
  (aj (gE (iy:=2) ["name"] [(0,"rules"),(1,"steps")] Az.nd rfl rfl rfl (CY (pv 1)) (bf rfl rfl) nofun rfl nofun
   (λ_ _ _ _ _=>aw (i:=0) (show (["name","rules","steps"]:z0s).Nodup by decide +kernel) rfl 86) (λ_ _ _ _ _=>cQ)
   (λ_ _ _ _ _=>bZ (GW.mono (by decide:1<=2)) hr rfl (af (pv 1) (af (pv 2) (af (pv 0) aq)))))
  (av (bp (JX rfl rfl T.min rfl T.len (af (bK ["loop"] [] rfl (aV (pv 2)) (bf rfl rfl) nofun rfl nofun
   (λ_ _ _ _ _=>aw (i:=0) (show (["loop"]:z0s).Nodup by decide +kernel) rfl 86) (λ_ _ _ _ _=>eA (DX K (pv 0) (λ_=>rfl))) (λ_ _ _ _ _=>pv 0)) aq) (bc aq))))),?_⟩
 nofun
 refine⟨_,rfl,R,rs,aa,rfl,hR,cU,bM,h8,λd ps st a_ H1 fd1 s1 e1 S1 m1 PH emp IA hits=>?_⟩;have lps:ps.length<=1000:=by
  have h1:=congrArg List.length m1;have h2:=iG (aa.map 84) [];simp only [jD,aA] at h2;rw [aA] at h1;have h3:(hd aa).length=(xM [] (aa.map 84)).length:=rfl;omega
 have XO:Down aa (ps.map 84) st rk:=λn hn e he=>by
  rw [m1] at hn ⊢;have hit:=(hits n e.1 e.2 hn).mp he;obtain⟨ru,z,er,_,ez,hz,_⟩:=id hit;exact⟨ru,z,er,ez,hz,hnl a_ emp IA n e.1 e.2 hit ru z er ez⟩
 refine⟨_,rfl,d,_,rfl,e1,λo D hD=>?_⟩;have Wh:∀p∈ps,p.2≠d:=λp hp z=>by
  obtain⟨ts,a,_⟩:=S1.lst p hp;rw [z,e1] at a;cases a
 have s2:aF H (upd H1 d (.g9 o 244)):=λb u hb=>by
  rw [ai (λz=>by rw [z,fd1] at hb;cases hb)];exact s1 b u hb
 have S2:Fz K ps st (upd H1 d (.g9 o 244)) d:=⟨.inr ⟨o,ae⟩,S1.n1,S1.n2,λp hp=>by
  obtain⟨ts,a,b⟩:=S1.lst p hp;exact⟨ts,by rw [ai (Wh p hp)];exact a,Paired.iq b λ_ _ z=>gI e1 z⟩⟩
 have e2:upd H1 d (.g9 o 244) d=some (.g9 o 244):=ae;generalize upd H1 d (.g9 o 244)=H2 at hD s2 S2 e2 ⊢;refine sW (λi ys σ2 H3=>∃ls:z0p,ys=ls.map V.ref/\ls.length=i/\(∀l∈ls,H3 l=some 142/\l≠D)/\(∃y0,σ2=[y0,a7 R,a7 d])/\aF H2 H3/\H3 D=some (.lst ys))
  ⟨[],rfl,rfl,by simp,⟨none,rfl⟩,ag hD _,ae⟩ (λi ys σ2 H3 _ h=>?_) (λi kv ys σ2 H3 ex h=>?_) (λys σ2 H3 h=>?_)
 .obtain⟨_,_,_,_,_,sm,_⟩:=h;exact sm _ _ e2
 .obtain⟨ls,rfl,hls,hl,⟨y0,rfl⟩,sm,iQ⟩:=h;rw [aS] at ex;obtain⟨p,ep,rfl⟩:=bQ.mp ex;have hp:=bE ep;have li:=(bw.mp ep).1;refine goN (BA ?_);have s3:=s2.trans sm;refine⟨_,rfl,_,rfl,_,rfl,R,d,rs,aa,ps,st,p.1,rk,rfl,s3.seq hR,cU.same s3,bM,S2.same sm,lps,iw hp,XO,λD4 H4 f4 s4 e4=>?_⟩;have Fv:=s4 _ _ iQ;have nD4:D4≠D:=λz=>by rw [z,iQ] at f4;cases f4
  refine⟨Fv,220,ls++[D4],by rw [bC];rfl,by rw [bH,hls];rfl,λl Pw=>?_,⟨_,rfl⟩,λb u hb=>?_,ae⟩
  .rcases cD.mp Pw with h | h
   .obtain⟨a1,a2⟩:=hl l h;exact⟨by rw [ai a2];exact s4 _ _ a1,a2⟩
   rw [bA.mp h];exact⟨by rw [ai nD4];exact e4,nD4⟩
  rw [450];exact s4 _ _ (sm b u hb)
 obtain⟨ls,rfl,hls,hl,_,sm,iQ⟩:=h;have s3:=s2.trans sm;refine⟨_,rfl,D,rfl,⟨_,aJ.of iQ⟩,λD5 PB=>?_⟩;refine E2 iQ (λl Pw=>(hl l Pw).1) PB λH5 s5 e5=>?_;refine⟨qi,λD6 X6=>⟨D5,rfl,aJ.of (ag X6 _ _ _ e5),?_⟩⟩;exact q D6 _ ((s3.trans s5).free X6) ((s3.trans s5).trans (ag X6 _)) ae
end
end gM
namespace L2
open PySem
def Ci {K:aU}{T:Addr}{a:Addr}{xs:List V}(s:eZ T H H')(t:Tab T pos qu H)(h:aQ K H a xs):aQ K H' a xs:=by
 obtain⟨ps,b,_⟩:=t;rcases h with (h | ⟨u,h⟩) | h
 .exact .inl (.inl (s _ _ (λz=>by rw [z,b] at h;cases h) h))
 .exact .inl (.inr ⟨u,s _ _ (λz=>by rw [z,b] at h;cases h) h⟩)
 exact .inr h
def CL {K:aU}{T:Addr}{a:Addr}{xs:List V}(s:eZ T H H')(t:Tab T pos qu H)(h:aJ K H a xs):aJ K H' a xs:=by
 obtain⟨ps,b,_⟩:=t;rcases h with (h | ⟨u,h⟩) | h
 .exact .inl (.inl (s _ _ (λz=>by rw [z,b] at h;cases h) h))
 .exact .inl (.inr ⟨u,s _ _ (λz=>by rw [z,b] at h;cases h) h⟩)
 exact .inr h
def Cm {T T':Addr}(s:eZ T H H')(t:Tab T pos qu H)(h:Tab T' pos' JU H)(n:T'≠T):Tab T' pos' JU H':=by
 obtain⟨ps,b,_⟩:=t;obtain⟨V4,a,o,c⟩:=h;refine⟨V4,s _ _ n a,o,c.imp id ?_⟩;rintro⟨c',e,g⟩;exact⟨c',e,s _ _ (λz=>by rw [z,b] at g;cases g) g⟩
def sR {K:aU}{H:Hp}{p D:Addr}{zs:z0s}{σ:St}{js:z0i}{cs:List (149)}{tif:TT}{te:TE}{Qp:143}(hσ:eF ["name"] js σ=none::cs)(hp:aJ K H p (zs.map V.str))(hD:H D=none)
  (ht:∀z∈zs,∀H2 Q,aF H H2->Q false H2->tif (some (.str z)::cs) H2 Q)(q:∀H2,aF H H2->H2 D=some 142->Qp H2) :
  ∃W:370,(∃m,W 0 m [] (eF ["name"] js σ) 237) /\
 ∀i m ys σ' H,W i m ys σ' H->((l_ K p).stop i H/\Qp H)\/((l_ K p).go i H/\∃m',m' < m/\∀x H',(l_ K p).oR i H x H'->eB 0 x σ' H' λσ2 H2=>tif σ2 H2 λb H3 =>
  if b=true then te σ2 H3 323 else W (i+1) m' ys σ2 H3):=by
 refine bN (xs:=zs.map V.str) (λi ys σ2 H5=>ys=[]/\(∃y0,σ2=y0::cs)/\aF H H5/\H5 D=some 142) ⟨rfl,⟨none,hσ⟩,ag hD _,ae⟩ (λi ys σ2 H5 _ h=>h.2.2.1.seq hp) (λi x ys σ2 H5 ex h=>?_) (λys σ2 H5 h=>?_)
 .obtain⟨rfl,⟨y0,rfl⟩,s5,e5⟩:=h;rw [aS] at ex;obtain⟨z,ez,rfl⟩:=bQ.mp ex;refine goN ?_;refine ht z (bE ez) H5 _ s5 ?_;refine iP ?_;exact⟨rfl,⟨_,rfl⟩,s5,e5⟩
 obtain⟨rfl,_,s5,e5⟩:=h;exact q H5 s5 e5
end L2
namespace gM
open PySem L2 M11
section
structure Good (aa:87)(rk:Str->Nat)(b:Str->Int):Prop where
 least:∀g,dM M11.bl aa (zY aa) g->gY M11.bl aa g->∀h∈hd aa,∃n,g h=some n/\n<=60
 met:∀qo ms,aa[0]?=some qo->qo.1∈ms->Jc aa aa.length ms->∀h∈hd aa,h∈ms
 loop:Jb aa rk
 bnd:zV aa b
 most:∀h∈hd aa,b h<=60
def l8 (T1 T2:Addr)(H H':Hp):Prop:=∀b o,b≠T1->b≠T2->H b=85->H' b=85
def rh (K:aU)(T1 T2:Addr):Sp:=λvs H Q _=>∃(R S:Addr)(rs ss:z0p)(aa str:87)(rk:Str->Nat)(b:Str->Int),vs=[.ref R,.ref S]/\aJ K H R 180/\bu K H rs aa/\aa.length<=1000/\325/\aa≠[] /\
 aJ K H S (ss.map V.ref)/\bu K H ss str/\str.length<=1000/\(∀ru∈str,ru.2.length<=8)/\(str.flatMap (·.2)).Nodup/\Good aa rk b/\Tab T1 rP.2.2.2 zW H/\Tab T2 Bk.2.2.2 LH H/\T1≠T2 /\
 ∀H',l8 T1 T2 H H'->Tab T1 rP.2.2.2 zW H'->Tab T2 Bk.2.2.2 LH H'->Q .dY H'
def gK:aN ["rules","strengths","least","endless","met","unmet","steps","greatest","vast"] ["rules","strengths"] (az wD):=185
def Ec {T1 T2:Addr}{tm:Tok}(F:iU K "refuse_faults" "refuse_faults" wD f fd)(T:Txt mg)(hM:mg "MOST_RULES"=some (.int 60 tm))(GT:aM P w K mg base 1 "refuse_twice" ["strengths"] (Cw K))(GL:aM P w K mg base 3 "least_sizes" ["rules"] (qk K T1))
  (GH:aM P w K mg base 1 "heads_of" ["rules"] (kW K))(GM:aM P w K mg base 1 "names_met" ["rules"] (Ls K))(GF:aM P w K mg base 3 "find_loop" ["rules"] (F5 K))(GG:aM P w K mg base 3 "greatest_empty_sizes" ["rules"] (wq K T2)) :
  bS P w K mg base fC 4 f fd ["rules","strengths"] (rh K T1 T2):=by
 refine F.ok gK 198 217
 .obtain⟨R,S,rs,ss,aa,str,rk,b,rfl,_⟩:=h;rfl
 obtain⟨R,S,rs,ss,aa,str,rk,b,rfl,hR,cU,bM,h8,Fu,hS,Bt,Xd,Xi,Xh,gd,KQ,KP,nT,q⟩:=h;have hu:=eJ hr;refine⟨_,aj (cS (Gr (ig (pv 0) (λ_=>rfl))) (av ij) bo)
  (aj (df (bZ (GT.mono (by decide:1<=3)) hr rfl (af (pv 1) aq)))
  (aj (aG (i:=2) gK.nd rfl (Or.inr rfl) (bZ GL hr rfl (af (pv 0) aq)))
  (aj (gE (iy:=3) ["name"] [(2,"least")] gK.nd rfl rfl rfl (aV (bZ (GH.mono (by decide:1<=3)) hr rfl (af (pv 0) aq))) (bf rfl rfl) nofun rfl nofun
   (λ_ _ _ _ _=>aw (i:=0) (show (["name","least"]:z0s).Nodup by decide +kernel) rfl 86) (λ_ _ _ _ _=>eA (dG (dX hu (pv 0) (pv 1)))) (λ_ _ _ _ _=>pv 0))
  (aj (cS (ig (pv 3) (λ_=>rfl)) (av ij) bo)
  (aj (aG (i:=4) gK.nd rfl (Or.inr rfl) (bZ (GM.mono (by decide:1<=3)) hr rfl (af (pv 0) aq)))
  (aj (gE (iy:=5) ["name"] [(4,"met")] gK.nd rfl rfl rfl (aV (bZ (GH.mono (by decide:1<=3)) hr rfl (af (pv 0) aq))) (bf rfl rfl) nofun rfl nofun
   (λ_ _ _ _ _=>aw (i:=0) (show (["name","met"]:z0s).Nodup by decide +kernel) rfl 86) (λ_ _ _ _ _=>eA (dG (dX hu (pv 0) (pv 1)))) (λ_ _ _ _ _=>pv 0))
  (aj (cS (ig (pv 5) (λ_=>rfl)) (av ij) bo)
  (aj (aG (i:=6) gK.nd rfl 86 (bZ GF hr rfl (af (pv 0) aq)))
  (aj (cS (ig (pv 6) (λ_=>rfl)) (av ij) bo)
  (aj (aG (i:=7) gK.nd rfl (Or.inr rfl) (bZ GG hr rfl (af (pv 0) aq)))
  (aj (gE (iy:=8) ["name"] [(2,"least"),(7,"greatest")] gK.nd rfl rfl rfl (aV (bZ (GH.mono (by decide:1<=3)) hr rfl (af (pv 0) aq))) (bf rfl rfl) nofun rfl nofun
   (λ_ _ _ _ _=>aw (i:=0) (show (["name","least","greatest"]:z0s).Nodup by decide +kernel) rfl 86) (λ_ _ _ _ _=>eA (bj yG (bL (E5 rfl) rfl T.max PyProof.Rows.boot_max (af (dO hu (pv 1) (pv 0) 152) (af (GU hu (pv 2) (pv 0) aC ⟨rfl,rfl,rfl,rfl⟩) aq))) (JZ (v:=.int 60) rfl hM ⟨tm,rfl⟩) (cv _))) (λ_ _ _ _ _=>pv 0))
  (av (cS (ig (pv 8) (λ_=>rfl)) (av ij) bo))))))))))))),?_⟩
 nofun
 have ll:=a9 cU;obtain⟨qo,Pq⟩:∃qo,aa[0]?=some qo:=by
  cases aa with
  | nil=>exact absurd rfl Fu
  | cons a r=>exact⟨a,rfl⟩
 have eR:(156).isEmpty=false:=by
  have l0:=(bw.mp Pq).1;cases rs with
  | nil=>simp at ll;omega
  | cons a r=>rfl
 refine⟨_,rfl,true,.inl ⟨_,hR,by rw [eR];rfl⟩,?_⟩;refine iP ?_;refine⟨_,rfl,S,ss,str,rfl,hS,Bt,Xd,Xi,Xh,λH1 s1=>?_⟩;have T5:=KQ.same s1;have t21:=KP.same s1;refine⟨_,rfl,R,rs,aa,rfl,s1.seq hR,cU.same s1,bM,h8,T5,λdl kl ksl gl H2 fl s2 t12 el kkl vl stl sel _=>?_⟩;have Jo:=CL s2 T5 (s1.seq hR);have EA:=(cU.same s1).keep λ_ _ z=>Ci s2 T5 z;have t22:=Cm s2 T5 t21 nT.symm;have hl:=gd.least gl stl sel;have S02:l8 T1 T2 H H2:=λb o n1 _ hb=>s2 b o n1 (s1 b o hb);refine⟨_,rfl,R,rs,aa,rfl,Jo,EA,bM,λD3 H3 f3 s3 e3=>⟨D3,rfl,⟨_,aJ.of e3⟩,λD4 hD4=>sR rfl (aJ.of e3) hD4 (λz hz H' Q' s' hQ=>?_) λH4 s4 e4=>?_⟩⟩
 .obtain⟨n,en,_⟩:=hl z hz;have hg:cb H' dl (.str z) (some (.int n)):=by
   have:=cb.k (k:=136) (s' _ _ (s3 _ _ el));rw [vl,en] at this;exact this
  exact⟨_,rfl,_,rfl,dl,_,rfl,hg,_,rfl,hQ⟩
 refine⟨_,rfl,false,.inl ⟨[],aJ.of e4,rfl⟩,?_⟩;refine iP ?_;have Lw:=s3.trans s4;refine⟨_,rfl,R,rs,aa,qo,rfl,Lw.seq Jo,EA.same Lw,Pq,bM,h8,λdm km ms H5 f5 s5 em kkm DO _ mc5=>?_⟩;have VX:=Lw.trans s5;refine⟨_,rfl,R,rs,aa,rfl,VX.seq Jo,EA.same VX,bM,λD6 H6 f6 s6 e6=>⟨D6,rfl,⟨_,aJ.of e6⟩,λD7 X5=>sR rfl (aJ.of e6) X5 (λz hz H' Q' s' hQ=>?_) λH7 s7 e7=>?_⟩⟩
 .have hm:=gd.met qo ms Pq DO mc5 z hz;have hv:(aT km 153).isSome=true:=by rw [d_,kkm];exact cR.mpr hm
  refine⟨_,rfl,_,rfl,dm,_,rfl,cb.k (k:=136) (s' _ _ (s6 _ _ em)),_,rfl,?_⟩;rw [hv];exact hQ
 refine⟨_,rfl,false,.inl ⟨[],aJ.of e7,rfl⟩,?_⟩;refine iP ?_;have VW:=(VX.trans s6).trans s7;refine⟨_,rfl,R,rs,aa,rk,rfl,VW.seq Jo,EA.same VW,bM,h8,gd.loop,λD8 H8 f8 s8 e8=>?_⟩;refine⟨_,rfl,false,.inl ⟨[],aJ.of e8,rfl⟩,?_⟩;refine iP ?_;have Lv:=VW.trans s8;have t18:=t12.same Lv;have Qz:=t22.same Lv;refine⟨_,rfl,R,rs,aa,b,rfl,Lv.seq Jo,EA.same Lv,bM,h8,gd.bnd,Qz,λdg kg ksg gg H9 f9 s9 t29 eg kkg vg jg _ _=>?_⟩;have hR9:=CL s9 Qz (Lv.seq Jo);have Xj:=(EA.same Lv).keep λ_ _ z=>Ci s9 Qz z;have VG:=Cm s9 Qz t18 nT;have el8:=Lv _ _ el;have el9:=s9 _ _ (λz=>by obtain⟨ps,a,_⟩:=Qz;rw [<-z,el8] at a;cases a) el8;refine⟨_,rfl,R,rs,aa,rfl,hR9,Xj,bM,λZy gU f10 ie sI=>⟨Zy,rfl,⟨_,aJ.of sI⟩,λD11 X7=>sR rfl (aJ.of sI) X7 (λz hz H' Q' s' hQ=>?_) λpY wL xG=>?_⟩⟩
 .obtain⟨n,en,aam⟩:=hl z hz;have KL:cb H' dl (.str z) (some (.int n)):=by
   have:=cb.k (k:=136) (s' _ _ (ie _ _ el9));rw [vl,en] at this;exact this
  have eg':=s' _ _ (ie _ _ eg);obtain⟨v,hv1,hv2⟩:∃v:Int,((gg z).map V.int).getD (.int 0)=.int v/\v<=60:=by
   cases e:gg z with
   | none=>exact⟨0,rfl,nofun⟩
   | some v=>exact⟨v,rfl,Int.le_trans (jg z v e).2.1 (gd.most z hz)⟩
  have LZ:cb H' dg (.str z) ((gg z).map V.int):=by
   have:=cb.k (k:=136) eg';rw [vg] at this;exact this
  refine⟨_,rfl,_,rfl,dl,_,rfl,KL,_,rfl,dg,rfl,.inl ⟨_,.inl eg'⟩,_,rfl,_,LZ,?_⟩;rw [hv1];refine⟨n,v,rfl,_,_,rfl,rfl,_,rfl,?_⟩;rw [fK (by split <;> omega)]
  exact hQ
 refine⟨_,rfl,false,.inl ⟨[],aJ.of xG,rfl⟩,?_⟩;refine iP ?_;have Na:=ie.trans wL;exact q pY (λc o n1 n2 hc=>Na c o (s9 c o n2 (Lv c o (S02 c o n1 n2 hc)))) (VG.same Na) (t29.same Na)
end
end gM
namespace M11
open PySem L2
abbrev Be:=Str×Str×Nat×Nat
def yb (cK:List Be):List (Str×Str):=cK.map λb=>(b.1,b.2.1)
def n6 (cK:List Be)(n:Str):z0s:=(cK.filter λb=>decide (b.1=n)).map (·.2.1)
def pZ (names:z0s)(cK:List Be)(z:Str):z0s:=if z∈names then n6 cK z else [z]
inductive yg (aa:87) (names:z0s)(b:Str->Bool):List Be->Prop
 | nil:yg aa names b []
 | snoc {cK:List Be}{k j:Nat}{ru:aB}{z w:Str}:yg aa names b cK->aa[k]?=some ru->ru.2[j]?=some z->j < EL b ru.2->w∈pZ names cK z->(ru.1,w)∉yb cK->yg aa names b (cK++[(ru.1,w,k,j)])
def BG {n w:Str}:w∈n6 cK n↔(n,w)∈yb cK:=by
 unfold n6 yb;rw [bD,bD];constructor
 .rintro⟨b,hb,rfl⟩;obtain⟨h1,h2⟩:=d6.mp hb;exact⟨b,h1,by rw [dC h2]⟩
 rintro⟨b,hb,e⟩;cases e;exact⟨b,d6.mpr ⟨hb,cZ rfl⟩,rfl⟩
def Df (cK:List Be)(b:Be)(n:Str):n6 (cK++[b]) n=n6 cK n++(if b.1=n then [b.2.1] else []):=by
 unfold n6;rw [jR,bC];by_cases c:b.1=n
 .rw [au c];simp [c]
 rw [ar c];simp [c]
end M11
namespace gM
open PySem L2 M11
def K6:Stmt->List Stmt
 | .ClassDef _ _ _ b _ _ _ _ _ _ _=>b
 | _=>[]
abbrev Ri (st:Stmt) (i:Nat):Stmt:=(K6 st).getD i (.Pass ⟨0,0,0,0⟩)
abbrev AJ:Stmt:=Ri AI 0
abbrev Gf:Stmt:=Ri AI 1
abbrev AF:Stmt:=Ri AI 2
abbrev rB:Stmt:=Ri Ge 0
section
structure BC (K:aU)(C:Addr):Prop where
 cls:FE K C
 a1:dI K C "empties"
 a2:dI K C "empty"
 a3:dI K C "begins"
 a4:dI K C "firsts"
structure uo (K:aU)(C:Addr)(H0 H:Hp)(a e d bg:Addr)(kE:139)(a_:z0h)(ps:z0f)(cK:List Be):Prop where
 sm:aF H0 H
 ia:∃dx fs,H a=some (.ins C dx fs)/\fs.lookup ("empty":Str)=some (.ref e)/\fs.lookup ("begins":Str)=some (.ref bg)/\fs.lookup ("firsts":Str)=some (.ref d)/\fs.lookup ("find_begins":Str)=none/\fs.lookup ("words_of_part":Str)=none
 he:H e=some (.dK kE)
 hd:H d=some 244
 n1:(ps.map 84).Nodup
 n2:(ps.map (·.2)).Nodup
 dk:∀p∈ps,(∃kvs,H p.2=184/\kvs.map 84=(n6 cK p.1).map Sum.inr)/\H0 p.2=none/\p.2≠e/\p.2≠d
 lb:∃ts,H bg=222/\Paired (λt (b:Be)=>aQ K H t [.str b.1,.str b.2.1,.int (b.2.2.1:Int),.int (b.2.2.2:Int)]) ts cK
 fb:H0 bg=none
 em:∃e1 ts,(∃dx fs,H a=some (.ins C dx fs)/\fs.lookup ("empties":Str)=some (.ref e1))/\H e1=222/\pH K H ts a_/\e1≠bg
def uo.same {a e d bg:Addr}{ps:z0f}(h:uo K C H0 H a e d bg kE a_ ps cK)(s:aF H H'):uo K C H0 H' a e d bg kE a_ ps cK:=by
 refine⟨h.sm.trans s,?_,s _ _ h.he,s _ _ h.hd,h.n1,h.n2,λp hp=>?_,?_,h.fb,?_⟩
 .obtain⟨dx,fs,q,r⟩:=h.ia;exact⟨dx,fs,s _ _ q,r⟩
 .obtain⟨⟨kvs,q,r⟩,t⟩:=h.dk p hp;exact⟨⟨kvs,s _ _ q,r⟩,t⟩
 .obtain⟨ts,q,r⟩:=h.lb;exact⟨ts,s _ _ q,Paired.iq r λ_ _ z=>s.tup z⟩
 obtain⟨e1,ts,⟨dx,fs,q1,q2⟩,q3,q4,q5⟩:=h.em;exact⟨e1,ts,⟨dx,fs,s _ _ q1,q2⟩,s _ _ q3,q4.keep λ_ _ z=>s.tup z,q5⟩
def CA (K:aU)(C:Addr):Sp:=λvs H Q _=>∃(H0:Hp)(a e d bg:Addr)(kE:139)(a_:z0h)(ps:z0f)(cK:List Be)(z:Str),vs=[.ref a,.str z]/\uo K C H0 H a e d bg kE a_ ps cK /\
 ∀(D:Addr)(H':Hp),H D=none->aF H H'->H' D=some (.lst ((pZ (ps.map 84) cK z).map V.str))->Q (.ref D) H'
def JH:aN ["self","part"] ["self","part"] (az AF):=185
def G7 (F:iU K "words_of_part" "BeginTable.words_of_part" AF f fd)(T:Txt mg)(B:BC K C):bS P w K mg base fC 1 f fd ["self","part"] (CA K C):=by
 refine F.ok JH 198 217
 .obtain⟨H0,a,e,d,bg,kE,a_,ps,cK,z,rfl,_⟩:=h;rfl
 obtain⟨H0,a,e,d,bg,kE,a_,ps,cK,z,rfl,S,q⟩:=h;have hu:=eJ hr;obtain⟨dx,fs,ea,f1,f2,f3,f4,f5⟩:=S.ia;refine⟨_,av (bp (ki (dG (mD hu (pv 1) (dH (pv 0) rfl))) (a8 (mP rfl) rfl T.lst fZ (af (dO hu (dH (pv 0) rfl) (pv 1) 152) aq)) (bc (af (pv 1) aq)))),?_⟩;dsimp only [lF];have mem:(aT (ps.map jh) 153).isSome=true↔z∈ps.map 84:=by rw [d_,nQ];exact cR
 refine⟨_,rfl,_,rfl,a,C,dx,fs,_,rfl,ea,B.cls,B.a4,f3,d,_,rfl,cb.k (k:=136) S.hd,_,rfl,?_⟩;refine dj (λc=>?_) (λc=>?_)
 .have hz:=mem.mp c;obtain⟨p,hp,ep⟩:=bD.mp hz;obtain⟨⟨kvs,hk,kk⟩,_⟩:=S.dk p hp;have vn:=gq ps S.n1 p hp;rw [ep] at vn;have hg:cb H d (.str z) (some (.ref p.2)):=by
   have:=cb.k (k:=136) S.hd;rw [vn] at this;exact this
  refine⟨_,rfl,a,C,dx,fs,_,rfl,ea,B.cls,B.a4,f3,_,rfl,d,_,rfl,hg,p.2,kvs,rfl,hk,λD hD=>?_⟩;refine q D _ hD (ag hD _) ?_;rw [ae,keys_str kk,ep];unfold pZ;rw [au hz]
 refine⟨_,rfl,DF,λD hD=>?_⟩;refine q D _ hD (ag hD _) ?_;rw [ae];unfold pZ;rw [ar (λh=>c (mem.mpr h))];rfl
def uo.more {a e d bg t:Addr}{kE kvs:139}{ps:z0f}{p:Str×Addr}{k j:Nat}{ts:z0p}(h:uo K C H0 H a e d bg kE a_ ps cK)(hp:p∈ps)(hk:H p.2=184)(kk:kvs.map 84=(n6 cK p.1).map Sum.inr)
  (hn:(p.1,wd)∉yb cK)(hb:H bg=222)(Pz:Paired (λt (b:Be)=>aQ K H t [.str b.1,.str b.2.1,.int (b.2.2.1:Int),.int (b.2.2.2:Int)]) ts cK)
  (s:aF (upd H p.2 (.dK (bx kvs (Sum.inr wd) (.bl true)))) H2)(ht:aQ K H2 t [.str p.1,.str wd,.int (k:Int),.int (j:Int)]) :
  uo K C H0 (upd H2 bg (.lst (155++[.ref t]))) a e d bg kE a_ ps (cK++[(p.1,wd,k,j)]):=by
 have Um:bg≠p.2:=λz=>by rw [z,hk] at hb;cases hb
 have Od:H2 bg=222:=s _ _ (by rw [ai Um];exact hb);obtain⟨_,fp,Z9,Z_⟩:=h.dk p hp;have up:∀c o,c≠bg->c≠p.2->H c=85->upd H2 bg (.lst (155++[.ref t])) c=85:=λc o n1 n2 q=>by
  rw [ai n1];exact s _ _ (by rw [ai n2];exact q)
 refine⟨λc o hc=>up c o (λz=>by rw [z,h.fb] at hc;cases hc) (λz=>by rw [z,fp] at hc;cases hc) (h.sm c o hc),?_,up _ _ (λz=>by have:=h.he;rw [z,hb] at this;cases this) Z9.symm h.he,up _ _ (λz=>by have:=h.hd;rw [z,hb] at this;cases this) Z_.symm h.hd,h.n1,h.n2,λp' lX=>?_,⟨ts++[t],by rw [ae,bC];rfl,?_⟩,h.fb,?_⟩
 .obtain⟨dx,fs,q,r⟩:=h.ia;exact⟨dx,fs,up _ _ (λz=>by rw [z,hb] at q;cases q) (λz=>by rw [z,hk] at q;cases q) q,r⟩
 .obtain⟨⟨mM,q,r⟩,t'⟩:=h.dk p' lX;refine⟨?_,t'⟩;by_cases z:p'=p
  .rw [z];refine⟨bx kvs (Sum.inr wd) (.bl true),by rw [ai Um.symm];exact s _ _ ae,?_⟩;rw [iB (by rw [kk];exact λq=>hn (BG.mp (cR.mp q))),kk,Df,au rfl,bC];rfl
  have n1:p'.1≠p.1:=λq'=>z (by
   have w1:=gq ps h.n1 p' lX;have w2:=gq ps h.n1 p hp;rw [q',w2] at w1;injection w1 with w3;injection w3 with w4;exact Prod.ext q' w4.symm)
  have n2:p'.2≠p.2:=λq'=>by
   obtain⟨i,hi,ei⟩:=jF.mp lX;obtain⟨j',hj,ej⟩:=jF.mp hp;have yZ:i=j':=by
    refine(vo (xs:=ps.map (·.2)) (h₀:=by simpa using hi) (h₁:=by simpa using hj) h.n2).mp ?_;rw [oG,oG,ei,ej];exact q'
   subst yZ;exact z (ei.symm.trans ej)
  refine⟨mM,up _ _ (λz=>by rw [z,hb] at q;cases q) n2 q,?_⟩;rw [r,Df,ar (λq'=>n1 q'.symm),fq]
 .exact fN (Paired.iq Pz λ_ _ z=>bT Od (s.tup (gI hk z))) (bT Od ht)
 obtain⟨e1,te,⟨dx,fs,q1,q2⟩,q3,q4,q5⟩:=h.em;exact⟨e1,te,⟨dx,fs,up _ _ (λz=>by rw [z,hb] at q1;cases q1) (λz=>by rw [z,hk] at q1;cases q1) q1,q2⟩,up _ _ q5 (λz=>by rw [z,hk] at q3;cases q3) q3,q4.keep λ_ _ z=>bT Od (s.tup (gI hk z)),q5⟩
def Oi (l m:List Be)(n:Str):n6 (l++m) n=n6 l n++n6 m n:=by
 unfold n6;rw [jR,bC]
def Jz (l m:List Be){z x:Str}(h:x∈pZ names l z):x∈pZ names (l++m) z:=by
 unfold pZ at h ⊢
 split
 .rename_i c
  rw [au c] at h;rw [Oi];exact mX _ h
 rename_i c
 rw [ar c] at h;exact h
def Oh (cK:List Be)(n:Str):(n6 cK n).length<=cK.length:=by
 unfold n6;rw [aA];exact iz _ _
def OP {n i:Nat}(h:i < n):(cnt n)[i]?=some (161):=by
 unfold cnt;rw [aS,List.getElem?_range h];rfl
def Ds (n:Nat):(cnt n).length=n:=by unfold cnt;rw [aA,mU]
def F6 (K:aU)(C:Addr):Sp:=λvs H Q _=>∃(H0:Hp)(a e d bg r:Addr)(kE:139)(a_:z0h)(ps:z0f)(cK:List Be) (k:Nat)(ru:aB)(aa:87),vs=[.ref a,.int (k:Int),.ref r]/\uo K C H0 H a e d bg kE a_ ps cK/\zN K H0 r ru/\aa[k]?=some ru/\ru.2.length<=8 /\
 ru.1∈ps.map 84/\(∀xP:List Be,yg aa (ps.map 84) (λz=>(aT kE 153).isSome) xP->xP.length<=900000)/\yg aa (ps.map 84) (λz=>(aT kE 153).isSome) cK /\
 ∀(xP:List Be)(H':Hp),uo K C H0 H' a e d bg kE a_ ps xP->yg aa (ps.map 84) (λz=>(aT kE 153).isSome) xP->cK.length<=xP.length->(xP.length=cK.length->xP=cK/\∀j z,j < EL (λz=>(aT kE 153).isSome) ru.2->ru.2[j]?=some z->∀wd∈pZ (ps.map 84) cK z,(ru.1,wd)∈yb cK)->Q .dY H'
def wB:aN ["self","number","rule","own","place","word"] ["self","number","rule"] (az Gf):=185
def Kd (F:iU K "find_begins" "BeginTable.find_begins" Gf f fd)(T:Txt mg)(B:BC K C)(GP:aM P w K mg base 1 "first_places" ["parts","empty"] (yq K))(FW:bS P w K mg base fC 1 fW fdW ["self","part"] (CA K C))(MW:Meth K C "words_of_part" fW)(BW:Binds K fdW ["self","part"] []) :
  bS P w K mg base fC 2 f fd ["self","number","rule"] (F6 K C):=by
 refine F.ok wB 198 217
 .obtain⟨H0,a,e,d,bg,r,kE,a_,ps,cK,k,ru,aa,rfl,_⟩:=h;rfl
 obtain⟨H0,a,e,d,bg,r,kE,a_,ps,cK,k,ru,aa,rfl,S,⟨p,v1,v2⟩,er,h8,hh,hbd,XU,q⟩:=h;have hu:=eJ hr;refine⟨_,aj (aG (i:=3) wB.nd rfl 86 (dO hu (dH (pv 0) rfl) (aY bR (pv 2) aC 152) 152))
  (av (bJ cq rfl (aV (bZ GP hr rfl (af (aY bR (pv 2) aC 152) (af (dH (pv 0) rfl) aq)))) (aw (i:=4) wB.nd rfl 86)
   (av (bJ cq rfl (aV (CZ (pv 0) B.cls MW FW hr BW .nil rH (af (aY bR (aY bR (pv 2) aC 152) (pv 4) 152) aq))) (aw (i:=5) wB.nd rfl 86)
    (av (cS (dG (dX hu (pv 5) (pv 3)))
     (aj (gW hu (pv 3) (pv 5) gQ rfl)
     (av (df (il hX jG jH cN (dH (pv 0) rfl) (af (bq (af (aY bR (pv 2) aC 152) (af (pv 5) (af (pv 1) (af (pv 4) aq))))) aq))))) bo)))))),?_⟩
 nofun
 obtain⟨pn,uS,z5⟩:=bD.mp hh;have vn:=gq ps S.n1 pn uS;rw [z5] at vn;obtain⟨dx,fs,ea,f1,f2,f3,f4,f5⟩:=S.ia;have hg:cb H d (.str ru.1) (some (.ref pn.2)):=by
  have:=cb.k (k:=Sum.inr ru.1) S.hd;rw [vn] at this;exact this
 refine⟨_,rfl,a,C,dx,fs,_,rfl,ea,B.cls,B.a4,f3,_,rfl,r,_,_,_,rfl,rfl,S.sm.tup v1,rfl,d,_,rfl,hg,?_⟩;refine⟨_,rfl,r,_,_,_,rfl,rfl,S.sm.tup v1,rfl,_,rfl,a,C,dx,fs,_,rfl,ea,B.cls,B.a2,f1,p,e,ru.2,kE,rfl,S.sm.tup v2,∅,S.he,λD5 H5 f6 s5 e5=>⟨D5,rfl,⟨_,aJ.of e5⟩,?_⟩⟩;obtain⟨ts0,hb0,_⟩:=S.lb;have nDb:D5≠bg:=λz=>by rw [z,hb0] at f6;cases f6
 have fle:=Io (λz=>(aT kE 153).isSome) ru.2;generalize hb:(λz=>(aT kE 153).isSome)=b at *;generalize hn:EL b ru.2=n at *
 let zO:zP:=λi σ H6=>∃(dJ:List Be)(y4 y5:149),σ=[a7 a,some (.int (k:Int)),a7 r,some (.ref pn.2),y4,y5]/\uo K C H0 H6 a e d bg kE a_ ps dJ/\H6 D5=some (.lst (cnt n))/\yg aa (ps.map 84) b dJ/\cK.length<=dJ.length /\
  (dJ.length=cK.length->dJ=cK/\∀j z,j < i->ru.2[j]?=some z->∀wd∈pZ (ps.map 84) cK z,(ru.1,wd)∈yb cK)
 refine cO (xs:=cnt n) zO ⟨cK,none,none,rfl,S.same s5,e5,XU,aH _,λ_=>⟨rfl,λj z hj=>by omega⟩⟩ ?_ ?_ ?_
 .rintro i σ H6 _ ⟨dJ,y4,y5,rfl,S2,e6,_⟩;exact aJ.of e6
 .intro i x σ H6 ex X1
  ac_nf0
  obtain⟨dJ,y4,y5,rfl,S2,e6,Y0,l2,c2⟩:=X1;have li:i < n:=by have:=(bw.mp ex).1;rw [Ds] at this;exact this
  rw [OP li] at ex;cases ex;have lz:i < ru.2.length:=by omega
  obtain⟨z,ez⟩:∃z,ru.2[i]?=some z:=⟨ru.2[i],dA lz⟩;have Ms:tq (ru.2.map V.str) (i:Int)=some (.str z):=aZ (by rw [aS,ez];rfl);obtain⟨Va,ub,SV,g1,g2,g3,g4,g5⟩:=S2.ia;refine goN ?_
  ac_nf
  refine⟨_,rfl,a,Va,ub,rfl,SV,g5,_,rfl,r,_,_,_,rfl,rfl,S2.sm.tup v1,rfl,_,rfl,p,_,_,_,rfl,rfl,S2.sm.tup v2,Ms,H0,a,e,d,bg,kE,a_,ps,dJ,z,rfl,S2,λD6 H7 f7 s7 e7=>⟨D6,rfl,⟨_,aJ.of e7⟩,?_⟩⟩;obtain⟨yk,Od,_⟩:=S2.lb;have nD6:D6≠bg:=λz=>by rw [z,Od] at f7;cases f7
  generalize hws:pZ (ps.map 84) dJ z=ws at *
  let Jd:zP:=λm σ H8=>∃(l:List Be)(y5:149),σ=[a7 a,some (.int (k:Int)),a7 r,some (.ref pn.2),some (161),y5]/\uo K C H0 H8 a e d bg kE a_ ps (dJ++l)/\H8 D5=some (.lst (cnt n))/\H8 D6=some (.lst (ws.map V.str))/\yg aa (ps.map 84) b (dJ++l) /\
   (l=[]->∀wd∈ws.take m,(ru.1,wd)∈yb dJ)
  refine cO (xs:=ws.map V.str) Jd ⟨[],_,rfl,by rw [fq];exact S2.same s7,s7 _ _ e6,e7,by rw [fq];exact Y0,λ_ wd h=>by simp at h⟩ ?_ ?_ ?_
  .rintro m σ H8 _ ⟨l,y5,rfl,S3,e8,e9,_⟩;exact aJ.of e9
  .intro m x σ H8 ex X1
   ac_nf0
   obtain⟨l,y5,rfl,S3,e8,e9,Th,c3⟩:=X1;rw [aS] at ex;obtain⟨wd,ew,rfl⟩:=bQ.mp ex;obtain⟨⟨kvs,hk,kk⟩,fp,Z9,Z_⟩:=S3.dk pn uS;obtain⟨ZL,UO,Sl⟩:=S3.lb;have lim:=hbd _ Th;have ltk:kvs.length<=900000:=by
    have h1:=congrArg List.length kk;rw [aA,aA] at h1;have:=Oh (dJ++l) pn.1;omega
   have ltt:=a9 Sl;have mem:(aT kvs (Sum.inr wd)).isSome=true↔(ru.1,wd)∈yb (dJ++l):=by rw [d_,kk,cR,BG,z5]
   refine goN ?_
   ac_nf
   refine⟨_,rfl,_,rfl,pn.2,_,rfl,cb.k (k:=Sum.inr wd) hk,_,rfl,?_⟩;refine dj (λc=>?_) (λc=>?_)
   .have nm:(ru.1,wd)∉yb (dJ++l):=λh=>by rw [mem.mpr h] at c;exact absurd c nofun
    refine⟨_,rfl,_,rfl,_,_,rfl,tK.k (k:=Sum.inr wd) hk (bF ∅),?_⟩;obtain⟨dx3,Jr,YC,k1,k2,k3,k4,k5⟩:=S3.ia;have nap:a≠pn.2:=λz=>by rw [z,hk] at YC;cases YC
    have Um:bg≠pn.2:=λz=>by rw [z,hk] at UO;cases UO
    have Oz:upd H8 pn.2 (.dK (bx kvs (Sum.inr wd) (.bl true))) a=some (.ins C dx3 Jr):=by rw [ai nap];exact YC
    have hb4:upd H8 pn.2 (.dK (bx kvs (Sum.inr wd) (.bl true))) bg=some (.lst (ZL.map V.ref)):=by rw [ai Um];exact UO
    refine⟨_,rfl,a,C,dx3,Jr,_,rfl,Oz,B.cls,B.a3,k2,.inl ⟨rfl,_,aJ.of hb4⟩,_,rfl,r,_,_,_,rfl,rfl,gI hk (S3.sm.tup v1),rfl,_,rfl,_,rfl,_,rfl,Vl,λt4 Ez=>?_⟩;have s4:=ag Ez (.tup [.str ru.1,.str wd,.int (k:Int),161]);have e4:aQ K (upd (upd H8 pn.2 (.dK (bx kvs (Sum.inr wd) (.bl true)))) t4 (.tup [.str ru.1,.str wd,.int (k:Int),161])) t4 [.str ru.1,.str wd,.int (k:Int),161]:=aQ.of ae;generalize upd (upd H8 pn.2 (.dK (bx kvs (Sum.inr wd) (.bl true)))) t4 (.tup [.str ru.1,.str wd,.int (k:Int),161])=H9 at s4 e4;refine⟨bg,_,_,rfl,rfl,s4 _ _ hb4,220,?_⟩;have nm':(pn.1,wd)∉yb (dJ++l):=by rw [z5];exact nm
    have S4:=S3.more (k:=k) (j:=i) uS hk kk nm' UO Sl s4 (by rw [z5];exact e4);have LR:∀D ys,H8 D=some (.lst ys)->D≠bg->upd H9 bg (.lst (ZL.map V.ref++[.ref t4])) D=some (.lst ys):=λD ys hD nb=>by
     rw [ai nb];exact s4 _ _ (by rw [ai (λz=>by rw [z,hk] at hD;cases hD)];exact hD)
    rw [lK,z5] at S4;refine⟨l++[(ru.1,wd,k,i)],_,rfl,S4,LR _ _ e8 nDb,LR _ _ e9 nD6,?_,λh=>by simp at h⟩;rw [<-lK];refine .snoc Th er ez (by rw [hn];exact li) (Jz dJ l (by rw [hws];exact bE ew)) nm
   refine⟨l,_,rfl,S3,e8,e9,Th,λhl x hx=>?_⟩;rw [d7,ew] at hx;rcases cD.mp hx with h | h
   .exact c3 hl x h
   rw [Option.toList_some,bA] at h;subst h;have hm:(ru.1,x)∈yb (dJ++l):=mem.mp (by
    cases hq:(aT kvs (Sum.inr x)).isSome with
    | true=>rfl
    | false=>exact absurd (by rw [hq];rfl) c)
   rw [hl,fq] at hm;exact hm
  rintro σ H8 ⟨l,y5,rfl,S3,e8,e9,Th,c3⟩;rw [aA,cE] at c3;refine⟨dJ++l,_,_,rfl,S3,e8,Th,by rw [bH];omega,λR5=>?_⟩;rw [bH] at R5;have UH:l=[]:=qU.mp ∅;obtain⟨Sm,mT⟩:=c2 ∅;rw [UH,fq];refine⟨Sm,λj z' hj Yl wd Ux=>?_⟩;by_cases cj:j < i
  .exact mT j z' cj Yl wd Ux
  have:j=i:=by omega
  subst this;rw [ez] at Yl;cases Yl;have:=c3 UH wd (by rw [<-hws,Sm];exact Ux);rw [Sm] at this;exact this
 rintro σ H6 ⟨dJ,y4,y5,rfl,S2,e6,Y0,l2,c2⟩;rw [Ds] at c2;exact q dJ H6 S2 Y0 l2 c2
end
end gM
namespace L2
open PySem M11
def zw {K:aU}{H:Hp}{p D:Addr}{zs:z0s}{σ:St}{x:Str}{Qp:143}(hp:aJ K H p (zs.map V.str))(hz:zs.length<=10000)(hD:H D=none)
  (q:∀ts (ps:z0f) H2,aF H H2->H2 D=222->ps.map 84=zs->Paired (λt (p:Str×Addr)=>aQ K H2 t [.str p.1,.ref p.2]) ts ps->(∀p∈ps,H2 p.2=some (.dK [])/\H p.2=none/\p.2≠D)->(ps.map (·.2)).Nodup->Qp H2) :
  ∃W:370,(∃m,W 0 m [] (eF [x] [] σ) 237) /\
 ∀i m ys σ' H,W i m ys σ' H->((l_ K p).stop i H/\Qp H)\/((l_ K p).go i H/\∃m',m' < m/\∀x H',(l_ K p).oR i H x H'->eB 0 x σ' H' λσ2 H2=>i3 σ2 H2 λb H3 =>
  if b=true then tT (fQ (gH 0) (fQ (FX) q9)) σ2 H3 323 else W (i+1) m' ys σ2 H3):=by
 refine bN (xs:=zs.map V.str) (λi ys σ2 H2=>∃(ts:z0p)(ps:z0f),ys=155/\ts.length=i/\ps.map 84=zs.take i/\Paired (λt (p:Str×Addr)=>aQ K H2 t [.str p.1,.ref p.2]) ts ps /\
   (∀p∈ps,H2 p.2=some (.dK [])/\H p.2=none/\p.2≠D)/\(ps.map (·.2)).Nodup/\(∃y0,σ2=[y0])/\449)
  ⟨[],[],rfl,rfl,rfl,.nil,by simp,by simp,⟨none,rfl⟩,ag hD _,ae⟩ (λi ys σ2 H2 _ h=>?_) (λi x ys σ2 H2 ex h=>?_) (λys σ2 H2 h=>?_)
 .obtain⟨_,_,_,_,_,_,_,_,_,sm,_⟩:=h;exact sm.seq hp
 .obtain⟨ts,ps,rfl,ht,hm,xu,hl,hn,⟨y0,rfl⟩,sm,hd⟩:=h;rw [aS] at ex;obtain⟨z,ez,rfl⟩:=bQ.mp ex;have li:=(bw.mp ez).1;refine goN (BA ?_);refine⟨_,rfl,λl rY=>⟨kR,λt ji=>?_⟩⟩;have Ny:l≠D:=(ay hd rY).symm;have nt:t≠l:=λe=>by rw [e,ae] at ji;cases ji
  have RM:H2 t=none:=by rw [ai nt] at ji;exact ji
  have ntD:t≠D:=(ay hd RM).symm;have wu:aF H2 (upd (upd H2 l (.dK [])) t (.tup [.str z,.ref l])):=(ag rY _).trans (ag ji _);have iQ:=wu _ _ hd;have el:upd (upd H2 l (.dK [])) t (.tup [.str z,.ref l]) l=some (.dK []):=by rw [ai nt.symm,ae]
  have et:aQ K (upd (upd H2 l (.dK [])) t (.tup [.str z,.ref l])) t [.str z,.ref l]:=aQ.of ae;generalize upd (upd H2 l (.dK [])) t (.tup [.str z,.ref l])=H4 at wu iQ el et;refine⟨iQ,220,ts++[t],ps++[(z,l)],by rw [bC];rfl,by rw [bH,ht];rfl,by rw [bC,hm,d7,ez];rfl,?_,?_,?_,⟨_,rfl⟩,?_,ae⟩
  .exact fN (Paired.iq xu λt' h' z=>bT iQ (wu.tup z)) (bT iQ et)
  .intro p' lX;rcases cD.mp lX with h | h
   .obtain⟨a1,a2,a3⟩:=hl p' h;exact⟨by rw [ai a3];exact wu _ _ a1,a2,a3⟩
   rw [bA.mp h];exact⟨by rw [ai Ny];exact el,sm.free rY,Ny⟩
  .rw [bC];refine fM.mpr ⟨hn,by simp,λa ha b hb e=>?_⟩;rw [oI,bA] at hb;obtain⟨p',lX,rfl⟩:=bD.mp ha;have:=(hl p' lX).1;rw [e,hb] at this;rw [show H2 l=none from rY] at this;cases this
  intro b o hb;rw [450];exact wu _ _ (sm b o hb)
 obtain⟨ts,ps,rfl,ht,hm,xu,hl,hn,_,sm,hd⟩:=h;rw [aA,cE] at hm;exact q ts ps H2 sm hd hm xu hl hn
def gJ {K:aU}{D a C dx:Addr}{xs:List V}{fs:List (Str×V)}{o:HO}(hD:H D=some (.ins C dx fs))(h:aQ K H a xs):aQ K (upd H D o) a xs:=by
 rcases h with (h | ⟨u,h⟩) | h
 .exact .inl (.inl (by rw [ai (λz=>by rw [z,hD] at h;cases h)];exact h))
 .exact .inl (.inr ⟨u,by rw [ai (λz=>by rw [z,hD] at h;cases h)];exact h⟩)
 exact .inr h
def zu {K:aU}{H:Hp}{R D:Addr}{rs:z0p}{es:z0h}{σ:St}{x1 x2:Str}{Qp:143}(hR:aJ K H R 180)(cU:Paired (λt (e:Str×Nat)=>aQ K H t [.str e.1,.int (e.2:Int)]) rs es)(bM:es.length<=1000)(hD:H D=none)
  (q:∀ts H2,aF H H2->H2 D=222->Paired (λt h=>aQ K H2 t [.str h,.bl true]) ts (es.map 84)->Qp H2) :
  ∃W:370,(∃m,W 0 m [] (eF [x1,x2] [] σ) 237) /\
 ∀i m ys σ' H,W i m ys σ' H->((l_ K R).stop i H/\Qp H)\/((l_ K R).go i H/\∃m',m' < m/\∀x H',(l_ K R).oR i H x H'->BE K 2 (kJ (eB 0) (kJ (eB 1) Ij)) x σ' H' λσ2 H2=>i3 σ2 H2 λb H3 =>
  if b=true then tT (fQ (gH 0) (fQ (tC (.bl true)) q9)) σ2 H3 323 else W (i+1) m' ys σ2 H3):=by
 have ll:=a9 cU;refine bN (xs:=156) (λi ys σ2 H2=>∃ts:z0p,ys=155/\ts.length=i/\Paired (λt h=>aQ K H2 t [.str h,.bl true]) ts ((es.take i).map 84)/\(∃y0 y1,σ2=[y0,y1])/\449)
  ⟨[],rfl,rfl,.nil,⟨none,none,rfl⟩,ag hD _,ae⟩ (λi ys σ2 H2 _ h=>?_) (λi x ys σ2 H2 ex h=>?_) (λys σ2 H2 h=>?_)
 .obtain⟨_,_,_,_,_,sm,_⟩:=h;exact sm.seq hR
 .obtain⟨ts,rfl,ht,hp,⟨y0,y1,rfl⟩,sm,hd⟩:=h;rw [aS] at ex;obtain⟨r,er,rfl⟩:=bQ.mp ex;have lr:=(bw.mp er).1;obtain⟨ru,e1⟩:∃ru,es[i]?=some ru:=⟨es[i]'∅,dA ∅⟩;obtain⟨r',SG,v1⟩:=Paired.at_ cU i ru e1;rw [er] at SG;cases SG;have li:=(bw.mp e1).1;refine⟨r,_,rfl,sm.tup v1,rfl,_,_,rfl,_,_,rfl,rfl,?_⟩;refine BA ?_;refine⟨_,rfl,kR,λt ji=>⟨?_,220,ts++[t],?_,?_,?_,⟨_,_,rfl⟩,?_,ae⟩⟩
  .rw [ai (ay hd ji)];exact hd
  .rw [bC];rfl
  .rw [bH,ht];rfl
  .rw [d7,e1,bC];have iQ:upd H2 t (.tup [.str ru.1,.bl true]) D=222:=by rw [ai (ay hd ji)];exact hd
   exact fN (Paired.iq hp λt' h' z=>bT iQ ((ag ji _).tup z)) (bT iQ (aQ.of ae))
  intro b o hb;rw [450];exact ag ji _ _ _ (sm b o hb)
 obtain⟨ts,rfl,ht,hp,_,sm,hd⟩:=h;rw [aA,ll,cE] at hp;exact q ts H2 sm hd hp
end L2
namespace M11
open PySem L2
def yg.sub {aa:87}{b:Str->Bool}(h:yg aa names b cK):∀q∈yb cK,q.1∈aa.map 84/\q.2∈aa.flatMap (·.2):=by
 induction h with
 | nil=>intro q hq;cases hq
 | @snoc cK k j ru z wd hb er ez _ hw _ ih =>
  intro q hq;unfold yb at hq;rw [bC] at hq;rcases cD.mp hq with hq | hq
  .exact ih q hq
  rw [oI,bA] at hq;rw [hq];have hm:=bE er;refine⟨iw hm,?_⟩;unfold pZ at hw
  split at hw
  .exact(ih (z,wd) (BG.mp hw)).2
  rw [bA.mp hw];exact jO.mpr ⟨ru,hm,bE ez⟩
def yg.nd {aa:87}{b:Str->Bool}(h:yg aa names b cK):(yb cK).Nodup:=by
 induction h with
 | nil=>exact jn
 | @snoc cK k j ru z wd hb er ez _ hw hn ih =>
  unfold yb;rw [bC];refine fM.mpr ⟨ih,by simp,λx hx y hy e=>?_⟩;rw [oI,bA] at hy;rw [e,hy] at hx;exact hn hx
theorem yD (m:z0s):∀l:z0s,(l.flatMap λn=>m.map λwd=>(n,wd)).length=l.length * m.length
 | []=>by simp
 | n::l=>by
  rw [List.flatMap_cons,bH,yD m l,aA,dW,Nat.add_mul];omega
def yg.len {aa:87}{b:Str->Bool}{cK:List Be}(h:yg aa names b cK)(hl:aa.length<=100)(h8:∀ru∈aa,ru.2.length<=8):cK.length<=80000:=by
 have h1:=g8 (yb cK) ((aa.map 84).flatMap λn=>(aa.flatMap (·.2)).map λwd=>(n,wd)) h.nd λq hq=>by
  obtain⟨a,c⟩:=h.sub q hq;exact jO.mpr ⟨q.1,a,bD.mpr ⟨q.2,c,rfl⟩⟩
 rw [yD] at h1;have h2:=gM.jd aa 100 hl h8;unfold yb at h1;rw [aA,aA] at h1;have h3:aa.length * (aa.flatMap (·.2)).length<=100 * 800:=Nat.mul_le_mul hl h2;omega
def Lk (aa:87) (names:z0s)(b:Str->Bool) (n:Nat)(cK:List Be):Prop:=∀k ru,k < n->aa[k]?=some ru->∀j z,j < EL b ru.2->ru.2[j]?=some z->∀wd∈pZ names cK z,(ru.1,wd)∈yb cK
end M11
namespace gM
open PySem L2 M11
section
def CH (K:aU)(C:Addr):Sp:=λvs H Q _=>∃(H0:Hp)(a dx R:Addr)(rs:z0p)(aa:87),vs=[.ref a,.ref R]/\aF H0 H/\H0 a=none/\H a=some (.ins C dx [])/\aJ K H0 R 180/\bu K H0 rs aa/\aa.length<=100/\325 /\
 ∀(e d bg:Addr)(kE:139)(a_:z0h)(ps:z0f)(cK:List Be)(H':Hp),uo K C H0 H' a e d bg kE a_ ps cK->ps.map 84=hd aa->x9 aa a_->zT aa aa.length a_->(∀z,(aT kE 153).isSome=decide (z∈a_.map 84)) ->
  yg aa (hd aa) 447 cK->Lk aa (hd aa) 447 aa.length cK->Q .dY H'
def ny:aN ["self","rules","number","many","rule"] ["self","rules"] (az AJ):=185
def Hg {C fF:Addr}(F:iU K "__init__" "BeginTable.__init__" AJ f fd)(T:Txt mg)(B:BC K C)(GE:aM P w K mg base 1 "found_empties" ["rules"] (oU K))(GH:aM P w K mg base 1 "heads_of" ["rules"] (kW K))
  (FF:bS P w K mg base fC 2 fF fdF ["self","number","rule"] (F6 K C))(MF:Meth K C "find_begins" fF)(BF:Binds K fdF ["self","number","rule"] []):bS P w K mg base fC 3 f fd ["self","rules"] (CH K C):=by
 refine F.ok ny 198 217
 .obtain⟨H0,a,dx,R,rs,aa,rfl,_⟩:=h;rfl
 obtain⟨H0,a,dx,R,rs,aa,rfl,s0,f0,ea,hR,cU,bM,h8,q⟩:=h;refine⟨_,aj (fU (pv 0) (bZ (GE.mono (by decide:1<=2)) hr rfl (af (pv 1) aq)) rfl)
  (aj (fU (pv 0) (a8 (dS rfl) rfl T.Dp eY (af (bK ["name","number"] [] rfl (aV (dH (pv 0) rfl)) (bf rfl rfl) nofun rfl nofun
   (λ_ _ _ _ _=>iD (n:=2) K rfl (aE (aw (i:=0) (show (["name","number"]:z0s).Nodup by decide +kernel) rfl 86) (aE (aw (i:=1) (show (["name","number"]:z0s).Nodup by decide +kernel) rfl 86) bV))) (λ_ _ _ _ _=>cQ)
   (λ_ _ _ _ _=>bq (af (pv 0) (af gQ aq)))) aq)) rfl)
  (aj (fU (pv 0) (bc aq) rfl)
  (aj (fU (pv 0) (a8 (dS rfl) rfl T.Dp eY (af (bK ["name"] [] rfl (aV (bZ (GH.mono (by decide:1<=2)) hr rfl (af (pv 1) aq))) (bf rfl rfl) nofun rfl nofun
   (λ_ _ _ _ _=>aw (i:=0) (show (["name"]:z0s).Nodup by decide +kernel) rfl 86) (λ_ _ _ _ _=>cQ)
   (λ_ _ _ _ _=>bq (af (pv 0) (af fV aq)))) aq)) rfl)
  (aj (aG (i:=3) ny.nd rfl 86 (Gy Ai aC))
  (av (kb cq (bj uK (pv 3) (bL bX rfl T.len hU (af (dH (pv 0) rfl) aq)) (cv _))
   (aj (aG (i:=3) ny.nd rfl 86 (bL bX rfl T.len hU (af (dH (pv 0) rfl) aq)))
   (av (bJ cq rfl (lg rfl T.Jt (af (pv 1) aq)) (dZ rfl (aE (aw (i:=2) ny.nd rfl 86) (aE (aw (i:=4) ny.nd rfl 86) bV)))
    (av (df (CZ (pv 0) B.cls MF FF hr BF .nil rH (af (pv 2) (af (pv 4) aq)))))))))))))),?_⟩
 nofun
 have ll:=a9 cU;refine⟨_,rfl,R,rs,aa,rfl,s0.seq hR,cU.same s0,∅,h8,λD1 DM a_ H1 f1 s1 e1 w1 emp IA=>?_⟩;have YD:=s1 _ _ ea;refine⟨_,rfl,a,C,dx,[],rfl,YD,B.cls,B.a1,(by show 0 < 1000;decide),?_⟩;have e2:upd H1 a (.ins C dx (dF "empties" (.ref D1) [])) D1=some (.lst (DM.map V.ref)):=by rw [ai (λz=>by rw [z,YD] at e1;cases e1)];exact e1
 have w2:pH K (upd H1 a (.ins C dx (dF "empties" (.ref D1) []))) DM a_:=w1.keep λ_ _ z=>gJ YD z;have Nc:aF H0 (upd H1 a (.ins C dx (dF "empties" (.ref D1) []))):=λc o hc=>by rw [ai (λz=>by rw [z,f0] at hc;cases hc)];exact s1 _ _ (s0 c o hc)
 have SV:upd H1 a (.ins C dx (dF "empties" (.ref D1) [])) a=some (.ins C dx (dF "empties" (.ref D1) [])):=ae;generalize upd H1 a (.ins C dx (dF "empties" (.ref D1) []))=H2 at e2 w2 Nc SV;have lets:=emp.len;refine⟨_,rfl,a,C,dx,_,_,rfl,SV,B.cls,B.a1,rfl,D1,rfl,⟨_,aJ.of e2⟩,λD2 ph=>zu (aJ.of e2) w2 ∅ ph λyk H3 s3 e3 p3=>?_⟩;have kp:Paired (λt (kv:aL×V)=>aQ K H3 t [kV kv.1,kv.2]) yk ((a_.map 84).map λh=>((Sum.inr h:aL),V.bl true)):=cH p3 λ_ _ z=>z;refine⟨D2,yk,_,rfl,e3,kp,λe he=>?_⟩;have Eo:∀z,(aT (cP ((a_.map 84).map λh=>((Sum.inr h:aL),V.bl true)) []) 153).isSome=decide (z∈a_.map 84):=λz=>by
  rw [q8];by_cases c:z∈a_.map 84
  .rw [au c,cZ c];rfl
  rw [ar c,fK c];rfl
 generalize cP ((a_.map 84).map λh=>((Sum.inr h:aL),V.bl true)) []=kE at Eo;have nH:=(Nc.trans s3).trans (ag he (.dK kE));have Oz:=ag he (.dK kE) _ _ (s3 _ _ SV);have U7:upd H3 e (.dK kE) e=some (.dK kE):=ae;have Lw:aF H2 (upd H3 e (.dK kE)):=s3.trans (ag he (.dK kE));generalize upd H3 e (.dK kE)=H4 at nH Oz U7 Lw;have YO:=Lw _ _ e2;have wE4:pH K H4 DM a_:=w2.keep λ_ _ z=>Lw.tup z;refine⟨_,rfl,a,C,dx,_,rfl,Oz,B.cls,B.a2,(by show 1 < 1000;decide),?_⟩;generalize XM:dF "empty" (.ref e) (dF "empties" (.ref D1) [])=Me;have SR:upd H4 a (.ins C dx Me) e=some (.dK kE):=by rw [ai (λz=>by rw [z,Oz] at U7;cases U7)];exact U7
 have QN:aF H0 (upd H4 a (.ins C dx Me)):=λc o hc=>by rw [ai (λz=>by rw [z,f0] at hc;cases hc)];exact nH c o hc
 have ea5:upd H4 a (.ins C dx Me) a=some (.ins C dx Me):=ae;have YN:upd H4 a (.ins C dx Me) D1=some (.lst (DM.map V.ref)):=by rw [ai (λz=>by rw [z,Oz] at YO;cases YO)];exact YO
 have ZD:pH K (upd H4 a (.ins C dx Me)) DM a_:=wE4.keep λ_ _ z=>gJ Oz z;generalize upd H4 a (.ins C dx Me)=H5 at SR QN ea5 YN ZD;refine⟨qi,λbg Ob=>?_⟩;have fbg:H0 bg=none:=QN.free Ob;have U8:upd H5 bg 142 bg=some 142:=ae;have JN:=QN.trans (ag Ob 142);have Ox:=ag Ob 142 _ _ SR;have P0:=ag Ob 142 _ _ ea5;have Wx:D1≠bg:=ay YN Ob;have Vb:=ag Ob 142 _ _ YN;have ZC:pH K (upd H5 bg 142) DM a_:=ZD.keep λ_ _ z=>(ag Ob 142).tup z;generalize upd H5 bg 142=H6 at U8 JN Ox P0 Vb ZC;refine⟨_,rfl,a,C,dx,_,rfl,P0,B.cls,B.a3,(by rw [<-XM];show 2 < 1000;decide),?_⟩;generalize hf7:dF "begins" (.ref bg) Me=KS;have Ow:upd H6 a (.ins C dx KS) e=some (.dK kE):=by rw [ai (λz=>by rw [z,P0] at Ox;cases Ox)];exact Ox
 have eb7:upd H6 a (.ins C dx KS) bg=some 142:=by rw [ai (λz=>by rw [z,P0] at U8;cases U8)];exact U8
 have DU:aF H0 (upd H6 a (.ins C dx KS)):=λc o hc=>by rw [ai (λz=>by rw [z,f0] at hc;cases hc)];exact JN c o hc
 have ea7:upd H6 a (.ins C dx KS) a=some (.ins C dx KS):=ae;have dE7:upd H6 a (.ins C dx KS) D1=some (.lst (DM.map V.ref)):=by rw [ai (λz=>by rw [z,P0] at Vb;cases Vb)];exact Vb
 have ZA:pH K (upd H6 a (.ins C dx KS)) DM a_:=ZC.keep λ_ _ z=>gJ P0 z;generalize upd H6 a (.ins C dx KS)=H7 at Ow eb7 DU ea7 dE7 ZA;refine⟨_,rfl,R,rs,aa,rfl,DU.seq hR,cU.same DU,∅,λD4 H8 f8 s8 e8=>?_⟩;have NA:=iG (aa.map 84) [];simp only [jD,aA] at NA;refine⟨D4,rfl,⟨_,aJ.of e8⟩,λD5 PB=>zw (aJ.of e8) ∅ PB λts ps H9 s9 e9 m9 p9 l9 n9=>?_⟩;have n1:(ps.map 84).Nodup:=by rw [m9];exact pA _ jn
 have Fo:Paired (λt (kv:aL×V)=>aQ K H9 t [kV kv.1,kv.2]) ts (ps.map jh):=cH p9 λ_ _ z=>z;refine⟨D5,ts,_,rfl,e9,Fo,λd uT=>?_⟩;have SJ:cP (ps.map jh) []=ps.map jh:=n8 _ [] (by
  rw [oC,nQ];exact w6 n1)
 rw [SJ];have O_:=s8.trans s9;have sd:=ag uT 244;have AL:=O_.trans sd;have qe:upd H9 d 244 d=some 244:=ae;have Nz:∀p∈ps,upd H9 d 244 p.2=some (.dK [])/\p.2≠d:=λp hp=>⟨sd _ _ (l9 p hp).1,λz=>by have:=(l9 p hp).1;rw [z,uT] at this;cases this⟩;generalize upd H9 d 244=gU at AL qe Nz;have BQ:=AL _ _ ea7;have xF:=AL _ _ Ow;have Oy:=AL _ _ eb7;have AN:=DU.trans AL;have OM:=AL _ _ dE7;have Vq:pH K gU DM a_:=ZA.keep λ_ _ z=>AL.tup z;refine⟨_,rfl,a,C,dx,_,rfl,BQ,B.cls,B.a4,(by rw [<-hf7,<-XM];show 3 < 1000;decide),?_⟩;have fp:∀p∈ps,H0 p.2=none/\p.2≠e:=λp hp=>by
  have h8':H8 p.2=none:=(l9 p hp).2.1;refine⟨(DU.trans s8).free h8',λz=>?_⟩;have:=s8 _ _ Ow;rw [<-z,h8'] at this;cases this
 have hfs:∃fs,dF "firsts" (.ref d) KS=fs/\fs.lookup ("empty":Str)=some (.ref e)/\fs.lookup ("begins":Str)=some (.ref bg)/\fs.lookup ("firsts":Str)=some (.ref d)/\fs.lookup ("find_begins":Str)=none/\fs.lookup ("words_of_part":Str)=none/\fs.lookup ("empties":Str)=some (.ref D1):=by
  refine⟨_,rfl,?_⟩;rw [<-hf7,<-XM];refine⟨?_,?_,?_,?_,?_,?_⟩ <;> rfl
 obtain⟨fs,efs,k1,k2,k3,k4,k5,k6⟩:=hfs;rw [efs];have FC:uo K C H0 (upd gU a (.ins C dx fs)) a e d bg kE a_ ps []:=by
  refine⟨λc o hc=>by rw [ai (λz=>by rw [z,f0] at hc;cases hc)];exact AN c o hc,⟨dx,fs,ae,k1,k2,k3,k4,k5⟩,?_,?_,n1,n9,λp hp=>⟨⟨[],?_,rfl⟩,(fp p hp).1,(fp p hp).2,(Nz p hp).2⟩,⟨[],?_,.nil⟩,fbg,⟨D1,DM,⟨dx,fs,ae,k6⟩,by rw [ai (λz=>by rw [z,BQ] at OM;cases OM)];exact OM,Vq.keep λ_ _ z=>gJ BQ z,Wx⟩⟩
  .rw [ai (λz=>by rw [z,BQ] at xF;cases xF)];exact xF
  .rw [ai (λz=>by rw [z,BQ] at qe;cases qe)];exact qe
  .have:=(Nz p hp).1;rw [ai (λz=>by rw [z,BQ] at this;cases this)];exact this
  rw [ai (λz=>by rw [z,BQ] at Oy;cases Oy)];exact Oy
 generalize upd gU a (.ins C dx fs)=pY at FC;have eb:(λz=>(aT kE 153).isSome)=λz=>decide (z∈a_.map 84):=funext Eo;refine⟨1,rfl,?_⟩;refine⟨λmm σ jL=>∃(cK:List Be) (many:Int)(y2 y4:149),σ=[a7 a,a7 R,y2,some (.int many),y4]/\uo K C H0 jL a e d bg kE a_ ps cK/\yg aa (hd aa) 447 cK/\-1<=many/\many<=cK.length /\
  (many=cK.length->Lk aa (hd aa) 447 aa.length cK)/\(mm:Int)=80001 - many,⟨80002,[],-1,none,none,rfl,FC,.nil,∅,by simp,by simp,∅⟩,?_⟩
 rintro mm σ jL ⟨cK,many,y2,y4,rfl,Jw,OT,b1,b2,cl,em⟩;obtain⟨Va,ub,q1,q2,q3,q4,q5,q6⟩:=Jw.ia;obtain⟨tb,So,Od⟩:=Jw.lb;have lb:=a9 Od;have NF:=OT.len bM h8;refine⟨_,rfl,_,rfl,a,C,Va,ub,_,rfl,q1,B.cls,B.a3,q3,bg,_,rfl,.inl (aJ.of So),_,_,rfl,rfl,_,rfl,?_⟩;refine dj (λc=>?_) (λc=>?_)
 .have c':=dC c;rw [aA,lb] at c';refine⟨λσ tJ=>∃(dJ:List Be)(y2 y4:149),σ=[a7 a,a7 R,y2,some (.int (cK.length:Int)),y4]/\uo K C H0 tJ a e d bg kE a_ ps dJ/\yg aa (hd aa) 447 dJ/\cK.length<=dJ.length /\
   (dJ.length=cK.length->dJ=cK/\Lk aa (hd aa) 447 aa.length cK),?_,?_⟩
  .rintro σ tJ ⟨dJ,y2,y4,rfl,I_,Fb,WK,Mp⟩;have:=Fb.len bM h8;refine⟨(80001 - cK.length:Int).toNat,∅,dJ,_,_,_,rfl,I_,Fb,∅,∅,λz=>?_,∅⟩;obtain⟨EU,ET⟩:=Mp ∅;rw [EU];exact ET
  refine⟨_,rfl,a,C,Va,ub,_,rfl,q1,B.cls,B.a3,q3,bg,_,rfl,.inl (aJ.of So),?_⟩;rw [aA,lb];refine⟨_,rfl,R,_,rfl,Jw.sm.seq hR,?_⟩;refine jc (xs:=156) (λi σ tJ=>∃(dJ:List Be)(y2 y4:149),σ=[a7 a,a7 R,y2,some (.int (cK.length:Int)),y4]/\uo K C H0 tJ a e d bg kE a_ ps dJ/\yg aa (hd aa) 447 dJ/\cK.length<=dJ.length /\
   (dJ.length=cK.length->dJ=cK/\Lk aa (hd aa) 447 i cK)) ⟨cK,_,_,rfl,Jw,OT,aH _,λ_=>⟨rfl,λk ru hk=>by omega⟩⟩ ?_ ?_ ?_
  .rintro i σ tJ _ ⟨dJ,y2,y4,rfl,I_,_⟩;exact I_.sm.seq hR
  .rintro i x σ tJ t ex ⟨dJ,y2,y4,rfl,I_,Fb,WK,Mp⟩ ht
   ac_nf0
   rw [aS] at ex;obtain⟨r,er,rfl⟩:=bQ.mp ex;obtain⟨ru,pq,rv⟩:=cU.get er;have pb:=bE pq;have Tw:=I_.same (ag ht 397);have RI:aQ K (upd tJ t 397) t [161,.ref r]:=aQ.of ae;generalize upd tJ t 397=OX at Tw RI;obtain⟨P2,PF,r1,r2,r3,r4,r5,r6⟩:=Tw.ia;refine⟨t,_,rfl,RI,rfl,_,_,rfl,_,_,rfl,rfl,?_⟩;refine⟨_,rfl,a,P2,PF,rfl,r1,r5,_,rfl,_,rfl,H0,a,e,d,bg,r,kE,a_,ps,dJ,i,ru,aa,rfl,Tw,rv,pq,h8 ru pb,by rw [m9];exact(gF _ _ _).mpr (.inr (iw pb)),?_,?_,?_⟩
   .intro xP Fw;have:=Fw.len bM h8;omega
   .rw [m9,eb];exact Fb
   rw [m9,eb];intro Y2 Zt Zm Y1 l15 YY;refine⟨Y2,_,_,rfl,Zm,Y1,∅,λhl3=>?_⟩;obtain⟨x1,x2⟩:=Mp ∅;obtain⟨x3,x4⟩:=YY ∅;refine⟨x3.trans x1,λk CN hk Yp j z hj ez wd hw=>?_⟩;by_cases ck:k < i
   .exact x2 k CN ck Yp j z hj ez wd hw
   have:k=i:=by omega
   subst this;rw [pq] at Yp;cases Yp;rw [<-x1] at hw ⊢;exact x4 j z hj ez wd hw
  rintro σ tJ ⟨dJ,y2,y4,rfl,I_,Fb,WK,Mp⟩;rw [aA,ll] at Mp;exact⟨dJ,_,_,rfl,I_,Fb,WK,Mp⟩
 have c':=of_decide_eq_false (qQ.mpr c);rw [aA,lb] at c';exact q e d bg kE a_ ps cK jL Jw m9 emp IA Eo OT (cl ∅)
end
end gM
namespace L2
open PySem PySem.W
section
variable {X:Cx}{ah:z0e}{σ:St}{H:Hp}{s:Shared}{a:Addr}{kvs:139}{k:aL}{u:Value}{A:Around}{E:z0b}
def OJ {r:Value}(I:141)(e:H a=184)(hl:kvs.length < sizeLine)(ry:RelV (kV k) u)(rz:RelV z r)
  (h1:∀v w' s',aT kvs k=some v->Inv X ah σ H s'->RelV v w'->Q w' s')(h2:aT kvs k=none->∀s',Inv X ah σ (upd H a (.dK (bx kvs k z))) s'->Q r s') :
  wpAny 154 A (call (.builtin "dict.setdefault") [.ref a,u,r]) Q E s:=by
 obtain⟨zl,hd,vs,rel,dd⟩:=zh I.bI e;refine call_meetsIn vZ dd.typeIs PySem.F.entry_dict_setdefault (PySem.F.args_dict_setdefault_3 _ _ _) (kt_meets_setdefault (aI X.prog X.w) a (kF ry) hd r)
  ⟨vs,dd,by rw [<-rel.length];exact zl,λv hv=>?_,λhn h' BV hs=>?_⟩
 .have rv:=rel.val k;rw [hv] at rv;cases e2:aT kvs k with
  | none=>rw [e2] at rv;cases rv
  | some x=>rw [e2] at rv;exact h1 x v _ e2 (I.tok _) rv
 have LX:aT kvs k=none:=by
  have rv:=rel.val k;rw [hn] at rv;cases e2:aT kvs k with
  | none=>rfl
  | some x=>rw [e2] at rv;cases rv
 have he:∃q,h'.get? a=some q:=let ⟨q,_,_,hq,_⟩:=BV;⟨q,hq⟩;exact h2 LX _ (og I (by rw [e];exact True.intro) hs he (sJ (by have:=di kvs k z;omega) hd (rel.put k rz) BV))
end
section
variable {X:Cx}{o e f:Expr}{apos eD:Pos}{td ty tx:TE}
def MP (td ty tx:TE):TE:=λσ H Q=>td σ H λx H1=>∃a,x=.ref a/\Qa H1 a/\ty σ H1 λy H2=>tx σ H2 λz H3=>∃kvs k,H3 a=184/\y=kV k/\kvs.length < sizeLine /\
 (∀v,aT kvs k=some v->Q v H3)/\(aT kvs k=none->Q z (upd H3 a (.dK (bx kvs k z))))
def GK (ho:PE X o td)(he:PE X e ty)(hf:PE X f tx)(m:M2 X o "setdefault" apos e f eD):PE X (.Call (.Attribute o "setdefault" apos) [e,f] [] eD) (MP td ty tx):=by
 intro ah s σ H Q I h;refine oE m.base m.Iu m.line qV vZ PySem.F.type_dict_setdefault (cM (ho ah s σ H _ I h) λu s1 aW=>?_);obtain⟨x,H1,I1,rx,a,ex,d,q1⟩:=aW;subst ex;obtain rfl:u=Value.ref a:=rx;obtain⟨t1,t2,_⟩:=rX I1 d;refine⟨t1,t2,?_⟩;rw [m.trees];refine qE rfl (oK (jQ (cM (he ah s1 σ H1 _ I1 q1) λiv s2 ⟨y,H2,I2,ry,q2⟩ =>
  jQ (cM (hf ah s2 σ H2 _ I2 q2) λfv s3 ⟨z,H3,I3,rz,kvs,k,ea,ey,hl,q3,q4⟩=>jZ ?_))))
 subst ey;exact OJ I3 ea hl ry rz (λv w' s4 l I4 wM=>⟨v,_,I4,wM,q3 v l⟩) λl s4 I4=>⟨z,_,I4,rz,q4 l⟩
end
end L2
namespace gM
open PySem L2 M11
section
def QW {ps:z0f}(n1:(ps.map 84).Nodup)(n2:(ps.map (·.2)).Nodup){p p':Str×Addr}(hp:p∈ps)(lX:p'∈ps)(z:p'≠p):p'.1≠p.1/\p'.2≠p.2:=by
 refine⟨λq=>z ?_,λq=>z ?_⟩
 .have w1:=gq ps n1 p' lX;have w2:=gq ps n1 p hp;rw [q,w2] at w1;injection w1 with w3;injection w3 with w4;exact Prod.ext q w4.symm
 obtain⟨i,hi,ei⟩:=jF.mp lX;obtain⟨j,hj,ej⟩:=jF.mp hp;have yZ:i=j:=by
  refine(vo (xs:=ps.map (·.2)) (h₀:=by simpa using hi) (h₁:=by simpa using hj) n2).mp ?_;rw [oG,oG,ei,ej];exact q
 subst yZ;exact ei.symm.trans ej
structure Jx (ps:z0f)(st:Str->z0t)(H:Hp)(d:Addr):Prop where
 hd:H d=some 244
 n1:(ps.map 84).Nodup
 n2:(ps.map (·.2)).Nodup
 lst:∀p∈ps,H p.2=some (.lst ((st p.1).map V.int))
def Jx.same {ps:z0f}{st:Str->z0t}{d:Addr}(h:Jx ps st H d)(s:aF H H'):Jx ps st H' d:=⟨s _ _ h.hd,h.n1,h.n2,λp hp=>s _ _ (h.lst p hp)⟩
def Dz (st:Str->z0t)(n:Str) (k:Int):Str->z0t:=λz=>if z=n then st z++[k] else st z
def Jx.more {ps:z0f}{st:Str->z0t}{d:Addr}(h:Jx ps st H d){p:Str×Addr}(hp:p∈ps) (k:Int):Jx ps (Dz st p.1 k) (upd H p.2 (.lst ((st p.1).map V.int++[.int k]))) d:=by
 have a:=h.lst p hp;have nd:d≠p.2:=λz=>by have:=h.hd;rw [z,a] at this;cases this
 refine⟨by rw [ai nd];exact h.hd,h.n1,h.n2,λp' lX=>?_⟩;by_cases z:p'=p
 .rw [z,ae];have e1:Dz st p.1 k p.1=st p.1++[k]:=au rfl;rw [e1,bC];rfl
 obtain⟨a1,a2⟩:=QW h.n1 h.n2 hp lX z;have e1:Dz st p.1 k p'.1=st p'.1:=ar a1;rw [ai a2,e1];exact h.lst p' lX
def F4 (K:aU):Sp:=λvs H Q _=>∃(R:Addr)(rs:z0p)(aa:87),vs=[.ref R]/\aJ K H R 180/\bu K H rs aa/\aa.length<=1000 /\
 ∀(d:Addr)(ps:z0f)(H':Hp),H d=none->aF H H'->Jx ps (λn=>nums aa n aa.length) H' d->ps.map 84=hd aa->(∀p∈ps,H p.2=none)->Q (.ref d) H'
def wA:aN ["rules","numbers","number","rule"] ["rules"] (az Gb):=185
def Kb (F:iU K "numbers_by_name" "numbers_by_name" Gb f fd)(T:Txt mg)(GH:aM P w K mg base 1 "heads_of" ["rules"] (kW K)):bS P w K mg base fC 2 f fd ["rules"] (F4 K):=by
 refine F.ok wA 198 217
 .obtain⟨R,rs,aa,rfl,_⟩:=h;rfl
 obtain⟨R,rs,aa,rfl,hR,cU,bM,q⟩:=h;have hu:=eJ hr;refine⟨_,aj (aG (i:=1) wA.nd rfl 86 (a8 (dS rfl) rfl T.Dp eY (af
   (bK ["name"] [] rfl (aV (bZ GH hr rfl (af (pv 0) aq))) (bf rfl rfl) nofun rfl nofun
    (λ_ _ _ _ _=>aw (i:=0) (show (["name"]:z0s).Nodup by decide +kernel) rfl 86) (λ_ _ _ _ _=>cQ)
    (λ_ _ _ _ _=>bq (af (pv 0) (af (bc aq) aq)))) aq)))
  (aj (bJ cq rfl (lg rfl T.Jt (af (pv 0) aq)) (dZ rfl (aE (aw (i:=2) wA.nd rfl 86) (aE (aw (i:=3) wA.nd rfl 86) bV)))
   (av (df (il hX jG jH cN (dO hu (pv 1) (aY bR (pv 3) aC 152) 152) (af (pv 2) aq)))))
  (av (bp (pv 1)))),?_⟩
 nofun
 have ll:=a9 cU;refine⟨_,rfl,R,rs,aa,rfl,hR,cU,bM,λD2 H3 f3 s3 e3=>?_⟩;have NA:=iG (aa.map 84) [];simp only [jD,aA] at NA;refine⟨D2,rfl,⟨_,aJ.of e3⟩,λD3 Sq=>sV (aJ.of e3) ∅ Sq λts ps H4 s4 e4 m4 p4 l4 n4=>?_⟩;have n1:(ps.map 84).Nodup:=by rw [m4];exact pA _ jn
 have Fo:Paired (λt (kv:aL×V)=>aQ K H4 t [kV kv.1,kv.2]) ts (ps.map jh):=cH p4 λ_ _ z=>z;refine⟨D3,ts,_,rfl,e4,Fo,λd uT=>?_⟩;have SJ:cP (ps.map jh) []=ps.map jh:=n8 _ [] (by
  rw [oC,nQ];exact w6 n1)
 rw [SJ];have s5:=(s3.trans s4).trans (ag uT 244);have DT:=ag uT 244;have xD:H d=none:=(s3.trans s4).free uT;have S5:Jx ps (λn=>nums aa n 0) (upd H4 d 244) d:=⟨ae,n1,n4,λp hp=>DT _ _ (l4 p hp).1⟩;have PH:∀p∈ps,H p.2=none:=λp hp=>s3.free (l4 p hp).2.1;generalize upd H4 d 244=H5 at s5 S5;clear DT;refine⟨_,rfl,R,_,rfl,s5.seq hR,?_⟩
 let zO:zP:=λi σ H6=>∃(y2 y3:149),σ=[a7 R,a7 d,y2,y3]/\aF H H6/\Jx ps (λn=>nums aa n i) H6 d
 refine jc (xs:=156) zO ⟨none,none,rfl,s5,S5⟩ ?_ ?_ ?_
 .rintro i σ H6 _ ⟨y2,y3,rfl,s6,_⟩;exact s6.seq hR
 .rintro i x σ H6 t ex ⟨y2,y3,rfl,s6,S6⟩ ht
  ac_nf0
  rw [aS] at ex;obtain⟨r,er,rfl⟩:=bQ.mp ex;obtain⟨ru,pq,p,v1,v2⟩:=cU.get er;have pb:=bE pq;have li:=(bw.mp pq).1;have Jj:=ag ht 397;have LU:aQ K (upd H6 t 397) t [161,.ref r]:=aQ.of ae;have s7:=s6.trans Jj;have S7:=S6.same Jj;generalize upd H6 t 397=H7 at LU s7 S7;obtain⟨pn,uS,z5⟩:∃pn∈ps,pn.1=ru.1:=by
   have:ru.1∈ps.map 84:=by rw [m4];exact(gF _ _ _).mpr (.inr (iw pb))
   obtain⟨pn,a,b⟩:=bD.mp this;exact⟨pn,a,b⟩
  have an:=S7.lst pn uS;have vn:=gq ps n1 pn uS;rw [z5] at vn;have hg:cb H7 d (.str ru.1) (some (.ref pn.2)):=by
   have:=cb.k (k:=Sum.inr ru.1) S7.hd;rw [vn] at this;exact this
  have ln:=yL aa pn.1 i;refine⟨t,_,rfl,LU,rfl,_,_,rfl,_,_,rfl,rfl,?_⟩;refine⟨_,rfl,_,rfl,r,_,_,_,rfl,rfl,s7.tup v1,rfl,d,_,rfl,hg,.inl ⟨rfl,_,aJ.of an⟩,_,rfl,pn.2,_,_,rfl,rfl,an,220,?_⟩;have S8:=S7.more uS (i:Int);refine⟨_,_,rfl,λb o hb=>by rw [ai (λz=>by rw [z,PH pn uS] at hb;cases hb)];exact s7 b o hb,S8.hd,S8.n1,S8.n2,λp' lX=>?_⟩;have:=S8.lst p' lX;rw [this]
  congr 3
  unfold Dz;rw [Ei];by_cases c:p'.1=pn.1
  .rw [au c,au];unfold Pn;rw [pq,c,z5];simp
  rw [ar c,ar,fq];unfold Pn;rw [pq];intro z;have z2:=dC z;injection z2 with z3;exact c (by rw [z5];exact z3.symm)
 rintro σ H6 ⟨y2,y3,rfl,s6,S6⟩;rw [aA,ll] at S6;exact⟨_,rfl,q d ps H6 xD s6 S6 m4 PH⟩
def Lq (K:aU):Sp:=λvs H Q _=>∃(R:Addr)(rs:z0p)(aa:87),vs=[.ref R]/\aJ K H R 180/\bu K H rs aa/\aa.length<=1000/\325 /\
 ∀(d:Addr)(H':Hp),H d=none->aF H H'->Q (.ref d) H'
structure FA (H0 H:Hp)(d:Addr)(kvs:139) (n:Nat):Prop where
 hd:H d=184
 ln:kvs.length<=n
 lst:∀kv∈kvs,∃a xs,kv.2=.ref a/\H a=some (.lst xs)/\H0 a=none/\xs.length<=n
def FA.same {d:Addr}{kvs:139}(h:FA H0 H d kvs n)(s:aF H H'):FA H0 H' d kvs n:=⟨s _ _ h.hd,h.ln,λkv hk=>let ⟨a,xs,e1,e2,e3,e4⟩:=h.lst kv hk;⟨a,xs,e1,s _ _ e2,e3,e4⟩⟩
def FA.more {d a:Addr}{kvs:139}{xs:List V}(h:FA H0 H d kvs (n+1))(ha:H a=some (.lst xs))(lx:xs.length<=n)(l2:∀kv∈kvs,∃a xs,kv.2=.ref a/\H a=some (.lst xs)/\H0 a=none/\xs.length<=n):FA H0 (upd H a (.lst (xs++[y]))) d kvs (n+1):=by
 have nd:d≠a:=λz=>by have:=h.hd;rw [z,ha] at this;cases this
 refine⟨by rw [ai nd];exact h.hd,h.ln,λkv hk=>?_⟩;obtain⟨b,ys,e1,e2,e3,e4⟩:=l2 kv hk;by_cases c:b=a
 .exact⟨b,xs++[y],e1,by rw [c,ae],e3,by rw [bH];simp;omega⟩
 exact⟨b,ys,e1,by rw [ai c];exact e2,e3,∅⟩
def MH {kvs:139}{k:aL}{v:V}(h:aT kvs k=some v):∃kv∈kvs,kv.2=v:=by
 unfold aT at h;obtain⟨kv,e1,e2⟩:=bQ.mp h;exact⟨kv,List.mem_of_find?_eq_some e1,e2⟩
def uD:aN ["rules","standings","number","rule","place","part"] ["rules"] (az M7):=185
def Nr (F:iU K "standings_by_part" "standings_by_part" M7 f fd)(T:Txt mg):bS P w K mg base fC 1 f fd ["rules"] (Lq K):=by
 refine F.ok uD 198 217
 .obtain⟨R,rs,aa,rfl,_⟩:=h;rfl
 obtain⟨R,rs,aa,rfl,hR,cU,bM,h8,q⟩:=h;have hu:=eJ hr;refine⟨_,aj (aG (i:=1) uD.nd rfl 86 fV)
  (aj (bJ cq rfl (lg rfl T.Jt (af (pv 0) aq)) (dZ rfl (aE (aw (i:=2) uD.nd rfl 86) (aE (aw (i:=3) uD.nd rfl 86) bV)))
   (av (bJ cq rfl (nO rfl T.Jt (af (aY bR (pv 3) aC 152) aq)) (dZ rfl (aE (aw (i:=4) uD.nd rfl 86) (aE (aw (i:=5) uD.nd rfl 86) bV)))
    (av (df (il hX jG jH cN (GK (pv 1) (pv 5) (bc aq) ⟨rfl,rfl,rfl,rfl⟩) (af (bq (af (pv 2) (af (pv 4) aq))) aq)))))))
  (av (bp (pv 1)))),?_⟩
 nofun
 have ll:=a9 cU;intro d uT;have s1:=ag uT (.dK []);have S1:FA H (upd H d (.dK [])) d [] (8 * 0):=⟨ae,aH _,λkv hk=>by cases hk⟩;generalize upd H d (.dK [])=H1 at s1 S1;refine⟨_,rfl,R,_,rfl,s1.seq hR,?_⟩
 let Jd:zP:=λi σ H6=>∃(kvs:139)(y2 y3 y4 y5:149),σ=[a7 R,a7 d,y2,y3,y4,y5]/\aF H H6/\FA H H6 d kvs (8 * i)
 refine jc (xs:=156) Jd ⟨[],none,none,none,none,rfl,s1,S1⟩ ?_ ?_ ?_
 .rintro i σ H6 _ ⟨kvs,y2,y3,y4,y5,rfl,s6,_⟩;exact s6.seq hR
 .rintro i x σ H6 t ex ⟨kvs,y2,y3,y4,y5,rfl,s6,S6⟩ ht
  ac_nf0
  rw [aS] at ex;obtain⟨r,er,rfl⟩:=bQ.mp ex;obtain⟨ru,pq,p,v1,v2⟩:=cU.get er;have pb:=bE pq;have Jp:=h8 ru pb;have li:=(bw.mp pq).1;have Jj:=ag ht 397;have LU:aQ K (upd H6 t 397) t [161,.ref r]:=aQ.of ae;have s7:=s6.trans Jj;have S7:=S6.same Jj;generalize upd H6 t 397=H7 at LU s7 S7;refine⟨t,_,rfl,LU,rfl,_,_,rfl,_,_,rfl,rfl,?_⟩;refine⟨_,rfl,r,_,_,_,rfl,rfl,s7.tup v1,rfl,p,_,rfl,s7.tup v2,?_⟩
  let Zs:zP:=λj σ H9=>∃(kvs:139)(y4 y5:149),σ=[a7 R,a7 d,some (161),a7 r,y4,y5]/\aF H H9/\FA H H9 d kvs (8 * i+j)
  refine pj (xs:=ru.2.map V.str) Zs ⟨kvs,_,_,rfl,s7,S7⟩ ?_ ?_ ?_
  .rintro j σ H9 _ ⟨kvs,y4,y5,rfl,s9,_⟩;exact s9.tup v2
  .rintro j x σ H9 t2 Iv ⟨kvs,y4,y5,rfl,s9,S9⟩ ji
   ac_nf0
   rw [aS] at Iv;obtain⟨z,ez,rfl⟩:=bQ.mp Iv;have lj:=(bw.mp ez).1;have yz:=ag ji (.tup [.int (j:Int),.str z]);have HN:aQ K (upd H9 t2 (.tup [.int (j:Int),.str z])) t2 [.int (j:Int),.str z]:=aQ.of ae;have ie:=s9.trans yz;have Mz:=S9.same yz;generalize upd H9 t2 (.tup [.int (j:Int),.str z])=gU at HN ie Mz;refine⟨t2,_,rfl,HN,rfl,_,_,rfl,_,_,rfl,rfl,?_⟩;have lk:=Mz.ln;refine⟨_,rfl,d,rfl,.inl ⟨kvs,.inl Mz.hd⟩,_,rfl,qi,λl hl=>?_⟩;have wL:=ag hl 142;have xG:upd gU l 142 l=some 142:=ae;have fl:H l=none:=ie.free hl;have FC:=Mz.same wL;have sA:=ie.trans wL;generalize upd gU l 142=pY at wL xG FC sA;have fin:∀(a:Addr)(xs:List V)(mM:139)(jL:Hp),jL a=some (.lst xs)->H a=none->xs.length<=8 * i+j->FA H jL d mM (8 * i+j+1)->(∀kv∈mM,∃a xs,kv.2=.ref a/\jL a=some (.lst xs)/\H a=none/\xs.length<=8 * i+j)->aF H jL ->
     ∀t4,jL t4=none->xs.length < sizeLine/\∃(kvs:139)(y4 y5:149),[some (V.ref R),a7 d,some (161),a7 r,some (.int (j:Int)),some (.str z)]=[a7 R,a7 d,some (161),a7 r,y4,y5]/\aF H (upd (upd jL t4 (.tup [161,.int (j:Int)])) a (.lst (xs++[.ref t4])))/\FA H (upd (upd jL t4 (.tup [161,.int (j:Int)])) a (.lst (xs++[.ref t4]))) d kvs (8 * i+(j+1)) :=
    λa xs mM jL ea fa lx Jw Rp pM t4 Ez=>by
     have AM:=ag Ez (.tup [161,.int (j:Int)]);refine⟨bF ∅,mM,_,_,rfl,λb o hb=>by rw [ai (λz=>by rw [z,fa] at hb;cases hb)];exact AM _ _ (pM b o hb),?_⟩;exact(Jw.same AM).more (AM _ _ ea) lx λkv hk=>let ⟨b,ys,e1,e2,e3,e4⟩:=Rp kv hk;⟨b,ys,e1,AM _ _ e2,e3,e4⟩
   refine⟨kvs,136,FC.hd,rfl,bF ∅,λv hv=>?_,λhn=>?_⟩
   .obtain⟨kv,hk,ek⟩:=MH hv;obtain⟨a,xs,e1,e2,e3,e4⟩:=FC.lst kv hk;rw [e1] at ek;subst ek;refine⟨.inl ⟨rfl,_,aJ.of e2⟩,_,rfl,_,rfl,kR,λt4 Ez=>?_⟩;obtain⟨g1,g2⟩:=fin a xs kvs pY e2 e3 e4 ⟨FC.hd,∅,λkv hk=>let ⟨b,ys,e1,e2,e3,e4⟩:=FC.lst kv hk;⟨b,ys,e1,e2,e3,∅⟩⟩ FC.lst sA t4 Ez;exact⟨a,_,_,rfl,rfl,ag Ez _ _ _ e2,g1,g2⟩
   have nd:d≠l:=λz=>by have:=FC.hd;rw [z,xG] at this;cases this
   have BR:upd pY d (.dK (bx kvs 153 (.ref l))) l=some 142:=by rw [ai nd.symm];exact xG
   have xD:H d=none:=uT;have pM:aF H (upd pY d (.dK (bx kvs 153 (.ref l)))):=λb o hb=>by rw [ai (λz=>by rw [z,xD] at hb;cases hb)];exact sA b o hb
   have Rp:∀kv∈bx kvs 153 (.ref l),∃a xs,kv.2=.ref a/\upd pY d (.dK (bx kvs 153 (.ref l))) a=some (.lst xs)/\H a=none/\xs.length<=8 * i+j:=λkv hk=>by
    rw [yC _ hn] at hk;rcases cD.mp hk with h | h
    .obtain⟨b,ys,e1,e2,e3,e4⟩:=FC.lst kv h;exact⟨b,ys,e1,by rw [ai (λz=>by rw [z,FC.hd] at e2;cases e2)];exact e2,e3,e4⟩
    rw [bA.mp h];exact⟨l,[],rfl,BR,fl,by simp⟩
   have lp:=di kvs (136:aL) (.ref l);have Jw:FA H (upd pY d (.dK (bx kvs 153 (.ref l)))) d (bx kvs 153 (.ref l)) (8 * i+j+1):=⟨ae,∅,λkv hk=>let ⟨b,ys,e1,e2,e3,e4⟩:=Rp kv hk;⟨b,ys,e1,e2,e3,∅⟩⟩;generalize upd pY d (.dK (bx kvs 153 (.ref l)))=jL at BR pM Rp Jw;refine⟨.inl ⟨rfl,_,aJ.of BR⟩,_,rfl,_,rfl,kR,λt4 Ez=>?_⟩;obtain⟨g1,g2⟩:=fin l [] _ jL BR fl 88 Jw Rp pM t4 Ez;exact⟨l,_,_,rfl,rfl,ag Ez _ _ _ BR,g1,g2⟩
  rintro σ H9 ⟨kvs,y4,y5,rfl,s9,S9⟩;rw [aA] at S9;refine⟨kvs,_,_,_,_,rfl,s9,S9.hd,by have:=S9.ln;omega,λkv hk=>let ⟨b,ys,e1,e2,e3,e4⟩:=S9.lst kv hk;⟨b,ys,e1,e2,e3,∅⟩⟩
 rintro σ H6 ⟨kvs,y2,y3,y4,y5,rfl,s6,S6⟩;exact⟨_,rfl,q d H6 uT s6⟩
end
end gM
namespace L2
open PySem PySem.Spec PyProof.Rows
def Nh (K:aU):V->List V->Hp->VK->Prop:=λx vs H Q=>∃a zs z j,x=.ref a/\vs=[.str z]/\aJ K H a (List.map V.str zs)/\zs[j]?=some z/\(∀m,m < j->zs[m]?≠some z)/\Q (.int ((j:Nat):Int)) H
def yR {X:Cx}:Zn X "list.index" (Nh X.K):=by
 intro ah s σ H x vs v us Q I rx rv h;obtain⟨a,zs,z,j,rfl,rfl,hq,ej,hn,q⟩:=h;cases rx;obtain⟨u,rfl,ru⟩:=rv.one;obtain⟨t,rfl⟩:=ru;obtain⟨aK,r,pl,hz⟩:=I.list hq;obtain⟨⟨cls,dd,data,sl⟩,ho,hc,n,hd⟩:=id pl.isList;simp only at hc hd;subst hc hd;have ln:=r.length;rw [aA] at ln;have lj:=(bw.mp ej).1;have at_:∀m (hm:m < aK.toArray.size),∃y,zs[m]?=some y/\RelV (.str y) aK.toArray[m]:=λm hm=>by
  have hm':m < aK.length:=by simpa using hm
  obtain⟨y,ey⟩:∃y,zs[m]?=some y:=⟨zs[m]'∅,dA ∅⟩;obtain⟨u,eu,ru⟩:=r.get (show (zs.map V.str)[m]?=some (.str y) by rw [aS,ey];rfl);refine⟨y,ey,?_⟩;have:=(bw.mp eu).2;have g:aK.toArray[m]=u:=by simpa using this
  rw [g];exact ru
 have eqs:∀m (hm:m < aK.toArray.size) y,zs[m]?=some y->ze (.str z) aK.toArray[m]=decide (y=z):=λm hm y ey=>by
  obtain⟨y',ey',ry'⟩:=at_ m hm;rw [ey] at ey';cases ey';rw [BM ry' rfl];show (y == z)=decide (y=z);rw [hV,beq_iff_eq,decide_eq_true_iff]
 have hj:j < aK.toArray.size:=by rw [cu];omega
 refine call_meets F.slot_list_index ⟨_,ho,rfl⟩ F.entry_list_index (F.args_list_index_2 _ _) (SeqAt.list_indexAt a aK.toArray n dd sl (.str z t) (ze (.str z)) j hj (by rw [fO] at hz;rw [aA] at hz;omega) (by rw [eqs j hj z ej];exact cZ rfl) (λm hm gR=>?_)) ⟨ho,λu hu=>?_,?_⟩
 .obtain⟨y,ey,_⟩:=at_ m hm;rw [eqs m hm y ey];exact fK λh=>hn m gR (by rw [ey,h])
 .exact i7 (x:=.str z) ⟨t,rfl⟩ rfl r (by rw [List.all_map];exact gb.mpr λ_ _=>rfl) u (by simpa using hu)
 exact⟨.int _,H,I.tok _,⟨_,rfl⟩,q⟩
open PySem
def E6 {X:Cx}(K:aU)(hK:X.K=K:=by rfl):gk X (.builtin "len") (λxs H Q=>Lf xs (λp ys=>aJ K H p ys\/aQ K H p ys) λys=>Q (.int ys.length) H):=by
 subst hK;exact bX
def A4 {X:Cx}(K:aU)(hK:X.K=K:=by rfl):oj X (compareOp .In) (Ud K false):=by
 subst hK;exact oZ
def Ea {X:Cx}(hu:X.A.units < cLine):oj X (compareOp .NotEq) (λx y H Q=>∃a b xs,x=.ref a/\y=.ref b/\aJ X.K H a xs/\aJ X.K H b []/\Q (.bl (!xs.isEmpty)) H):=by
 intro ah s σ H x y v u Q I rx ry h;obtain⟨a,b,xs,rfl,rfl,ha,hb,q⟩:=h;cases rx;cases ry;obtain⟨aK,r,pl,hz⟩:=I.list ha;obtain⟨cX,r2,tW,Po⟩:=I.list hb;have e2:cX=[]:=bh.zero r2;subst e2;have bM:=r.length;cases xs with
 | nil =>
  have e:aK=[]:=bh.zero r;subst e;exact SeqAt.RcNeAt.lists (e:=λ_=>true) pl.isList tW.isList rfl hu (λj h1 _=>absurd h1 88) X.prog X.w X.xe _ ⟨.bl false,H,I,rfl,q⟩
 | cons y ys =>
  refine SeqAt.RcNeAt.lists_lengths pl.isList tW.isList ?_ hu X.prog X.w X.xe _ ⟨.bl true,H,I,rfl,q⟩;rw [cu,cu,<-bM];simp
def Cc (K:aU)(H:Hp):Nat->V->V->Prop
 | 0,x,y=>x=y/\xY x
 | n+1,x,y=>(x=y/\xY x)\/∃a b xs ys,x=.ref a/\y=.ref b/\((aJ K H a xs/\aJ K H b ys)\/(aQ K H a xs/\aQ K H b ys))/\Paired (Cc K H n) xs ys
def Cc.self {K:aU}{x:V}(h:xY x):∀n,Cc K H n x x
 | 0=>⟨rfl,h⟩
 | _+1=>.inl ⟨rfl,h⟩
def je {xs ys:List V}{aK cX:z0m}(r:bh xs aK)(r2:bh ys cX)(p:Paired F xs ys)(hF:∀x y u v,F x y->RelV x u->RelV y v->SeqAt.EqAt A s u v true) (j:Nat)(h1:j < aK.toArray.size)(h2:j < cX.toArray.size) :
  SeqAt.EqAt A s aK.toArray[j] cX.toArray[j] true:=by
 have l1:=r.length;have l2:=r2.length;have k1:j < aK.length:=by simpa using h1
 have k2:j < cX.length:=by simpa using h2
 have g2:ys[j]?=some (ys[j]'∅):=dA ∅;obtain⟨x,g1,fx⟩:=Paired.at_ p j _ g2;obtain⟨u1,e1,q1⟩:=r.get g1;obtain⟨u2,e2,q2⟩:=r2.get g2;have f1:aK.toArray[j]=u1:=by
  have:=(bw.mp e1).2;simpa using this
 have f2:cX.toArray[j]=u2:=by
  have:=(bw.mp e2).2;simpa using this
 rw [f1,f2];exact hF _ _ _ _ fx q1 q2
theorem sM {X:Cx}{σ:St}(I:141):∀(n:Nat)(A:Around)(x y:V)(u v:Value),Cc X.K H n x y->RelV x u->RelV y v->A.units+n < cLine->SeqAt.EqAt A s u v true
 | 0,A,x,y,u,v,⟨e,h⟩,ru,rv,_=>by subst e;exact sF h ru rv
 | n+1,A,x,y,u,v,.inl ⟨e,h⟩,ru,rv,_=>by subst e;exact sF h ru rv
 | n+1,A,x,y,u,v,.inr ⟨a,b,xs,ys,ex,ey,hs,p⟩,ru,rv,hu=>by
  subst ex;subst ey;cases (show u=Value.ref a from ru);cases (show v=Value.ref b from rv);by_cases e:a=b
  .subst e;exact .same _
  refine .of_refs e ?_;have lp:=a9 p;rcases hs with ⟨ha,hb⟩ | ⟨ha,hb⟩
  .obtain⟨aK,r,pl,_⟩:=I.list ha;obtain⟨cX,r2,tW,_⟩:=I.list hb;have l1:=r.length;have l2:=r2.length;have q:=SeqAt.RcAt.lists (A:=A) (s:=s) (e:=λ_=>true) pl.isList tW.isList (by simp only [cu];omega) ∅ (λj h1 h2=>je r r2 p (λx y u v d r1 r2=>sM I n A.in1 x y u v d r1 r2 (by rw [jq];omega)) j h1 h2);have e:((List.range aK.toArray.size).all λ_=>true)=true:=by simp
   rw [e] at q;exact q
  obtain⟨aK,r,pl,_⟩:=I.tuple ha;obtain⟨cX,r2,tW,_⟩:=I.tuple hb;have l1:=r.length;have l2:=r2.length;have q:=SeqAt.RcAt.tuples (A:=A) (s:=s) (e:=λ_=>true) pl tW ∅ (λj h1 h2=>je r r2 p (λx y u v d r1 r2=>sM I n A.in1 x y u v d r1 r2 (by rw [jq];omega)) j h1 h2);have e1:((List.range (min aK.toArray.size cX.toArray.size)).all (λ_=>true) && aK.toArray.size == cX.toArray.size)=true:=by
   have:aK.toArray.size=cX.toArray.size:=by simp only [cu];omega
   rw [this];simp
  rw [e1] at q;exact q
def QT (K:aU)(b:Bool) (n:Nat):V->V->Hp->VK->Prop:=λx y H Q=>∃p q xs ys,x=.ref p/\y=.ref q/\aJ K H p xs/\aJ K H q ys/\Paired (Cc K H n) xs ys/\Q (.bl b) H
def AZ {X:Cx}(n:Nat)(hu:X.A.units+(n+1) < cLine):oj X (compareOp .NotEq) (QT X.K false n):=by
 intro ah s σ H x y v u Q I rx ry h;obtain⟨a,b,xs,ys,rfl,rfl,ha,hb,p,q⟩:=h;cases rx;cases ry;obtain⟨aK,r,pl,hz⟩:=I.list ha;obtain⟨cX,r2,tW,Po⟩:=I.list hb;have l1:=r.length;have l2:=r2.length;have lp:=a9 p;refine SeqAt.RcNeAt.lists (e:=λ_=>true) pl.isList tW.isList (by simp only [cu];omega) ∅ (λj h1 h2=>je r r2 p (λx y u v d r1 r2=>sM I n X.A.in1 x y u v d r1 r2 (by rw [jq];omega)) j h1 h2) X.prog X.w X.xe _ ?_;have e:(!(List.range aK.toArray.size).all λ_=>true)=false:=by simp
 rw [e];exact⟨.bl false,H,I,rfl,q⟩
section
variable {prog:Program}{w:World}{A:Around}{E:z0b}{s:Shared}
end
end L2
namespace HT
open PySem PyProof.Rows
section
variable {prog:Program}{w:World}{A:Around}{E:z0b}{s:Shared}
end
end HT
namespace L2
open PySem PySem.Spec PyProof.Rows
open PySem
section
variable {prog:Program}{w:World}{A:Around}{E:z0b}{s:Shared}
end
def Inv.JA {X:Cx}{ah:z0e}{σ:St}{H:Hp}{s:Shared}{h':Heap}{t':Nat}{fp:z0p}{x y:V}{u v:Value}(I:141)(hf:∀b∈fp,um X ah H b)(k:∀b o,b∉fp->160->h'.get? b=85)
  (T2:IsPair h' s.heap.objs.size u v)(ru:RelV x u)(rv:RelV y v):Inv X ah σ (upd H s.heap.objs.size (.tup [x,y])) { s with heap:=h',toks:=t' }:=by
 have fT:H s.heap.objs.size=none:=I.bI.fresh (aH _);have tr:∀b v,H b=some v->b∉fp:=λb v q hb=>by rw [(hf b hb).1] at q;cases q
 have lt:∀b o,160->b≠s.heap.objs.size:=λb o q=>aR (aP q);refine I.call (g':=s.gens) (t':=t') (d':=s.drawn) (ch:=fp) ⟨λb o q _ _ c=>k b o c q,λb o q _ _ c=>⟨o.slots,k b o c q⟩,
  λb o q n _=>by rw [ai (lt b o q)];exact n,λb o q c=>⟨o,k b o c q⟩,λb ys q=>by rw [ai (ay q fT)];exact q,λb o v q=>by rw [ai (ay q fT)];exact q,
  λb ps q=>⟨#[],by rw [ai (ay q fT),q];simp⟩⟩ (λb w q=>?_) I.bare (λb hb=>?_)
 .by_cases hb:b=s.heap.objs.size
  .subst hb;rw [ae] at q;cases q;exact⟨by show 2<=sizeLine;decide,[u,v],.cons ru (.cons rv .nil),_,T2,rfl,_,rfl⟩
  rw [ai hb] at q;refine(I.bI b w q).jJ (λc o kI z=>?_) (λc q'=>by rw [ai (ay q' fT)];exact q') λc ys q'=>by rw [ai (ay q' fT)];exact q'
  rcases kI with rfl | kI
  .exact k c o (tr c _ q) z
  exact k c o (tr c _ kI) z
 have f:=hf b hb;exact⟨f.2.2.2.1,f.2.1,f.2.2.2.2.1,f.2.2.2.2.2⟩
end L2
namespace HT
open PySem PySem.Spec PyProof.Rows
section
variable {prog:Program}{w:World}{A:Around}{E:z0b}{s:Shared}
end
end HT
namespace L2
open PySem PySem.Spec PyProof.Rows
def QV (K:aU):R2:=λx y H Q=>Zi (aQ K H) x y λxs ys=>∀p H',aF H H'->aQ K H' p (xs++ys)->Q (.ref p) H'
def Ka {X:Cx}:oj X (binaryOp .Add) (QV X.K):=by
 intro ah s σ H x y v u Q I rx ry h;obtain⟨a,b,xs,ys,rfl,rfl,ha,hb,hz,q⟩:=h;by_cases hx:xs=[]
 .cases rx;cases ry;obtain⟨aK,r1,p1,_⟩:=I.tuple ha;obtain⟨cX,r2,p2,_⟩:=I.tuple hb;have e1:aK=[]:=r1.qt.mpr hx;obtain⟨⟨cls,dd,data,sl⟩,ho,hc,n,hd⟩:=id p1;obtain⟨⟨YT,P4,data2,O8⟩,qz,Sk,n2,hd2⟩:=id p2;simp only at hc hd Sk hd2;subst hc hd Sk hd2;exact concat_meets ⟨_,ho,rfl⟩ ⟨_,qz,rfl⟩ noFill_tuple_add seq_tuple_add z8 z9 (Ab _ _)
   (tuple_addW0 a b aK.toArray cX.toArray n n2 dd P4 sl O8 (by simp [e1])) ⟨ho,qz,.ref b,H,I,rfl,q b H (λ_ _ h=>h) (by rw [hx];exact hb)⟩
 refine J_ ah s σ H _ _ v u Q I rx ry ⟨a,b,xs,ys,rfl,rfl,ha,hb,hx,hz,λe=>q a H (λ_ _ h=>h) (by rw [e,fq];exact ha),λ_ p hp=>q p _ (ag hp _) (aQ.of ae)⟩
theorem yo:∀{zs:z0s}{aK:z0m},bh (zs.map V.str) aK->StrsAre aK zs
 | [],[],_=>.nil
 | z::r,u::aK,h=>by
  cases h with
  | cons a b =>
   obtain⟨t,rfl⟩:=a;exact .cons z t (yo b)
theorem ur:∀{aK:z0m}{zs:z0s},StrsAre aK zs->bh (zs.map V.str) aK
 | _,_,.nil=>.nil
 | _,_,.cons y t h=>.cons ⟨t,rfl⟩ (ur h)
def BY {X:Cx}:gk X (.builtin "sorted") (λxs H Q=>∃a zs,xs=[.ref a]/\aJ X.K H a (List.map V.str zs)/\zs.length < 64/\∀l cf,H l=none->cf.Perm zs->sortedS cf=true->Q (.ref l) (upd H l (.lst (List.map V.str cf)))):=by
 intro ah s σ H xs us Q I r h;obtain⟨a,zs,rfl,hq,hl,q⟩:=h;obtain⟨u,rfl,rx⟩:=vals1 r;cases (show u=Value.ref a from rx);obtain⟨aK,r',pl,hz⟩:=I.list hq;have bM:=r'.length;rw [aA] at bM;refine sorted_strs pl.isList (yo r') ∅ λout MY h1 h2 h3=>?_;obtain⟨e,he⟩:=sortedAll_at s.heap aK out;have v:=ur h1;refine⟨.ref 255,_,I.laid (t':=s.toks) (λb o hb=>sortedAll_old hb) (gp _) (show bO X.prog X.w _ _ _ (.lst (List.map V.str MY)) from ⟨?_,out.toList,e,v,?_⟩),rfl,q _ MY (I.bI.fresh (gp _)) h2 h3⟩
 .rw [aA,h2.length_eq];rw [aA] at hz;exact hz
 rw [he]
theorem pP:∀a b:z0u,ltCps a b=false->ltCps b a=false->a=b
 | [],[],_,_=>rfl
 | [],_::_,h,_=>by rw [ltCps.eq_2] at h;cases h
 | _::_,[],_,h=>by rw [ltCps.eq_2] at h;cases h
 | x::r,y::t,h,k=>by
  rw [ltCps.eq_4,Bool.or_eq_false_iff,decide_eq_false_iff_not] at h k;have e:x=y:=by omega
  subst e;have h2:=h.2;have k2:=k.2;rw [lI,Bool.true_and] at h2 k2;rw [pP r t h2 k2]
theorem lt_trans:∀a b c:z0u,ltCps b a=false->ltCps c b=false->ltCps c a=false
 | [],b,[],_,_=>ltCps.eq_1
 | [],b,_::_,_,_=>ltCps.eq_3 _ _
 | x::r,[],c,h,_=>by rw [ltCps.eq_2] at h;cases h
 | x::r,y::t,[],_,k=>by rw [ltCps.eq_2] at k;cases k
 | x::r,y::t,z::u,h,k=>by
  rw [ltCps.eq_4,Bool.or_eq_false_iff,decide_eq_false_iff_not] at h k ⊢;refine⟨∅,?_⟩;by_cases e:z=x
  .have e1:y=x:=by omega
   subst e;subst e1;have h2:=h.2;have k2:=k.2;rw [lI,Bool.true_and] at h2 k2 ⊢;exact lt_trans r t u h2 k2
  rw [iZ.mpr e,Bool.false_and]
def LJ (a b:Str):Prop:=ltCps b.cps.toList a.cps.toList=false
theorem uG:∀(x:Str) (r:z0s),risingS x r=true->(x::r).Pairwise LJ
 | x,[],_=>List.pairwise_singleton _ _
 | x,y::r,h=>by
  rw [risingS.eq_2,oF,Bool.not_eq_true'] at h;have ih:=uG y r h.2;refine iX.mpr ⟨λz hz=>?_,ih⟩;rcases aX.mp hz with e | e
  .rw [e];exact h.1
  exact lt_trans _ _ _ h.1 ((iX.mp ih).1 z e)
def DP:∀{l:z0s},sortedS l=true->l.Pairwise LJ
 | [],_=>.nil
 | x::r,h=>uG x r h
def xl {a b:Str}(h:LJ a b)(k:LJ b a):a=b:=by
 have:=pP _ _ h k;cases a with
 | mk x=>cases b with
  | mk y=>rw [show x=y from (Array.toList_inj.mp this.symm)]
theorem lR:∀{l m:z0s},l.Pairwise LJ->m.Pairwise LJ->l.Perm m->l=m
 | [],m,_,_,p=>by rw [List.nil_perm.mp p]
 | x::r,[],_,_,p=>absurd p.length_eq 88
 | x::r,y::t,h,k,p=>by
  have e:x=y:=by
   have h1:=iX.mp h;have k1:=iX.mp k;rcases aX.mp (p.mem_iff.mp (bP (a:=x) (l:=r))) with e | e
   .exact e
   rcases aX.mp (p.mem_iff.mpr (bP (a:=y) (l:=t))) with e2 | e2
   .exact e2.symm
   exact xl (h1.1 y e2) (k1.1 x e)
  subst e;rw [lR (iX.mp h).2 (iX.mp k).2 (List.perm_cons x |>.mp p)]
section
variable {prog:Program}{w:World}{A:Around}{E:z0b}{s:Shared}
end
open PySem PySem.W PyProof.Rows
section
variable {n:Nat}{lt:Nat->Nat->Bool}{cmp:Nat->Nat->(Bool->151)->151}{s:Shared}
structure pG (n:Nat)(lt:Nat->Nat->Bool):Prop where
 trans:∀a b c,a < n->b < n->c < n->lt b a=false->lt c b=false->lt c a=false
 uh:∀a b,a < n->b < n->lt a b=true->lt b a=false
def oo (n:Nat)(lt:Nat->Nat->Bool)(cmp:Nat->Nat->(Bool->151)->151)(s:Shared):Prop:=∀i j C,i < n->j < n->C (lt i j) s->cmp i j C s
structure pX (n:Nat)(p:z0r):Prop where
 pm:p.Perm (List.range n).toArray
theorem pX.size {p:z0r}(h:pX n p):p.size=n:=by
 have:=h.pm.size_eq;simpa using this
def pX.ff {p:z0r}(h:pX n p){i:Nat}(hi:i < n):p.getD i 0 < n:=by
 have hs:=h.size;have e:p.getD i 0=p[i]'∅:=by simp [Array.getD,hs,hi]
 rw [e];have:p[i]'∅∈(List.range n).toArray:=h.pm.mem_iff.mp (Array.getElem_mem _);simpa using this
abbrev at_ (p:z0r) (i:Nat):Nat:=p.getD i 0
def qh (lt:Nat->Nat->Bool)(p:z0r) (k:Nat):Prop:=∀i j,i<=j->j < k->lt (at_ p j) (at_ p i)=false
def xZ (lt:Nat->Nat->Bool)(p:z0r) (k:Nat):Prop:=∀i j,i<=j->j < k->lt (at_ p i) (at_ p j)=false
def pG.yc (o:pG n lt){a:Nat}(h:a < n):lt a a=false:=by
 cases e:lt a a with
 | false=>rfl
 | true=>rw [<-o.uh a a h h e,e]
def fY {α:Type}{a:α}{Q:α->151}(h:Q a s):KasT.kasWp cmp (.ret a) Q s:=h
def kA {α:Type}{i j:Nat}{k:Bool->KasT α}{Q:α->151}(A:oo n lt cmp s)(hi:i < n)(hj:j < n)(h:KasT.kasWp cmp (k (lt i j)) Q s):KasT.kasWp cmp (.ask i j k) Q s:=A i j _ hi hj h
def i8 {α β:Type}{t:KasT α}{f:α->KasT β}{Q:β->151}:∀{s:Shared},KasT.kasWp cmp t (λa s'=>KasT.kasWp cmp (f a) Q s') s->KasT.kasWp cmp (t.bind f) Q s:=by
 have key:∀t:KasT α,KasT.kasWp cmp (t.bind f) Q=KasT.kasWp cmp t (λa s'=>KasT.kasWp cmp (f a) Q s'):=by
  intro t
  induction t with
  | ret a=>rfl
  | ask i j k ih =>
   funext s
   show cmp i j (λc s'=>KasT.kasWp cmp ((k c).bind f) Q s') s=cmp i j (λc s'=>KasT.kasWp cmp (k c) _ s') s
   congr 1
   funext c s'
   rw [ih c]
 intro s h;rw [key];exact h
def s_ (p:z0r) (i:Nat):at_ p i=(p[i]?).getD 0:=Ag
def fu {p:z0r}{i j k:Nat}(hj:j<=p.size):at_ (kas_rev p i j) k=if i<=k/\k < j then at_ p (i+j - 1 - k) else at_ p k:=by
 have h:=getElem?_mirror_all (xs:=p) (i:=i) hj k;have e:at_ (kas_rev p i j) k=((mirror p i j ((j - i) / 2))[k]?).getD 0:=s_ _ _;rw [e,h,s_,s_]
 split <;> rfl
def vf {p:z0r}{src d k:Nat}(hs:src < p.size)(hd:d<=src):at_ (bubble p src d) k=if k=src - d then at_ p src else if src - d < k/\k<=src then at_ p (k - 1) else at_ p k:=by
 have h:=getElem?_bubble (xs:=p) hs d hd k;rw [s_,h,s_,s_,s_];by_cases c:k=src - d
 .rw [au c,au c]
 rw [ar c,ar c];by_cases c2:src - d < k/\k<=src
 .rw [au c2,au c2]
 rw [ar c2,ar c2]
def pX.rev {p:z0r}(h:pX n p) (i j:Nat):pX n (kas_rev p i j):=⟨(mirror_perm p i j _).trans h.pm⟩
def pX.bub {p:z0r}(h:pX n p) (i j:Nat):pX n (bubble p i j):=⟨(bubble_perm p i j).trans h.pm⟩
def qh.more {p:z0r}{m:Nat}(o:pG n lt)(P:pX n p)(h:qh lt p m)(hm:1<=m)(hn:m < n)(c:lt (at_ p m) (at_ p (m - 1))=false):qh lt p (m+1):=by
 intro i j yZ hj;by_cases e:j=m
 .subst e;by_cases e2:i=j
  .subst e2;exact o.yc (P.ff hn)
  exact o.trans _ (at_ p (j - 1)) _ 179 179 (P.ff hn) (h i (j - 1) ∅ ∅) c
 exact h i j yZ ∅
def xZ.more {p:z0r}{m:Nat}(o:pG n lt)(P:pX n p)(h:xZ lt p m)(hm:1<=m)(hn:m < n)(c:lt (at_ p (m - 1)) (at_ p m)=false):xZ lt p (m+1):=by
 intro i j yZ hj;by_cases e:j=m
 .subst e;by_cases e2:i=j
  .subst e2;exact o.yc (P.ff hn)
  exact o.trans _ (at_ p (j - 1)) _ (P.ff hn) 179 179 c (h i (j - 1) ∅ ∅)
 exact h i j yZ ∅
theorem B6 (o:pG n lt)(A:oo n lt cmp s){p:z0r}(P:pX n p){Q:Nat->151}:∀(f m:Nat),1<=m->m+f<=n->qh lt p m->(∀m',m<=m'->m'<=m+f->qh lt p m'->(m'=m+f\/lt (at_ p m') (at_ p (m' - 1))=true)->Q m' s)->KasT.kasWp cmp (kas_asc p f m) Q s
 | 0,m,h1,h2,hs,q=>fY (q m (aH _) (aH _) hs (.inl rfl))
 | f+1,m,h1,h2,hs,q=>by
  rw [kas_asc.eq_2];refine kA A 179 179 ?_;cases c:lt (at_ p m) (at_ p (m - 1)) with
  | true =>
   show KasT.kasWp cmp (if true=true then _ else _) Q s;rw [au rfl];exact fY (q m (aH _) ∅ hs (.inr c))
  | false =>
   show KasT.kasWp cmp (if false=true then _ else _) Q s;rw [ar bG];exact B6 o A P f (m+1) ∅ ∅ (hs.more o P h1 ∅ c) λm' a b d e=>q m' ∅ ∅ d (by rcases e with e | e;exact .inl ∅;exact .inr e)
def Vf (lt:Nat->Nat->Bool)(p:z0r) (m q:Nat):Prop:=∀k,m - (q+1)<=k->k < m->lt (at_ p k) (at_ p (m - 1))=false/\lt (at_ p (m - 1)) (at_ p k)=false
def CP {p:z0r}{m q:Nat}(o:pG n lt)(P:pX n p)(hm:m<=n)(h:xZ lt p m)(e:Vf lt p m q):xZ lt (kas_rev p (m - (q+1)) m) m:=by
 intro i j yZ hj;have hs:=P.size;rw [fu ∅,fu ∅];by_cases cj:m - (q+1)<=j/\j < m
 .rw [au cj];by_cases ci:m - (q+1)<=i/\i < m
  .rw [au ci];have e1:=e (m - (q+1)+m - 1 - i) ∅ ∅;have e2:=e (m - (q+1)+m - 1 - j) ∅ ∅;exact o.trans _ (at_ p (m - 1)) _ 179 179 179 e2.2 e1.1
  rw [ar ci];exact h i _ ∅ ∅
 rw [ar cj,ar ∅];exact h i j yZ hj
theorem qD (o:pG n lt)(A:oo n lt cmp s){Q:Array Nat×Nat×Nat->151}:∀(f:Nat)(p:z0r) (m q:Nat),pX n p->1<=m->m+f<=n->xZ lt p m->Vf lt p m q->q+1<=m->(∀p' m' q',pX n p'->m<=m'->m'<=m+f->xZ lt p' m'->Vf lt p' m' q'->q'+1<=m'->Q (p',m',q') s)->KasT.kasWp cmp (kas_desc f p m q) Q s
 | 0,p,m,q,P,h1,h2,hn,he,hq,k=>by
  rw [kas_desc.eq_1];exact fY (k p m q P (aH _) (aH _) hn he hq)
 | f+1,p,m,q,P,h1,h2,hn,he,hq,k=>by
  rw [kas_desc.eq_2];have hs:=P.size;refine kA A 179 179 ?_;cases c:lt (at_ p m) (at_ p (m - 1)) with
  | true =>
   show KasT.kasWp cmp (if true=true then _ else _) Q s;rw [au rfl];have c2:=o.uh _ _ 179 179 c;have one:∀p',Vf lt p' (m+1) 0->True:=λ_ _=>trivial;by_cases UB:q > 0
   .rw [au UB];have P':=P.rev (m - (q+1)) m;have e1:at_ (kas_rev p (m - (q+1)) m) m=at_ p m:=by rw [fu ∅,ar ∅]
    have e2:at_ (kas_rev p (m - (q+1)) m) (m - 1)=at_ p (m - (q+1)):=by
     rw [fu ∅,au ∅]
     congr 1
     omega
    refine qD o A f _ (m+1) 0 P' ∅ ∅ ((CP o P ∅ hn he).more o P' h1 ∅ ?_) ?_ ∅ λp' m' q' a b d g i j=>k p' m' q' a ∅ ∅ g i j
    .rw [e1,e2];exact o.trans _ (at_ p (m - 1)) _ 179 179 179 c2 (he (m - (q+1)) (aH _) ∅).1
    intro x h3 h4;have:x=m:=by omega
    subst this;exact⟨o.yc (P'.ff ∅),o.yc (P'.ff ∅)⟩
   rw [ar UB];refine qD o A f p (m+1) 0 P ∅ ∅ (hn.more o P h1 ∅ c2) ?_ ∅ λp' m' q' a b d g i j=>k p' m' q' a ∅ ∅ g i j;intro x h3 h4;have:x=m:=by omega
   subst this;exact⟨o.yc 179,o.yc 179⟩
  | false =>
   show KasT.kasWp cmp (if false=true then _ else _) Q s;rw [ar bG];refine kA A 179 179 ?_;cases c2:lt (at_ p (m - 1)) (at_ p m) with
   | true =>
    show KasT.kasWp cmp (if true=true then _ else _) Q s;rw [au rfl];exact fY (k p m q P (aH _) ∅ hn he hq)
   | false =>
    show KasT.kasWp cmp (if false=true then _ else _) Q s;rw [ar bG];refine qD o A f p (m+1) (q+1) P ∅ ∅ (hn.more o P h1 ∅ c2) ?_ ∅ λp' m' q' a b d g i j=>k p' m' q' a ∅ ∅ g i j;intro x h3 h4;have em:m+1 - 1=m:=by omega
    rw [em];by_cases ex:x=m
    .subst ex;exact⟨o.yc 179,o.yc 179⟩
    have e1:=he x ∅ ∅;exact⟨o.trans _ (at_ p (m - 1)) _ 179 179 179 c2 e1.1,o.trans _ (at_ p (m - 1)) _ 179 179 179 e1.2 c⟩
def ym (o:pG n lt)(A:oo n lt cmp s){p:z0r}{m o5:Nat}{Q:Nat×z0r->151}(P:pX n p)(h1:1<=m)(h2:m<=o5)(h3:o5<=n)(hn:xZ lt p m)(q:∀m' p',pX n p'->1<=m'->m'<=o5->qh lt p' m'->Q (m',p') s):KasT.kasWp cmp (kas_tail3 m o5 p) Q s:=by
 have hs:=P.size;have P':=P.rev 0 m;unfold kas_tail3;refine i8 (B6 o A P' (o5 - m) m h1 ∅ ?_ λm' a b c d=>fY (q m' _ P' ∅ ∅ c));intro i j yZ hj;rw [fu ∅,fu ∅,au ∅,au ∅];exact hn _ _ ∅ ∅
def pT (o:pG n lt)(A:oo n lt cmp s){p:z0r}{m o5:Nat}{Q:Nat×z0r->151}(P:pX n p)(h2:m+1<=o5)(h3:o5<=n)(hn:xZ lt p (m+1))(q:∀m' p',pX n p'->1<=m'->m'<=o5->qh lt p' m'->Q (m',p') s):KasT.kasWp cmp (kas_descPart m o5 p) Q s:=by
 unfold kas_descPart;refine i8 (qD o A (o5 - (m+1)) p (m+1) 0 P ∅ ∅ hn ?_ ∅ λp' m' q' P' a b KG KO KC=>?_)
 .intro x h4 h5;have:x=m:=by omega
  subst this;exact⟨o.yc 179,o.yc 179⟩
 show KasT.kasWp cmp (if q' > 0 then kas_tail3 m' o5 (kas_rev p' (m' - (q'+1)) m') else kas_tail3 m' o5 p') Q s
 split
 .exact ym o A (P'.rev _ _) ∅ ∅ h3 (CP o P' ∅ KG KO) q
 exact ym o A P' ∅ ∅ h3 KG q
def IK (o:pG n lt)(A:oo n lt cmp s){p:z0r}{Q:Nat×z0r->151}(P:pX n p)(h1:1<=n)(q:∀m' p',pX n p'->1<=m'->m'<=n->qh lt p' m'->Q (m',p') s):KasT.kasWp cmp (kas_count n p) Q s:=by
 have hs:=P.size;unfold kas_count;refine i8 (B6 o A P (n - 1) 1 (aH _) ∅ (λi j a b=>?_) λm a b hm hd=>?_)
 .have e1:i=0:=by omega
  have e2:j=0:=by omega
  subst e1;subst e2;exact o.yc 179
 show KasT.kasWp cmp (if (m == n)=true then _ else _) Q s;by_cases e:m=n
 .rw [au (by simp [e])];exact fY (q m p P a ∅ hm)
 rw [ar (by simp [e])];have gR:lt (at_ p m) (at_ p (m - 1))=true:=by
  rcases hd with hd | hd
  .omega
  exact hd
 have Dd:=o.uh _ _ 179 179 gR
 split
 .rename_i h2
  refine kA A 179 179 ?_;cases c:lt (at_ p 0) (at_ p (m - 1)) with
  | true =>
   show KasT.kasWp cmp (if true=true then _ else _) Q s;rw [au rfl];exact fY (q m p P a ∅ hm)
  | false =>
   show KasT.kasWp cmp (if false=true then _ else _) Q s;rw [ar bG];refine pT o A (P.rev 0 m) ∅ (aH _) ?_ q;have al:∀i j,i < m->j < m->lt (at_ p i) (at_ p j)=false:=λi j hi hj=>by
    have e1:lt (at_ p i) (at_ p (m - 1))=false:=by
     have:lt (at_ p i) (at_ p (m - 1))=false:=by
      by_cases e0:i=0
      .rw [e0];exact c
      cases e2:lt (at_ p i) (at_ p (m - 1)) with
      | false=>rfl
      | true =>
       have h5:lt (at_ p i) (at_ p 0)=false:=hm 0 i ∅ hi;exact absurd (o.trans _ (at_ p 0) _ 179 179 179 c h5) (by rw [e2];decide)
     exact this
    exact o.trans _ (at_ p (m - 1)) _ 179 179 179 (hm j (m - 1) ∅ ∅) e1
   intro i j yZ hj;rw [fu ∅,fu ∅];by_cases cj:j=m
   .subst cj;by_cases ci:i=j
    .subst ci;rw [ar ∅];exact o.yc 179
    rw [au (show 0<=i/\i < j by omega),ar (show ¬(0<=j/\j < j) by omega)];exact o.trans _ (at_ p (j - 1)) _ 179 179 179 Dd (al _ _ ∅ ∅)
   rw [au ∅,au ∅];exact al _ _ ∅ ∅
 rename_i h2
 have e1:m=1:=by omega
 subst e1;refine pT o A P ∅ (aH _) ?_ q;intro i j yZ hj;by_cases ej:j=0
 .have:i=0:=by omega
  subst this;subst ej;exact o.yc 179
 have:j=1:=by omega
 subst this;by_cases ei:i=1
 .subst ei;exact o.yc 179
 have:i=0:=by omega
 subst this;exact Dd
theorem rF (o:pG n lt)(A:oo n lt cmp s){p:z0r}{k:Nat}{Q:Nat->151}(P:pX n p)(hk:k < n)(hs:qh lt p k):∀(f l r:Nat),l<=r->r<=k->r - l<=f->(∀i,i < l->lt (at_ p k) (at_ p i)=false)->(∀i,r<=i->i < k->lt (at_ p k) (at_ p i)=true) ->
  (∀l',l'<=k->(∀i,i < l'->lt (at_ p k) (at_ p i)=false)->(∀i,l'<=i->i < k->lt (at_ p k) (at_ p i)=true)->Q l' s)->KasT.kasWp cmp (kas_place p k f l r) Q s
 | 0,l,r,h1,h2,h3,ha,hb,q=>by
  rw [kas_place.eq_def];have:l=r:=by omega
  subst this;exact fY (q l h2 ha hb)
 | f+1,l,r,h1,h2,h3,ha,hb,q=>by
  rw [kas_place.eq_def];show KasT.kasWp cmp (if l≥r then _ else _) Q s
  split
  .have:l=r:=by omega
   subst this;exact fY (q l h2 ha hb)
  refine kA A (P.ff hk) 179 ?_;cases c:lt (at_ p k) (at_ p ((l+r) / 2)) with
  | true =>
   show KasT.kasWp cmp (if true=true then _ else _) Q s;rw [au rfl];refine rF o A P hk hs f l ((l+r) / 2) ∅ ∅ ∅ ha (λi hi hik=>?_) q;cases e:lt (at_ p k) (at_ p i) with
   | true=>rfl
   | false=>exact absurd (o.trans _ (at_ p i) _ 179 179 (P.ff hk) (hs _ i hi hik) e) (by rw [c];decide)
  | false =>
   show KasT.kasWp cmp (if false=true then _ else _) Q s;rw [ar bG];refine rF o A P hk hs f ((l+r) / 2+1) r ∅ ∅ ∅ (λi hi=>?_) hb q;exact o.trans _ (at_ p ((l+r) / 2)) _ 179 179 (P.ff hk) (hs i _ ∅ ∅) c
theorem IP (o:pG n lt)(A:oo n lt cmp s){Q:z0r->151}:∀(f:Nat)(p:z0r) (k:Nat),pX n p->k+f=n->qh lt p k->(∀p',pX n p'->qh lt p' n->Q p' s)->KasT.kasWp cmp (kas_bin f p k) Q s
 | 0,p,k,P,h,hs,q=>by
  rw [kas_bin.eq_1];have:k=n:=by omega
  subst this;exact fY (q p P hs)
 | f+1,p,k,P,h,hs,q=>by
  rw [kas_bin.eq_2];have hz:=P.size;refine i8 (rF o A P ∅ hs k 0 k ∅ (aH _) ∅ (λi hi=>by omega) (λi a b=>by omega) λl hl ha hb=>?_);refine IP o A f _ (k+1) (P.bub _ _) ∅ ?_ q;intro i j yZ hj;have el:k - (k - l)=l:=by omega
  rw [vf ∅ ∅,vf ∅ ∅,el];have hk:k < n:=by omega
  by_cases j1:j=l
  .rw [au j1];by_cases i1:i=l
   .rw [au i1];exact o.yc (P.ff hk)
   rw [ar i1,ar ∅];exact ha i ∅
  rw [ar j1];by_cases j2:l < j/\j<=k
  .rw [au j2];by_cases i1:i=l
   .rw [au i1];exact o.uh _ _ (P.ff hk) 179 (hb (j - 1) ∅ ∅)
   rw [ar i1];by_cases i2:l < i/\i<=k
   .rw [au i2];exact hs _ _ ∅ ∅
   rw [ar i2];exact hs _ _ ∅ ∅
  rw [ar j2,ar ∅,ar ∅];exact hs _ _ yZ ∅
def JE (o:pG n lt)(A:oo n lt cmp s){Q:z0r->151}(h1:1<=n)(q:∀p',pX n p'->qh lt p' n->Q p' s):KasT.kasWp cmp (kas_sort n) Q s:=by
 unfold kas_sort;refine i8 (IK o A ⟨Array.Perm.refl _⟩ h1 λm p P a b hs=>?_);show KasT.kasWp cmp (if m < n then _ else _) Q s
 split
 .have e:max m 1=m:=by omega
  rw [e];exact IP o A (n - m) p m P ∅ hs q
 have:m=n:=by omega
 subst this;exact fY (q p P hs)
end
def Inv.C8 {X:Cx}{σ:St}{s:Shared}{h':Heap}{a:Addr}{o:HO}(I:141)(k:∀b u,b≠X.env.locals->s.heap.get? b=some u->h'.get? b=some u)
  (ns:∀m,s.heap.Ns X.env.locals m->h'.Ns X.env.locals m)(hp:s.heap.get? a=none)(hn:H a=none)(new:bO X.prog X.w (upd H a o) h' a o):Inv X ah σ (upd H a o) { s with heap:=h',toks:=t' }:=by
 have ne:∀b u,s.heap.get? b=some u->b≠a:=λb u q z=>by rw [z,hp] at q;cases q
 refine I.step (g':=s.gens) (d':=s.drawn) (ch:=[]) (λ_ z=>nomatch z) (λb u hb _ _ e _=>k b u hb e) (λb u hb _ _ e _=>⟨u.slots,k b u hb e⟩) (λb u _ e n=>by rw [ai (ne b u e)];exact n)
  (λb u _ e=>?_) (λb xs q=>by rw [ai (ay q hn)];exact q) (λb u xs q=>by rw [ai (ay q hn)];exact q) (λb ps q=>⟨#[],by rw [ai (ay q hn),q];simp⟩) ns (λb u e=>?_) I.bare
 .by_cases hb:b=X.env.locals
  .obtain⟨m,hm,_⟩:=I.loc;obtain⟨o',_,_,Bu,_⟩:=ns m hm;exact⟨o',by rw [hb];exact Bu⟩
  exact⟨u,k b u hb e⟩
 by_cases hb:b=a
 .subst hb;rw [ae] at e;cases e;exact new
 rw [ai hb] at e;refine(I.bI b u e).jJ (λc v hc q=>k c v ?_ q) (λc q=>by rw [ai (ay q hn)];exact q) λc xs q=>by rw [ai (ay q hn)];exact q
 rintro rfl;rcases hc with rfl | hc
 .rw [I.free] at e;cases e
 rw [I.free] at hc;cases hc
def C6 (x y:Str):Bool:=decide (x.cps.toList < y.cps.toList)
def Kn {a b c:Str}(h:C6 a c=true):C6 a b=true\/C6 b c=true:=strKind.negTrans a.cps.toList b.cps.toList c.cps.toList h
def Ht {a b:Str}(h:C6 a b=true):C6 b a=false:=by
 cases e:C6 b a with
 | false=>rfl
 | true =>
  have h1:=strKind.trans a.cps.toList b.cps.toList a.cps.toList h e;have h2:=strKind.irrefl a.cps.toList;rw [h2] at h1;cases h1
def Ep {a b:Str}(h:C6 a b=false)(k:C6 b a=false):a=b:=by
 have:=strKind.total a.cps.toList b.cps.toList h k;cases a with
 | mk x=>cases b with
  | mk y=>rw [show x=y from Array.toList_inj.mp this]
def Ko (a:Str):C6 a a=false:=strKind.irrefl a.cps.toList
def yI {h:Heap}{a:Addr}{o:HO}(x:bO P w H h a o):∃u,h.get? a=some u:=by
 cases o with
 | lst xs=>obtain⟨_,_,_,_,e⟩:=x;exact⟨_,e⟩
 | tup xs=>obtain⟨_,_,_,ob,e,_⟩:=x;exact⟨_,e⟩
 | dK kvs=>obtain⟨_,_,_,_,o,_,_,e,_⟩:=x;exact⟨_,e⟩
 | dT kvs=>obtain⟨_,_,_,_,o,_,_,e,_⟩:=x;exact⟨_,e⟩
 | set S n=>obtain⟨o,_,_,_,e,_⟩:=x;exact⟨_,e⟩
 | ins C dx fs=>obtain⟨_,_,_,e,_⟩:=x;exact⟨_,e⟩
 | own y=>obtain⟨_,e⟩:=x;exact⟨_,e⟩
 | xd fs=>obtain⟨_,⟨_,_,_,e,_⟩,_⟩:=x;exact⟨_,e⟩
 | Gk lo hi=>obtain⟨_,_,_,e⟩:=x;exact⟨_,e⟩
 | g9 ob u=>obtain⟨e,_⟩:=x;exact⟨_,e⟩
 | tM ps=>exact⟨_,(show h.get? a=some _ from x)⟩
 | met f y=>exact⟨_,(show h.get? a=some _ from x)⟩
 | ext φ=>obtain⟨_,⟨_,e⟩,_⟩:=x;exact⟨_,e⟩
def Ii (ts:z0p) (i:Nat)(h:i < ts.length):(218).getD i Value.none=Value.ref (ts.getD i 0):=by
 simp [List.getD,h]
theorem kZ:∀{ts:z0p}{aK:z0m},bh (155) aK->aK=218
 | [],[],_=>rfl
 | t::r,u::aK,h=>by
  cases h with
  | cons a b =>
   cases (show u=Value.ref t from a);rw [kZ b];rfl
theorem kS:∀(ts:z0p),bh (155) (218)
 | []=>.nil
 | t::r=>.cons rfl (kS r)
open PySem PySem.Spec PyProof.Rows PySem.W
section
variable {P:Program}{w:World}{A:Around}{E:z0b}{s:Shared}
def HF {f c' c d:Addr}{scope:Scope}{cl:z0f}{xs xh:Str}{t:Tok}{u:Value}{oc:Obj}
  (RP:A.depth < recursionLimit)(nl:s.heap.NoLimit)(hf:s.heap.get? f=some (kla_obj "<lambda>" q params (.Subscript (.Name xs p1) (.Name xh p2) p3) scope cl pm c' fI))(hc:s.heap.CodeRec (.ref c') q)
  (hb:∀us:z0m,us.length=1->bindArgs (kla_fn "<lambda>" q params (.Subscript (.Name xs p1) (.Name xh p2) p3) scope cl pm (.ref c') fI) ⟨us,[]⟩=pure ([xh].zip us))
  (hk:scope.kind=.function)(XS:scope.isCoroutine=false)(N6:scope.isGenerator=false)(Xw:∀x∈scope.names,x.2≠.cell)(hh:scope.names.lookup xh=some .local)(hs:scope.names.lookup xs=some .free)
  (mT:cl.lookup xs=some c)(ho:s.heap.get? c=some oc)(zX:oc.data=.cell (some (.ref d)))(dd:s.heap.DictOf (aI P w) d vs)(hv:valueAt vs 153=some u)
  (d1:(xs == ("__debug__":Str))=false)(d2:(xh == ("__debug__":Str))=false)(d3:(xs == ("__classdict__":Str))=false)
  (h:∀h' tk,(∀b o,160->h'.get? b=85)->Q u { s with heap:=h',toks:=tk }):wpAny 163 A (call (.ref f) [.str z t]) Q E s:=by
 refine jS (kla_callFunE RP hf rfl XS N6 rfl hc ?_);rw [hb [.str z t] rfl];refine ax (wpAny_newFunctionEnv Xw (λx hx=>?_) (λh₁ mN Pp=>⟨nl.fresh _ Pp,?_⟩) hk)
 .have:x=(xh,Value.str z t):=by simpa using hx
  rw [this];exact hh
 show codeAny _ _ (.expr (.Subscript (.Name xs p1) (.Name xh p2) p3) (envX q scope s.heap.objs.size f (.ref c') cl)) _ _;have k1:∀b o,160->h₁.get? b=85:=λb o e=>Pp.extBut b o (aR (aP e)) (a0 _ e);refine kla_codeExpr (Cr PySem.F.slot_dict_getitem.lookup 152 ?_);refine wpAny_Name (wpAny_loadName_free hk hs mT ⟨oc,k1 _ _ ho,zX⟩ ?_ d3) d1;refine wpAny_Name (vC hk hh mN (show ([(xh,Value.str z t)]:z0d).reverse.lookup xh=some (.str z t) by simp [List.lookup]) ?_) d2;have dd1:h₁.DictOf (aI P w) d vs:=by
  obtain⟨o,es,ep,g,r⟩:=dd;exact⟨o,es,ep,k1 _ _ g,r⟩
 refine⟨dd1.typeIs,wpAny_getItem_of (kF (k:=136) ⟨t,rfl⟩) dd1.mapOf hv ?_⟩;exact h h₁ _ k1
end
section
variable {X:Cx}{params:Arguments}{body:Expr}{scope:Scope}{pos:Pos}{c T:Addr}
abbrev iF (X:Cx)(params:Arguments)(body:Expr)(scope:Scope)(cl:z0f)(c':Addr)(fI:Value):Obj:=kla_obj "<lambda>" 440 params body scope cl ((X.mg "__name__").getD .none) c' fI
def Qt (X:Cx)(params:Arguments)(body:Expr)(scope:Scope)(pos:Pos)(T:Addr):TE:=λσ H Q=>Tab T pos 440 H /\
 ∀f c' fI cl H',Li X.env scope cl->eZ T H H'->Tab T pos 440 H'->H f=none->H' f=some (o7 f (iF X params body scope cl c' fI))->H' c'=some (jI c' 440)->Q (.ref f) H'
def JY (r_:X.env.code=.ref c)(hC:codeHdIn X.K c T=true)(hB:tL X.mg X.base)(nY:∀y,(y,NameKind.free)∈scope.names->X.env.scope.names.lookup y=some .cell)(Ia:defaultsOf params X.env=([],[]):=by rfl):PE X (.Lambda params body scope pos) (Qt X params body scope pos T):=by
 intro ah s σ H Q I h;obtain⟨⟨ps,hT,ht,Ic⟩,q⟩:=h;refine kla_eval Ia ?_;obtain⟨cl,mT⟩:=xN (env:=X.env) (scope:=scope) λy hy=>I.ok.has y (.inl (nY y hy));have Oe:s.heap.get? T=some (tabObj ps):=(show bO X.prog X.w H s.heap T (.tM ps) from I.bI T _ hT);have hg:=I.mod.glob.keeps I.bk;have C:=codeHd_of_K I.xp hC;obtain⟨bm,ob,b1,b2,b3,b4,b5,b6,b7⟩:=hB;have Y8:=I.bk _ _ b4;have Wt:bm≠T:=λz=>by
  have:=(I.bs _ _ b4).2;rw [z,hT] at this;cases this
 have Wn:mainGlobals≠T:=λz=>by
  obtain⟨o,es,ep,e,d,_⟩:=hg;rw [z,Oe] at e;cases e;cases d
 have Ss:s.heap.BuiltinsAt X.mg T:=⟨bm,ob,b1,b2,b3,Wt,Y8,b5,b6,b7⟩;have Ji:∀b v,H b=some v->b < s.heap.objs.size:=λb v e=>I.bI.lt e;rcases Ic with RY | ⟨c',hf,kI⟩
 .refine kla_makeFunction mT.eq I.ok.glob hg r_ C Oe ht RY Wn Ss λc' fI h' tk hx Dd gR HS RK=>?_;have hcr:∃oc,h'.get? c'=some oc:=by
   obtain⟨c2,oc,vs,t,e,zX,_⟩:=HS;cases e;exact⟨oc,zX⟩
  have rZ:h'.objs.size > s.heap.objs.size:=iu Dd gR;have keep:∀b o,b≠T->160->(h'.push (iF X params body scope cl c' fI)).get? b=85:=λb o n e=>a0 _ (hx b o n e)
  let H':Hp:=upd (upd (upd H T (.tM (ps++#[rawInt pos.line,rawInt pos.col,.ref c']))) c' (jI c' 440)) h'.objs.size (o7 h'.objs.size (iF X params body scope cl c' fI))
  have Bi:∀b v,H b=some v->b≠c'/\b≠h'.objs.size:=λb v e=>⟨aR (eU (Ji b v e) Dd),aR (iK (Ji b v e) rZ)⟩;have Ws:c'≠h'.objs.size:=aR gR;have Ra:=Bi T _ hT;have eT:H' T=some (.tM (ps++#[rawInt pos.line,rawInt pos.col,.ref c'])):=by
   show upd (upd (upd H T _) c' _) h'.objs.size _ T=_;rw [ai Ra.2,ai Ra.1,ae]
  have ec:H' c'=some (jI c' 440):=by
   show upd (upd (upd H T _) c' _) h'.objs.size _ c'=_;rw [ai Ws,ae]
  have ef:H' h'.objs.size=some (o7 h'.objs.size (iF X params body scope cl c' fI)):=ae;have eo:∀b,b≠T->b≠c'->b≠h'.objs.size->H' b=H b:=λb n1 n2 n3=>by
   show upd (upd (upd H T _) c' _) h'.objs.size _ b=_;rw [ai n3,ai n2,ai n1]
  have sT:eZ T H H':=λb o n e=>by rw [eo b n (Bi b o e).1 (Bi b o e).2];exact e
  have I2:Inv X ah σ H' { s with heap:=h'.push (iF X params body scope cl c' fI),toks:=tk }:=by
   refine I.call (g':=s.gens) (t':=tk) (d':=s.drawn) (ch:=[]) ⟨λb o e n _ _=>keep b o (λz=>by rw [z,hT] at n;cases n) e,λb o e n _ _=>⟨o.slots,keep b o (λz=>by rw [z,hT] at n;cases n) e⟩,λb o e n _=>?_,λb o e _=>?_,λb xs e=>?_,λb o u e=>?_,λb V4 e=>?_⟩ (λb v e=>?_) I.bare (λb hb=>nomatch hb)
   .have lb:=aP e;rw [eo b (λz=>by rw [z,hT] at n;cases n) (aR (eU lb Dd)) (aR (iK lb rZ))];exact n
   .by_cases z:b=T
    .exact⟨_,by rw [z];exact a0 _ RK⟩
    exact⟨o,keep b o z e⟩
   .exact sT b _ (λz=>by rw [z,hT] at e;cases e) e
   .exact sT b _ (λz=>by rw [z,hT] at e;cases e) e
   .by_cases z:b=T
    .subst z;rw [hT] at e;cases e;exact⟨_,eT⟩
    exact⟨#[],by rw [Array.append_empty];exact sT b _ z e⟩
   by_cases z1:b=h'.objs.size
   .subst z1;rw [ef] at e;cases e;exact qw (bB _ rfl)
   by_cases z2:b=c'
   .subst z2;rw [ec] at e;cases e;refine zB ?_;obtain⟨c2,oc,vs,t,e',zX,hd,hv⟩:=HS;cases e';exact⟨_,oc,vs,t,rfl,a0 _ zX,hd,hv⟩
   by_cases z3:b=T
   .subst z3;rw [eT] at e;cases e;exact a0 _ RK
   rw [eo b z3 z2 z1] at e;refine(I.bI b v e).jJ (λd o EH e'=>?_) (λd e'=>sT d _ (λz=>by rw [z,hT] at e';cases e') e') λd ys e'=>sT d _ (λz=>by rw [z,hT] at e';cases e') e';rcases EH with rfl | EH
   .exact keep d o z3 e'
   exact keep d o (λz=>by rw [z,hT] at EH;cases EH) e'
  have fresh:H h'.objs.size=none:=I.bI.fresh (iJ rZ);exact⟨.ref h'.objs.size,H',I2,rfl,q _ c' fI cl H' mT sT ⟨_,eT,by rw [vD];exact jt _ ht,.inr ⟨c',by rw [vD];exact codeAmong_snoc _ ht RY,ec⟩⟩ fresh ef ec⟩
 refine kla_makeFunctionHit mT.eq I.ok.glob hg r_ C Oe ht hf Ss λfI h' tk hk hsz=>?_;have keep:∀b o,160->(h'.push (iF X params body scope cl c' fI)).get? b=85:=λb o e=>a0 _ (hk b o e);have fresh:H h'.objs.size=none:=I.bI.fresh hsz;refine⟨.ref h'.objs.size,_,I.laid (a:=h'.objs.size) (o:=o7 h'.objs.size (iF X params body scope cl c' fI)) (t':=tk) keep hsz (qw (bB _ rfl)),rfl,?_⟩;refine q _ c' fI cl _ mT (λb o _ e=>by rw [ai (ay e fresh)];exact e) ⟨ps,by rw [ai (ay hT fresh)];exact hT,ht,.inr ⟨c',hf,by rw [ai (ay kI fresh)];exact kI⟩⟩ fresh ae (by rw [ai (ay kI fresh)];exact kI)
end
theorem Ct:∀{zs:z0s}{aK:z0m},bh (zs.map V.str) aK->∀(i:Nat)(v:Value),aK[i]?=some v->∃z t,zs[i]?=some z/\v=.str z t
 | [],[],_,i,v,h=>by simp at h
 | z::r,u::aK,h,i,v,hi=>by
  cases h with
  | cons a b =>
   cases i with
   | zero =>
    cases hi;obtain⟨t,e⟩:=(show ∃t,u=Value.str z t from a);exact⟨z,t,rfl,e⟩
   | succ i=>exact Ct b i v hi
theorem ux:∀(ps:List (Str×Tok)),bh ((ps.map 84).map V.str) (ps.map λp=>Value.str p.1 p.2)
 | []=>.nil
 | p::r=>.cons ⟨p.2,rfl⟩ (ux r)
theorem uy:∀{zs:z0s}{aK:z0m},bh (zs.map V.str) aK->∃ps:List (Str×Tok),ps.map 84=zs/\aK=ps.map λp=>Value.str p.1 p.2
 | [],[],_=>⟨[],rfl,rfl⟩
 | z::r,u::aK,h=>by
  cases h with
  | cons a b =>
   obtain⟨t,e⟩:=(show ∃t,u=Value.str z t from a);obtain⟨ps,e1,e2⟩:=uy b;exact⟨(z,t)::ps,by rw [bY,e1],by rw [bY,e2,e]⟩
def AU {α β:Type}{f:α->β}{l m:List β}(h:l.Perm m):∀ps:List α,m=ps.map f->∃qs:List α,l=qs.map f/\qs.Perm ps:=by
 induction h with
 | nil =>
  intro ps e;cases ps with
  | nil=>exact⟨[],rfl,.nil⟩
  | cons p r=>cases e
 | cons x h ih =>
  intro ps e;cases ps with
  | nil=>cases e
  | cons p r =>
   rw [bY] at e;injection e with e1 e2;obtain⟨qs,a,b⟩:=ih r e2;exact⟨p::qs,by rw [bY,a,e1],b.cons p⟩
 | swap x y l =>
  intro ps e
  match ps,e with
  | [],e=>cases e
  | [_],e=>cases e
  | p::p2::r,e =>
   rw [bY,bY] at e;injection e with e1 e2;injection e2 with e3 e4;exact⟨p2::p::r,by rw [bY,bY,e1,e3,e4],.swap p p2 r⟩
 | trans h1 h2 i1 i2 =>
  intro ps e;obtain⟨qs,a,b⟩:=i2 ps e;obtain⟨rs,c,d⟩:=i1 qs a;exact⟨rs,c,d.trans b⟩
def GY {g:Str->Int}{ps:List (Str×Tok)}(h:KskOut false ((ps.map 84).map g) (ps.map λp=>Value.str p.1 p.2) out) :
  ∃qs:List (Str×Tok),out=qs.map (λp=>Value.str p.1 p.2)/\(qs.map 84).Perm (ps.map 84)/\(qs.map 84).Pairwise λx y=>g x<=g y:=by
 obtain⟨rs,h1,h2,h3⟩:=h;have ez:((ps.map 84).map g).zip (ps.map λp=>Value.str p.1 p.2)=ps.map λp=>(g p.1,Value.str p.1 p.2):=by
  rw [fj,List.zip_map,List.zip_eq_zipWith]
  induction ps with
  | nil=>rfl
  | cons p r ih=>simp_all
 rw [ez] at h1;obtain⟨qs,q1,q2⟩:∃qs:List (Str×Tok),rs=qs.map (λp=>(g p.1,Value.str p.1 p.2))/\qs.Perm ps:=by
  exact AU h1 ps rfl
 subst q1;refine⟨qs,by rw [h2,fj];rfl,q2.map _,?_⟩;rw [j3] at h3 ⊢;exact h3.imp λh=>by simpa using h
section
variable {X:Cx}{i:Nat}{xs xh:Str}{params:Arguments}{scope:Scope}{p pos Bj kp p1 p2 p3:Pos}{e:Expr}{ta:TA}{c T:Addr}{k:Nat}
abbrev Dv (xs xh:Str)(p1 p2 p3:Pos):Expr:=.Subscript (.Name xs p1) (.Name xh p2) p3
def MN (X:Cx) (i:Nat)(Bj:Pos)(T:Addr)(ta:TA):TE:=λσ H Q=>ta σ H λvs H1=>Tab T Bj 440 H1/\∃(a:Addr) (zs:z0s)(d:Addr)(kvs:139)(g:Str->Int),vs=[.ref a]/\aJ X.K H1 a (zs.map V.str)/\zs.length < 64/\σ[i]?=some (some (.ref d))/\Rd H1 d (.dK kvs) /\
 (∀z∈zs,aT kvs 153=some (.int (g z)))/\∀(l:Addr) (cf:z0s)(H':Hp),eZ T H1 H'->Tab T Bj 440 H'->H1 l=none->cf.Perm zs->cf.Pairwise (λx y=>g x<=g y)->H' l=some (.lst (cf.map V.str))->Q (.ref l) H'
def Gz (hr:fA (k+1) X.A)(r_:X.env.code=.ref c)(hC:codeHdIn X.K c T=true)(hB:tL X.mg X.base)(hg:Gl X "sorted")(hm:X.mg "sorted"=none)(ha:PA X [e] ta)
  (hN:X.N[i]?=some xs)(hx:X.env.scope.names.lookup xs=some .cell)(nY:∀y,(y,NameKind.free)∈scope.names->X.env.scope.names.lookup y=some .cell)
  (hb:∀(q:Str)(cl:z0f)(pm fI:Value)(c':Addr)(us:z0m),us.length=1->bindArgs (kla_fn "<lambda>" q params (Dv xs xh p1 p2 p3) scope cl pm (.ref c') fI) ⟨us,[]⟩=pure ([xh].zip us))
  (hk:scope.kind=.function)(XS:scope.isCoroutine=false)(N6:scope.isGenerator=false)(Xw:∀x∈scope.names,x.2≠.cell)(hh:scope.names.lookup xh=some .local)(hs:scope.names.lookup xs=some .free)
  (d1:(xs == ("__debug__":Str))=false:=by decide)(d2:(xh == ("__debug__":Str))=false:=by decide)(d3:(xs == ("__classdict__":Str))=false:=by decide)
  (Ia:defaultsOf params X.env=([],[]):=by rfl)
  (he:backTo pos (starEach [e] X.env)=(false,eval e X.env)::backTo pos (starEach [] X.env):=by rfl)(hp:(backTo pos (starEach [e] X.env)).any 84=false:=by rfl) :
  PE X (.Call (.Name "sorted" p) [e] [⟨some "key",.Lambda params (Dv xs xh p1 p2 p3) scope Bj,kp⟩] pos) (MN X i Bj T ta):=by
 intro ah s σ H Q I h;refine mW (ir I hg hm boot_sorted ?_);refine callWith_kw 460 he hp rfl rfl;obtain⟨vs,H1,I1,r1,KQ,a,zs,d,kvs,g,ev,hq,Jq,hσ,hd,hv,q1⟩:=aW;subst ev;have low:=JY (X:=X) (params:=params) (body:=Dv xs xh p1 p2 p3) (scope:=scope) (pos:=Bj) (c:=c) (T:=T) r_ hC hB nY Ia ah s1 σ H1
  (λfv H2=>∃f c' fI cl,fv=.ref f/\Li X.env scope cl/\eZ T H1 H2/\Tab T Bj 440 H2/\H2 f=some (o7 f (iF X params (Dv xs xh p1 p2 p3) scope cl c' fI))/\H2 c'=some (jI c' 440)) I1
  ⟨KQ,λf c' fI cl H' a1 a2 a3 a4 a5 a6=>⟨f,c',fI,cl,rfl,a1,a2,a3,a5,a6⟩⟩
 refine kws_cons (cM low λu2 s2 aW=>?_);obtain⟨fv,H2,I2,r2,f,c',fI,cl,ef,mT,st,KP,hf,kI⟩:=aW;refine kws_nil ?_;subst ef;cases (show u2=Value.ref f from r2);obtain⟨u,rfl,rx⟩:=vals1 r1;cases (show u=Value.ref a from rx);obtain⟨pt,eT,_⟩:=id KQ;have hq2:aJ X.K H2 a (zs.map V.str):=by
  rcases hq with (h | ⟨o,h⟩) | h
  .exact .inl (.inl (st _ _ (λz=>by rw [z,eT] at h;cases h) h))
  .exact .inl (.inr ⟨o,st _ _ (λz=>by rw [z,eT] at h;cases h) h⟩)
  exact .inr h
 have hd2:Rd H2 d (.dK kvs):=by
  rcases hd with h | ⟨o,h⟩
  .exact .inl (st _ _ (λz=>by rw [z,eT] at h;cases h) h)
  exact .inr ⟨o,st _ _ (λz=>by rw [z,eT] at h;cases h) h⟩
 obtain⟨aK,rv,pl,hz⟩:=I2.list hq2;obtain⟨pzs,ez,ei⟩:=uy rv;have tW:=pl.isList;obtain⟨oa,ga,ca,na,da⟩:=id tW;obtain⟨m,mN,lk⟩:=id I2.loc;have Kj:∀b o,H2 b=85->b≠X.env.locals:=λb o hb z=>by rw [z,I2.free] at hb;cases hb
 have Q5:d≠X.env.locals:=by
  rcases hd2 with h | ⟨o,h⟩
  .exact Kj d _ h
  exact Kj d _ h
 have neA:a≠X.env.locals:=λz=>by
  obtain⟨o,es,ep,ho,qc,_⟩:=mN;rw [<-z,ga] at ho;cases ho;rw [da] at qc;cases qc
 obtain⟨ud,rd,lkd⟩:=lk i xs (.ref d) hN hσ (.inr (.inl hx));cases (show ud=Value.ref d from rd);obtain⟨cc,ecc,oc,RW,RV⟩:∃cc,X.env.cells.lookup xs=some cc/\s2.heap.IsCell cc (some (.ref d)):=by
  rcases lkd with ⟨l,_⟩ | ⟨_,c2,e2,h2⟩
  .have l':X.env.scope.names.lookup xs=some .local:=l;rw [hx] at l';cases l'
  exact⟨c2,e2,h2⟩
 obtain⟨cc',ecl⟩:=mT.all xs (xc hs);have e3:=mT.sub _ _ ecl;rw [ecc] at e3;cases e3;have Ph:cc≠X.env.locals:=λz=>by
  obtain⟨o,es,ep,ho,qc,_⟩:=mN;rw [<-z,RW] at ho;cases ho;rw [RV] at qc;cases qc
 obtain⟨gf,_⟩:=I2.bI f _ hf;obtain⟨gc,_⟩:=I2.bI c' _ kI;obtain⟨zl,hsm,dvs,rel,dd⟩:=lY I2.bI hd2;obtain⟨m0,F0⟩:=I2.fr;refine ksk_sorted (kz:=zs.map g) (f:=.ref f) (b:=false) (vs:=aK) (h₀:=vm.o6 s2.heap) (L:=X.env.locals) (m:=m) (news:=(a,oa)::vm.ledger s2.heap X.env.locals a) (vm.Im mN) (vm.pO neA ga) tW (by rw [aA,<-rv.length,aA]) (by rw [<-rv.length,aA];exact Jq)
  (ksk_s1 _ _) (λx=>ksk_l1 _ _) (λx=>ksk_t1 f x) (λj v kk hj hkk EB tk own F N=>?_) λD h' tk out cnt F' N' lt' ko=>?_
 .obtain⟨z,t,U5,rfl⟩:=Ct rv j v hj;rw [aS,U5] at hkk;cases hkk;have keep:∀b u,b≠X.env.locals->s2.heap.get? b=some u->EB.get? b=some u:=λb u nb hb=>by
   by_cases e:b=a
   .subst e;rw [ga] at hb;cases hb;exact(N (b,oa) 88).1
   exact(N (b,u) (mX _ (b9 _ (vm.eI.mpr ⟨nb,e,hb⟩)))).1
  have hvz:=hv z (bE U5);obtain⟨w',hw,wM⟩:=jB.some_of (v:=.int (g z)) (o:=valueAt dvs 153) (by rw [<-hvz];exact rel.val 153);obtain⟨tw,rfl⟩:=(show ∃t,w'=Value.int (g z) t from wM);have P4:EB.DictOf (aI X.prog X.w) d dvs:=by
   obtain⟨o,es,ep,g1,r⟩:=dd;exact⟨o,es,ep,keep _ _ Q5 g1,r⟩
  have gc2:EB.CodeRec (.ref c') 440:=by
   obtain⟨c2,oc2,ZE,t2,e2,zX,iQ,Kz⟩:=gc;cases e2;exact⟨_,oc2,ZE,t2,rfl,keep _ _ (Kj c' _ kI) zX,iQ,Kz⟩
  have nl:EB.NoLimit:=I2.mod.nolimit.keeps λb o e=>keep b o (aR (eU (aP e) F0.above)) (I2.bk b o e);exact HF (s:={ s2 with heap:=EB,toks:=tk }) (A:=X.A.in1.in1) hr.depth nl (keep _ _ (Kj f _ hf) gf) gc2 (λus hl=>hb _ _ _ _ _ us hl) hk XS N6 Xw hh hs ecl (keep _ _ Ph RW) RV P4 hw d1 d2 d3
   λh3 DN kk3=>KskEnd.intro (F.kept kk3) (N.grown kk3) λp hp=>hp
 have keep:∀b u,b≠X.env.locals->s2.heap.get? b=some u->h'.get? b=some u:=λb u nb hb=>by
  by_cases e:b=a
  .subst e;rw [ga] at hb;cases hb;exact(N' (b,oa) 88).1
  exact(N' (b,u) (b9 _ (b9 _ (vm.eI.mpr ⟨nb,e,hb⟩)))).1
 have hD:s2.heap.get? D=none:=by
  cases e:s2.heap.get? D with
  | none=>rfl
  | some o =>
   exfalso;have nD:D≠X.env.locals:=(N' (D,_) bP).2.1;by_cases ea:D=a
   .have:=lt' (a,oa) bP;rw [ea] at this;exact absurd this (iV _)
   exact absurd (lt' (D,o) (b9 _ (vm.eI.mpr ⟨nD,ea,e⟩))) (iV _)
 have fD:H2 D=none:=by
  cases e:H2 D with
  | none=>rfl
  | some u =>
   obtain⟨ob,g⟩:=yI (I2.bI D u e);rw [hD] at g;cases g
 have fD1:H1 D=none:=by
  cases e:H1 D with
  | none=>rfl
  | some u =>
   by_cases z:D=T
   .obtain⟨pt2,eT2,_⟩:=KP;rw [z,eT2] at fD;cases fD
   rw [st _ _ z e] at fD;cases fD
 rw [ei,<-ez] at ko;obtain⟨qs,eo,pe,ps⟩:=GY ko;rw [ez] at pe;have gD:=(N' (D,_) bP).1;have lq:qs.length=zs.length:=by have:=pe.length_eq;rw [aA] at this;exact this
 have sl:=ag fD (.lst ((qs.map 84).map V.str));refine⟨.ref D,_,I2.C8 (t':=tk) keep (λm' hm=>?_) hD fD (show bO X.prog X.w _ _ _ (.lst ((qs.map 84).map V.str)) from ⟨by rw [aA,aA];exact fits ∅,qs.map (λp=>Value.str p.1 p.2),cnt,ux qs,by rw [<-eo];simpa using gD⟩),rfl,q1 D (qs.map 84) _ (λb o n hb=>sl _ _ (st b o n hb)) ?_ fD1 pe ps ae⟩
 .have:=F'.ns;have e:m'=m:=by
   obtain⟨o,es,ep,ho,qc,_,hf⟩:=hm;obtain⟨o2,SF,PU,qz,r9,_,H_⟩:=mN;rw [ho] at qz;cases qz;rw [qc] at r9;cases r9
   funext x
   rw [<-hf x,<-H_ x]
  rw [e];exact this
 obtain⟨Ue,b1,b2,b3⟩:=KP;refine⟨Ue,sl _ _ b1,b2,b3.imp id λaW=>?_⟩;obtain⟨c3,e3,g3⟩:=aW;exact⟨c3,e3,sl _ _ g3⟩
end
open PySem M11
def BX {K:aU}{H:Hp}{p D d:Addr}{zs:z0s}{kvs:139}{g:G}{σ:St}{js:z0i}{Qp:143}(hσ:eF ["part"] js σ=[none,a7 d])(hp:aQ K H p (zs.map V.str))(hz:zs.length<=1000)
  (hd:Rd H d (.dK kvs))(hv:∀z,aT kvs 153=(g z).map V.int)(ha:∀z∈zs,(g z).isSome=true)(hD:H D=none)(q:∀H2,aF H H2->H2 D=some (.lst ((zs.map λz=>(g z).getD 0).map V.int))->Qp H2) :
  ∃W:370,(∃m,W 0 m [] (eF ["part"] js σ) 237) /\
 ∀i m ys σ' H,W i m ys σ' H->((tF K p).stop i H/\Qp H)\/((tF K p).go i H/\∃m',m' < m/\∀x H',(tF K p).oR i H x H'->eB 0 x σ' H' λσ2 H2=>i3 σ2 H2 λb H3 =>
  if b=true then Co (gH 1) (gH 0) σ2 H3 323 else W (i+1) m' ys σ2 H3):=by
 refine hJ (xs:=zs.map V.str) (λi ys σ2 H2=>ys=(((zs.take i).map λz=>(g z).getD 0).map V.int)/\(∃y0,σ2=[y0,a7 d])/\449)
  ⟨rfl,⟨none,hσ⟩,ag hD _,ae⟩ (λi ys σ2 H2 _ h=>h.2.2.1.tup hp) (λi x ys σ2 H2 ex h=>?_) (λys σ2 H2 h=>?_)
 .obtain⟨rfl,⟨y0,rfl⟩,sm,hd2⟩:=h;rw [aS] at ex;obtain⟨z,ez,rfl⟩:=bQ.mp ex;have li:=(bw.mp ez).1;obtain⟨n,en⟩:=lQ.mp (ha z (bE ez));have hg:cb H2 d (.str z) (some (.int n)):=by
   have:=cb.r (k:=136) (gM.Rd.same hd sm);rw [hv,en] at this;exact this
  refine goN (BA ?_);refine⟨_,rfl,_,rfl,d,_,rfl,hg,hd2,bF (by rw [aA,aA,dB];omega),?_,⟨_,rfl⟩,?_,ae⟩
  .rw [d7,ez,bC,bC];show _=_++[V.int ((g z).getD 0)];rw [en];rfl
  intro b o hb;rw [450];exact sm b o hb
 obtain⟨rfl,_,sm,hd2⟩:=h;rw [aA,cE] at hd2;exact q H2 sm hd2
end L2
namespace gM
open PySem L2 M11
section
def rg (K:aU):Sp:=λvs H Q _=>∃(d r:Addr)(kvs:139)(g:G)(ru:aB),vs=[.ref d,.ref r]/\Rd H d (.dK kvs)/\(∀z,aT kvs 153=(g z).map V.int)/\zN K H r ru/\ru.2.length<=8/\(∀z∈ru.2,(g z).isSome=true)/\∀H',aF H H'->Q (.int (aO g ru)) H'
def Ay:aN ["sizes","rule"] ["sizes","rule"] (az oW):=185
def yK (F:iU K "rule_size" "rule_size" oW f fd)(T:Txt mg):bS P w K mg base fC 1 f fd ["sizes","rule"] (rg K):=by
 refine F.ok Ay 198 217
 .obtain⟨d,r,kvs,g,ru,rfl,_⟩:=h;rfl
 obtain⟨d,r,kvs,g,ru,rfl,hd,hv,⟨p,v1,v2⟩,h8,al,q⟩:=h;have hu:=eJ hr;refine⟨_,av (bp (cC mE aC (bL (u4 rfl) rfl T.sum PyProof.Rows.boot_sum (af (bK ["part"] [(0,"sizes")] rfl (gO (aY bR (pv 1) aC 152)) (bf rfl rfl) nofun rfl nofun
   (λ_ _ _ _ _=>aw (i:=0) (show (["part","sizes"]:z0s).Nodup by decide +kernel) rfl 86) (λ_ _ _ _ _=>cQ) (λ_ _ _ _ _=>dO hu (pv 1) (pv 0) 152)) aq)))),?_⟩
 dsimp only [lF];refine⟨_,rfl,r,_,_,_,rfl,rfl,v1,rfl,p,rfl,⟨_,v2⟩,λD hD=>BX (g:=g) rfl v2 ∅ hd hv al hD λH2 s2 e2=>?_⟩;refine⟨D,_,rfl,aJ.of e2,_,_,rfl,rfl,?_⟩;exact q H2 s2
end
end gM
namespace M11
open PySem
def x9.at_ {aa:87}{a_:z0h}(h:x9 aa a_):∀(i:Nat)(x:Str) (k:Nat),a_[i]?=some (x,k)->∃rJ,aa[k]?=some (x,rJ)/\∀p∈rJ,p∈(a_.take i).map 84:=by
 induction h with
 | nil=>intro i x k e;simp at e
 | @snoc a_ k2 ru h e n p ih =>
  intro i x k ei;by_cases hi:i < a_.length
  .rw [vX hi] at ei;obtain⟨rJ,a,b⟩:=ih i x k ei;exact⟨rJ,a,λq hq=>by rw [List.take_append_of_le_length (iJ hi)];exact b q hq⟩
  have li:=(bw.mp ei).1;rw [bH,lO] at li;have e2:i=a_.length:=by omega
  subst e2;rw [qW (aH _),Nat.sub_self] at ei;cases ei;exact⟨ru.2,e,λq hq=>by rw [List.take_left'];exact p q hq;rfl⟩
end M11
namespace gM
open PySem L2 M11
section
def sQ {H:Hp}{p D d:Addr}{zs:z0s}{kvs:139}{σ:St}{js:z0i}{Qp:143}(hσ:eF ["part"] js σ=[none,a7 d])(hp:aQ K H p (zs.map V.str))(hz:zs.length<=1000)
  (hd:H d=184)(ha:∀z∈zs,(136:aL)∈kvs.map 84)(hD:H D=none)(q:∀ys H2,ys.length=zs.length->aF H H2->H2 D=some (.lst ys)->Qp H2) :
  ∃W:370,(∃m,W 0 m [] (eF ["part"] js σ) 237) /\
 ∀i m ys σ' H,W i m ys σ' H->((tF K p).stop i H/\Qp H)\/((tF K p).go i H/\∃m',m' < m/\∀x H',(tF K p).oR i H x H'->eB 0 x σ' H' λσ2 H2=>i3 σ2 H2 λb H3 =>
  if b=true then Co (gH 1) (gH 0) σ2 H3 323 else W (i+1) m' ys σ2 H3):=by
 refine hJ (xs:=zs.map V.str) (λi ys σ2 H2=>ys.length=i/\(∃y0,σ2=[y0,a7 d])/\449)
  ⟨rfl,⟨none,hσ⟩,ag hD _,ae⟩ (λi ys σ2 H2 _ h=>h.2.2.1.tup hp) (λi x ys σ2 H2 ex h=>?_) (λys σ2 H2 h=>?_)
 .obtain⟨rfl,⟨y0,rfl⟩,sm,hd2⟩:=h;rw [aS] at ex;obtain⟨z,ez,rfl⟩:=bQ.mp ex;have li:=(bw.mp ez).1;obtain⟨v,ev⟩:=lQ.mp ((d_ kvs 153).mpr (ha z (bE ez)));have hg:cb H2 d (.str z) (some v):=by
   have:=cb.k (k:=136) (sm _ _ hd);rw [ev] at this;exact this
  refine goN (BA ?_);refine⟨_,rfl,_,rfl,d,_,rfl,hg,hd2,bF ∅,by rw [bH];rfl,⟨_,rfl⟩,?_,ae⟩;intro b o hb;rw [450];exact sm b o hb
 obtain⟨e,_,sm,hd2⟩:=h;rw [aA] at e;exact q ys H2 e sm hd2
def uB (K:aU):Sp:=λvs H Q _=>∃(R D:Addr)(rs ts:z0p)(aa:87)(a_:z0h),vs=[.ref R,.ref D]/\aJ K H R 180/\bu K H rs aa/\aa.length<=1000/\325/\aJ K H D (155)/\pH K H ts a_/\x9 aa a_/\a_.length<=1000 /\
 ∀(d:Addr)(kvs:139)(H':Hp),H d=none->aF H H'->H' d=184->kvs.map 84=(a_.map 84).map Sum.inr->Q (.ref d) H'
def kY:aN ["rules","empties","trees","name","number"] ["rules","empties"] (az rC):=185
def A_ (F:iU K "empty_by_name" "empty_by_name" rC f fd)(T:Txt mg):bS P w K mg base fC 1 f fd ["rules","empties"] (uB K):=by
 refine F.ok kY 198 217
 .obtain⟨R,D,rs,ts,aa,a_,rfl,_⟩:=h;rfl
 obtain⟨R,D,rs,ts,aa,a_,rfl,hR,cU,bM,h8,hD,N8,Sb,xy,q⟩:=h;have hu:=eJ hr;refine⟨_,aj (aG (i:=2) kY.nd rfl (Or.inr rfl) fV)
  (aj (bJ cq rfl (aV (pv 1)) (iD (n:=2) K rfl (aE (aw (i:=3) kY.nd rfl 86) (aE (aw (i:=4) kY.nd rfl 86) bV)))
   (av (gW hu (pv 2) (pv 3) (bq (af (pv 4) (af (a8 iT rfl T.tup vU (af (bK ["part"] [(2,"trees")] rfl (gO (aY bR (aY bW (pv 0) (pv 4) 152) aC 152)) (bf rfl rfl) nofun rfl nofun
    (λ_ _ _ _ _=>aw (i:=0) (show (["part","trees"]:z0s).Nodup by decide +kernel) rfl 86) (λ_ _ _ _ _=>cQ) (λ_ _ _ _ _=>dO hu (pv 1) (pv 0) 152)) aq)) aq))) rfl)))
  (av (bp (pv 2)))),?_⟩
 nofun
 refine λd xD=>?_;have s1:=ag xD (.dK []);have e1:upd H d (.dK []) d=some (.dK []):=ae;generalize upd H d (.dK [])=H1 at s1 e1;refine goN ?_
 ac_rfl
 have lt:=a9 N8;have ll:=a9 cU;have nd:=Sb.nd
 let zO:zP:=λi σ H3=>∃(kvs:139)(y3 y4:149),σ=[a7 R,a7 D,a7 d,y3,y4]/\aF H H3/\H3 d=184/\kvs.map 84=((a_.take i).map 84).map Sum.inr
 refine⟨_,rfl,D,rfl,⟨_,s1.seq hD⟩,cO (xs:=155) zO ⟨[],_,_,rfl,s1,e1,rfl⟩ ?_ ?_ ?_⟩
 .rintro i σ H3 _ ⟨kvs,y3,y4,rfl,s3,_⟩;exact s3.seq hD
 .rintro i x σ H3 ex ⟨kvs,y3,y4,rfl,s3,ed,ek⟩
  ac_nf0
  rw [aS] at ex;obtain⟨t,et,rfl⟩:=bQ.mp ex;have li:=(bw.mp et).1;obtain⟨e,ee⟩:∃e,a_[i]?=some e:=⟨a_[i]'∅,dA ∅⟩;obtain⟨t',U0,vt⟩:=Paired.at_ N8 i e ee;rw [et] at U0;cases U0;obtain⟨x,k⟩:=e;obtain⟨rJ,hk,LW⟩:=Sb.at_ i x k ee;obtain⟨r,er,p,v1,v2⟩:=Paired.at_ cU k _ hk;have Tj:tq 180 (k:Int)=some (.ref r):=aZ (by rw [aS,er];rfl);have hp8:rJ.length<=8:=h8 _ (bE hk);refine⟨t,_,rfl,s3.tup vt,rfl,_,_,rfl,_,_,rfl,rfl,?_⟩;refine⟨_,rfl,_,rfl,_,rfl,R,_,_,_,rfl,rfl,s3.seq hR,Tj,r,_,_,_,rfl,rfl,s3.tup v1,rfl,p,rfl,⟨_,s3.tup v2⟩,λD2 ph=>sQ (zs:=rJ) rfl (s3.tup v2) ∅ ed (λz hz=>by rw [ek];exact cR.mpr (LW z hz)) ph λys H4 ly s4 e4=>?_⟩;refine⟨D2,ys,rfl,.inl ⟨aJ.of e4,λt2 Yd=>⟨kR,λEk Oo=>?_⟩⟩⟩;have k5:=(ag Yd (.tup ys)).trans (ag Oo (.tup [.int (k:Int),.ref t2]));generalize upd (upd H4 t2 (.tup ys)) Ek (.tup [.int (k:Int),.ref t2])=H5 at k5;have Fx:=k5 _ _ (s4 _ _ ed);have lkv:kvs.length=i:=by
   have:=congrArg List.length ek;rw [aA,aA,aA,dB] at this;omega
  have nx:x∉(a_.take i).map 84:=λz=>by
   obtain⟨e2,m2,q2⟩:=bD.mp z;obtain⟨j,hj⟩:=oO m2;rw [List.getElem?_take] at hj
   split at hj
   .rename_i hji
    have a1:(a_.map 84)[j]?=some x:=by rw [aS,hj];exact congrArg some q2
    have a2:(a_.map 84)[i]?=some x:=by rw [aS,ee];rfl
    have:=(List.getElem?_inj (by rw [aA];omega) nd).mp (a1.trans a2.symm);omega
   cases hj
  refine⟨_,rfl,_,rfl,d,_,rfl,.inl ⟨kvs,Sum.inr x,Fx,rfl,bF ∅,rfl⟩,?_⟩;refine⟨_,_,_,rfl,λb o hb=>?_,ae,?_⟩
  .rw [ai (λz=>by rw [z,xD] at hb;cases hb)];exact k5 _ _ (s4 _ _ (s3 b o hb))
  rw [iB (by rw [ek];exact λz=>nx (cR.mp z)),ek,d7,ee,bC,bC];rfl
 rintro σ H3 ⟨kvs,y3,y4,rfl,s3,ed,ek⟩;rw [aA,lt,cE] at ek;exact⟨_,rfl,q d kvs H3 xD s3 ed ek⟩
end
end gM
namespace M11
open PySem
def Le (g' g:G):Prop:=∀z n,g z=some n->∃m,g' z=some m/\m<=n
def zd {g:G}{ru:aB}(f:cA bl g ru=true):kQ g ru=true/\∀n,g ru.1=some n->aO g ru < n:=by
 unfold cA at f;rw [oF] at f;refine⟨f.1,λn e=>?_⟩;have:=f.2;rw [e] at this;have:(!(some n:z0n).isSome || bl (aO g ru) n)=true:=this
 simpa [bl] using this
def le_step {g:G}{ru:aB}(f:cA bl g ru=true):Le (dN g ru.1 (aO g ru)) g:=λz n e=>by
 unfold dN;by_cases c:z=ru.1
 .rw [au c];subst c;exact⟨_,rfl,Int.le_of_lt ((zd f).2 n e)⟩
 rw [ar c];exact⟨n,e,ot _⟩
theorem FZ {g g':G}(h:Le g' g):∀ps:z0s,(∀p∈ps,(g p).isSome=true)->(∀p∈ps,(g' p).isSome=true)/\(ps.map λp=>(g' p).getD 0).sum<=(ps.map λp=>(g p).getD 0).sum
 | [],_=>⟨λp hp=>(by cases hp),ot _⟩
 | p::r,a=>by
  obtain⟨h1,h2⟩:=FZ h r λq hq=>a q (b9 _ hq);obtain⟨n,en⟩:=lQ.mp (a p bP);obtain⟨m,em,lm⟩:=h p n en;refine⟨λq hq=>?_,?_⟩
  .rcases aX.mp hq with rfl | hq
   .rw [em];rfl
   exact h1 q hq
  rw [bY,bY,ox,ox,en,em];show m+_<=n+_;omega
def vj {g:G}{ru:aB}:kQ g ru=true↔∀p∈ru.2,(g p).isSome=true:=by
 unfold kQ;rw [gb]
def size_le {g g':G}(h:Le g' g)(a:kQ g ru=true):kQ g' ru=true/\aO g' ru<=aO g ru:=by
 obtain⟨h1,h2⟩:=FZ h ru.2 (vj.mp a);exact⟨vj.mpr h1,by unfold aO;omega⟩
def P6 (aa:87) (hs:z0s)(g:G):Prop:=∀h n,g h=some n->h∉hs\/∃ru∈aa,ru.1=h/\kQ g ru=true/\aO g ru<=n
def FJ {aa:87}(g:G)(ru:aB)(j:P6 aa hs g)(m:ru∈aa)(f:cA bl g ru=true):P6 aa hs (dN g ru.1 (aO g ru)):=λh n e=>by
 have le:=le_step f;by_cases c:h=ru.1
 .have e2:n=aO g ru:=by
   unfold dN at e;rw [au c] at e;exact(jE e).symm
  obtain⟨a1,a2⟩:=size_le le (zd f).1;exact .inr ⟨ru,m,c.symm,a1,∅⟩
 have e2:g h=some n:=by
  unfold dN at e;rw [ar c] at e;exact e
 rcases j h n e2 with h1 | ⟨VY,m2,q2,a2,l2⟩
 .exact .inl h1
 obtain⟨b1,b2⟩:=size_le le a2;exact .inr ⟨VY,m2,q2,b1,∅⟩
def Es {aa:87}{g0 g:G}(j0:P6 aa hs g0)(st:dM bl aa g0 g)(se:gY bl aa g){h:Str}{n:Int}(hh:h∈hs)(e:g h=some n):∃ru∈aa,ru.1=h/\kQ g ru=true/\aO g ru=n:=by
 have j:P6 aa hs g:=dM.keep (J:=P6 aa hs) (λg ru j m f=>FJ g ru j m f) st j0;rcases j h n e with z | ⟨ru,m,q,a,l⟩
 .exact absurd hh z
 refine⟨ru,m,q,a,?_⟩;have f:=se ru m;unfold cA at f;rw [a,q,e] at f;have f:(true && (!(some n:z0n).isSome || bl (aO g ru) n))=false:=f
 have f2:¬aO g ru < n:=by simpa [bl] using f
 omega
theorem C1 {g:G}(nn:NN g):∀(ps:z0s)(p:Str) (m:Int),p∈ps->g p=some m->m<=(ps.map λp=>(g p).getD 0).sum
 | q::r,p,m,hp,e=>by
  rw [bY,ox];have h1:=ju g nn r;rcases aX.mp hp with rfl | hp
  .rw [e];show m<=m+_;omega
  have h2:=C1 nn r p m hp e;have h3:0<=(g q).getD 0:=by
   cases eq:g q with
   | none=>exact ot _
   | some n=>exact nn q n eq
  omega
def D0 {g:G}(nn:NN g){ru:aB}{p:Str}{m:Int}(hp:p∈ru.2)(e:g p=some m):m < aO g ru:=by
 have:=C1 nn ru.2 p m hp e;unfold aO;omega
theorem Ce:∀(cI ps bz:z0s),(∀z∈bz,z∉cI)->∀z∈qj cI bz ps,z∉cI
 | _,[],bz,h=>h
 | cI,p::r,bz,h=>by
  show ∀z∈qj cI (addW cI bz p) r,z∉cI;refine Ce cI r _ ?_;unfold addW
  split
  .exact h
  rename_i hp
  unfold gL
  split
  .exact h
  intro z hz;rcases cD.mp hz with hz | hz
  .exact h z hz
  rw [bA.mp hz];exact hp
def wt {g:Str->Int}{zs:z0s}(h:zs.Pairwise λx y=>g x<=g y){i:Nat}{x p:Str}(e:zs[i]?=some x)(hp:p∈zs)(l:g p < g x):p∈zs.take i:=by
 obtain⟨j,ej⟩:=oO hp;obtain⟨li,ei⟩:=bw.mp e;obtain⟨lj,ej2⟩:=bw.mp ej;have hji:j < i:=by
  rcases Nat.lt_trichotomy j i with h1 | h1 | h1
  .exact h1
  .subst h1;rw [e] at ej;cases ej;omega
  have:=Ae.mp h i j li lj h1;rw [ei,ej2] at this;omega
 rw [qF];exact⟨j,by rw [List.getElem?_take,au hji];exact ej⟩
end M11
namespace gM
open PySem L2 M11
def Vp (aa:87):P6 aa (hd aa) (zY aa):=λh n e=>by
 unfold zY at e;by_cases c:h∈qj (hd aa) [] (aa.flatMap (·.2))
 .exact .inl (Ce _ _ [] (λz hz=>by cases hz) h c)
 rw [ar c] at e;cases e
def nn0 (aa:87):NN (zY aa):=λh n e=>by
 unfold zY at e;by_cases c:h∈qj (hd aa) [] (aa.flatMap (·.2))
 .rw [au c] at e;cases e;exact ot _
 rw [ar c] at e;cases e
def Nx {aa:87}{g:G}(st:dM M11.bl aa (zY aa) g):NN g:=dM.keep (J:=NN) (λg ru j m f=>wZ j ru) st (nn0 aa)
theorem Cf (cI:z0s):∀(ps bz:z0s)(x:Str),(x∈bz\/(x∈ps/\x∉cI))->x∈qj cI bz ps
 | [],bz,x,h=>by
  rcases h with h | ⟨h,_⟩
  .exact h
  cases h
 | p::r,bz,x,h=>by
  show x∈qj cI (addW cI bz p) r;apply Cf cI r;unfold addW;by_cases c:p∈cI
  .rw [au c];rcases h with h | ⟨h,n⟩
   .exact .inl h
   rcases aX.mp h with z | z
   .exact absurd (z ▸ c) n
   exact .inr ⟨z,n⟩
  rw [ar c];rcases h with h | ⟨h,n⟩
  .exact .inl ((jf _ _ _).mpr (.inl h))
  rcases aX.mp h with z | z
  .exact .inl ((jf _ _ _).mpr (.inr z))
  exact .inr ⟨z,n⟩
def QX:List Stmt->Pos
 | [_,_,_,.For _ (.Call _ _ [⟨_,.Lambda _ _ _ pos,_⟩] _) _ _ _,_]=>pos
 | _=>⟨0,0,0,0⟩
abbrev posB:Pos:=QX (cg nE)
abbrev Jl:Str := "least_by_part" ++ ".<locals>." ++ "<lambda>"
section
def oS (K:aU)(T1 T3:Addr):Sp:=λvs H Q _=>∃(R:Addr)(rs:z0p)(aa:87),vs=[.ref R]/\aJ K H R 180/\bu K H rs aa/\aa.length < 64/\325/\(∀g,dM M11.bl aa (zY aa) g->gY M11.bl aa g->∀h∈hd aa,∃n,g h=some n/\n<=60)/\Tab T1 rP.2.2.2 zW H/\Tab T3 posB Jl H/\T1≠T3 /\
 ∀(d:Addr)(kvs:139)(H':Hp),H d=none->l8 T1 T3 H H'->Tab T1 rP.2.2.2 zW H'->Tab T3 posB Jl H'->H' d=184->(∀z,z∈hd aa->(136:aL)∈kvs.map 84)->Q (.ref d) H'
structure LB (K:aU)(rs:z0p)(aa:87)(gC:139)(ps:z0f)(R dz dn T1 T3:Addr)(H5:Hp):Prop where
 hR:aJ K H5 R 180
 cU:bu K H5 rs aa
 nm:Jx ps (λn=>nums aa n aa.length) H5 dn
 rz:Rd H5 dz (.dK gC)
 t1:Tab T1 rP.2.2.2 zW H5
 t3:Tab T3 posB Jl H5
theorem LB.same {rs:z0p}{aa:87}{gC:139}{ps:z0f}{R dz dn T1 T3:Addr}(h:LB K rs aa gC ps R dz dn T1 T3 H5)(s:aF H5 H6):LB K rs aa gC ps R dz dn T1 T3 H6 :=
 ⟨s.seq h.hR,h.cU.same s,h.nm.same s,gM.Rd.same h.rz s,h.t1.same s,h.t3.same s⟩
def LB.LQ {rs:z0p}{aa:87}{gC:139}{ps:z0f}{R dz dn T1 T3 d:Addr}(h:LB K rs aa gC ps R dz dn T1 T3 H5)(e:H5 d=some (.dK kv))(n1:dn≠d)(n2:dz≠d)(s:eZ d H5 H6):LB K rs aa gC ps R dz dn T1 T3 H6:=by
 have tk:∀a xs,aQ K H5 a xs->aQ K H6 a xs:=λa xs z=>by
  rcases z with (z | ⟨u,z⟩) | z
  .exact .inl (.inl (s _ _ (λy=>by rw [y,e] at z;cases z) z))
  .exact .inl (.inr ⟨u,s _ _ (λy=>by rw [y,e] at z;cases z) z⟩)
  exact .inr z
 have tb:∀{T':Addr}{pos':Pos}{JU:Str},Tab T' pos' JU H5->Tab T' pos' JU H6:=λ{T' pos' JU} ⟨p,a,b,cc⟩=>⟨p,s _ _ (λy=>by rw [y,e] at a;cases a) a,b,cc.imp id λ⟨c',e1,e2⟩=>⟨c',e1,s _ _ (λy=>by rw [y,e] at e2;cases e2) e2⟩⟩;refine⟨?_,h.cU.keep tk,⟨s _ _ n1 h.nm.hd,h.nm.n1,h.nm.n2,λp hp=>s _ _ (λy=>by have a:=h.nm.lst p hp;rw [y,e] at a;cases a) (h.nm.lst p hp)⟩,?_,tb h.t1,tb h.t3⟩
 .rcases h.hR with (z | ⟨u,z⟩) | z
  .exact .inl (.inl (s _ _ (λy=>by rw [y,e] at z;cases z) z))
  .exact .inl (.inr ⟨u,s _ _ (λy=>by rw [y,e] at z;cases z) z⟩)
  exact .inr z
 rcases h.rz with z | ⟨u,z⟩
 .exact .inl (s _ _ n2 z)
 exact .inr ⟨u,s _ _ n2 z⟩
def LB.QH {rs:z0p}{aa:87}{gC:139}{ps:z0f}{R dz dn T1 T3:Addr}(h:LB K rs aa gC ps R dz dn T1 T3 H5)(nT:T1≠T3)(s:eZ T3 H5 H6)(t:Tab T3 posB Jl H6):LB K rs aa gC ps R dz dn T1 T3 H6:=by
 obtain⟨pt,eT,_⟩:=id h.t3;refine⟨CL s h.t3 h.hR,h.cU.keep λ_ _ z=>Ci s h.t3 z,⟨s _ _ (λy=>by have a:=h.nm.hd;rw [y,eT] at a;cases a) h.nm.hd,h.nm.n1,h.nm.n2,λp hp=>s _ _ (λy=>by have a:=h.nm.lst p hp;rw [y,eT] at a;cases a) (h.nm.lst p hp)⟩,?_,Cm s h.t3 h.t1 nT,t⟩;rcases h.rz with z | ⟨u,z⟩
 .exact .inl (s _ _ (λy=>by rw [y,eT] at z;cases z) z)
 exact .inr ⟨u,s _ _ (λy=>by rw [y,eT] at z;cases z) z⟩
theorem o_:∀(hs:z0s)(bz:139) (as:z0s),bz.map 84=as.map Sum.inr->(cP (hs.map λh=>((Sum.inr h:aL),V.str h)) bz).map 84=(M11.xM as hs).map Sum.inr
 | [],bz,as,e=>e
 | h::r,bz,as,e=>o_ r (bx bz (Sum.inr h) (.str h)) (M11.gL as h) (gM.ky e h)
def gZ:aN ["rules","numbers","trees","name","least","sizes"] ["rules"] (az nE):=185
def A9 (F:zQ K "least_by_part" "least_by_part" nE f fd T3)(T:Txt mg)(hB:tL mg base)(hS:mg "sorted"=none)(GH:aM P w K mg base 3 "heads_of" ["rules"] (kW K))(GL:aM P w K mg base 3 "least_sizes" ["rules"] (qk K T1))(GN:aM P w K mg base 3 "numbers_by_name" ["rules"] (F4 K))(GZ:aM P w K mg base 3 "rule_size" ["sizes","rule"] (rg K)):bS P w K mg base fC 4 f fd ["rules"] (oS K T1 T3):=by
 refine F.ok gZ 198 (λc A outer s H vs Q E hC hr h=>?_)
 .obtain⟨R,rs,aa,rfl,_⟩:=h;rfl
 obtain⟨R,rs,aa,rfl,hR,cU,bM,h8,HY,KQ,XY,nT,q⟩:=h;have hu:=eJ hr;refine⟨_,aj (aG (i:=5) gZ.nd rfl (Or.inr rfl) (bZ GL hr rfl (af (pv 0) aq)))
  (aj (aG (i:=1) gZ.nd rfl (Or.inr rfl) (bZ GN hr rfl (af (pv 0) aq)))
  (aj (aG (i:=2) gZ.nd rfl (Or.inr rfl) (a8 (dS rfl) rfl T.Dp eY (af (bK ["part"] [(1,"numbers")] rfl (CY (pv 5)) (bf rfl rfl) nofun rfl nofun
    (λ_ _ _ _ _=>aw (i:=0) (show (["part","numbers"]:z0s).Nodup by decide +kernel) rfl 86) (λ_ _ _ _ _=>eA (dG (dX hu (pv 0) (pv 1)))) (λ_ _ _ _ _=>bq (af (pv 0) (af (pv 0) aq)))) aq)))
  (aj (bJ cq rfl (aV (Gz (i:=5) (T:=T3) hr rfl hC hB rfl hS (af (bZ GH hr rfl (af (pv 0) aq)) aq) rfl rfl (λy hy=>by
    rcases aX.mp hy with h | h
    .cases h
    rcases aX.mp h with h | h
    .cases h;rfl
    cases h) (λq cl pm fI c' us hl=>match us,hl with | [_],_=>rfl) rfl rfl rfl nofun rfl rfl)) (aw (i:=3) gZ.nd rfl (Or.inr rfl))
   (aj (gE (iy:=4) ["number"] [(5,"sizes"),(0,"rules"),(3,"name")] gZ.nd rfl rfl rfl (aV (dO hu (pv 1) (pv 3) 152)) (bf rfl rfl) nofun rfl nofun
    (λ_ _ _ _ _=>aw (i:=0) (show (["number","sizes","rules","name"]:z0s).Nodup by decide +kernel) rfl 86) (λ_ _ _ _ _=>eA (bj nP (bZ GZ hr rfl (af (pv 1) (af (aY (HI K) (pv 2) (pv 0) 152) aq))) (dO hu (pv 1) (pv 3) 152) (cv _))) (λ_ _ _ _ _=>pv 0))
   (av (gW hu (pv 2) (pv 3) (bq (af (aY bW (pv 4) aC 152) (af (a8 iT rfl T.tup vU (af (bK ["part"] [(2,"trees")] rfl (gO (aY bR (aY bW (pv 0) (aY bW (pv 4) aC 152) 152) aC 152)) (bf rfl rfl) nofun rfl nofun
    (λ_ _ _ _ _=>aw (i:=0) (show (["part","trees"]:z0s).Nodup by decide +kernel) rfl 86) (λ_ _ _ _ _=>cQ) (λ_ _ _ _ _=>dO hu (pv 1) (pv 0) 152)) aq)) aq))) rfl))))
  (av (bp (pv 2)))))),?_⟩
 nofun
 refine⟨_,rfl,R,rs,aa,rfl,hR,cU,∅,h8,KQ,λdz gC LL g H1 fz s1 t1 ez kz vz T6 ZU lz=>?_⟩;refine goN ?_
 ac_rfl
 have hR1:=CL s1 KQ hR;have KA:=cU.keep λ_ _ z=>Ci s1 KQ z;have ZN:=Cm s1 KQ XY (cV nT);refine⟨_,rfl,R,rs,aa,rfl,hR1,KA,∅,λdn ps H2 fn s2 nm pk pf=>?_⟩;refine goN ?_
 ac_rfl
 have PL:=s2 _ _ ez;refine⟨_,rfl,dz,gC,rfl,PL,λo D hD=>?_⟩;have Wh:∀p∈ps,p.2≠dz:=λp hp z=>by
  have a:=nm.lst p hp;rw [z,PL] at a;cases a
 have ndz:dn≠dz:=λz=>by rw [z,ez] at fn;cases fn
 have nz1:T1≠dz:=λz=>by
  obtain⟨p,a,_⟩:=t1;rw [z,ez] at a;cases a
 have nz3:T3≠dz:=λz=>by
  obtain⟨p,a,_⟩:=ZN;rw [z,ez] at a;cases a
 have Qk:∀{T':Addr}{pos':Pos}{JU:Str},T'≠dz->Tab T' pos' JU H2->Tab T' pos' JU (upd H2 dz (.g9 o (.dK gC))):=λ{T' pos' JU} n ⟨p,a,b,cc⟩=>⟨p,by rw [ai n];exact a,b,cc.imp id λ⟨c',e1,e2⟩=>⟨c',e1,by rw [ai (λz=>by rw [z,PL] at e2;cases e2)];exact e2⟩⟩;have L3:LB K rs aa gC ps R dz dn T1 T3 (upd H2 dz (.g9 o (.dK gC))):=by
  refine⟨?_,(KA.same s2).keep λ_ _ z=>gI PL z,⟨by rw [ai ndz];exact nm.hd,nm.n1,nm.n2,λp hp=>by rw [ai (Wh p hp)];exact nm.lst p hp⟩,.inr ⟨o,ae⟩,Qk nz1 (t1.same s2),Qk nz3 (ZN.same s2)⟩;rcases s2.seq hR1 with (h | ⟨u,h⟩) | h
  .exact .inl (.inl (by rw [ai (λz=>by rw [z,PL] at h;cases h)];exact h))
  .exact .inl (.inr ⟨u,by rw [ai (λz=>by rw [z,PL] at h;cases h)];exact h⟩)
  exact .inr h
 have e3:upd H2 dz (.g9 o (.dK gC)) dz=some (.g9 o (.dK gC)):=ae;have ya:l8 T1 T3 H (upd H2 dz (.g9 o (.dK gC))):=λb u n1 n3 hb=>by
  rw [ai (λz=>by rw [z,fz] at hb;cases hb)];exact s2 _ _ (s1 b u n1 hb)
 generalize upd H2 dz (.g9 o (.dK gC))=H3 at hD L3 e3 ya ⊢;have lkz:gC.length=LL.length:=by
  have:=congrArg List.length kz;rwa [aA,aA] at this
 refine sW (λi ys σ2 H4=>∃ts:z0p,ys=155/\(∃y0,σ2=[y0,a7 dn])/\aF H3 H4/\H4 D=some (.lst ys)/\ts.length<=i/\Paired (λt h=>aQ K H4 t [.str h,.str h]) ts ((LL.take i).filter λz=>!decide (z∈hd aa)))
  ⟨[],rfl,⟨none,rfl⟩,ag hD _,ae,aH _,.nil⟩ (λi ys σ2 H4 _ h=>?_) (λi kv ys σ2 H4 ex h=>?_) (λys σ2 H4 h=>?_)
 .obtain⟨_,_,_,sm,_⟩:=h;exact sm _ _ e3
 .obtain⟨ts,rfl,⟨y0,rfl⟩,sm,e4,Jk,pt⟩:=h;obtain⟨z,PJ,ekz⟩:∃z,LL[i]?=some z/\kv.1=136:=by
   have a1:(gC.map 84)[i]?=some kv.1:=by rw [aS,ex];rfl
   rw [kz,aS] at a1;obtain⟨z,a2,a3⟩:=bQ.mp a1;exact⟨z,a2,a3.symm⟩
  rw [ekz];have L4:=L3.same sm;have hin:(aT (ps.map jh) 153).isSome=decide (z∈hd aa):=by
   rw [hV,d_,decide_eq_true_iff,<-pk];rw [fj];constructor
   .intro h;obtain⟨p,hp,e⟩:=bD.mp h;exact bD.mpr ⟨p,hp,mf e⟩
   intro h;obtain⟨p,hp,e⟩:=bD.mp h;exact bD.mpr ⟨p,hp,congrArg Sum.inr e⟩
  refine goN ?_;refine⟨_,rfl,_,rfl,dn,_,rfl,cb.k (k:=136) L4.nm.hd,_,rfl,?_⟩;rw [hin];have SD:((LL.take (i+1)).filter λz=>!decide (z∈hd aa))=((LL.take i).filter λz=>!decide (z∈hd aa))++(if (!decide (z∈hd aa))=true then [z] else []):=by
   rw [d7,PJ,jR]
   congr 1
   by_cases c:z∈hd aa <;> simp [c]
  refine dj (λcc=>?_) (λcc=>?_)
  .refine⟨_,rfl,_,rfl,kR,λt ht=>?_⟩;have k5:=ag ht (.tup [kV 153,kV 153]);have v5:aQ K (upd H4 t (.tup [kV 153,kV 153])) t [.str z,.str z]:=aQ.of ae;generalize upd H4 t (.tup [kV 153,kV 153])=H5 at k5 v5;have li:=(bw.mp ex).1;have e5:=k5 _ _ e4;refine⟨e5,220,ts++[t],by rw [bC];rfl,⟨_,rfl⟩,λb u hb=>?_,ae,by rw [bH,lO];omega,?_⟩
   .rw [450];exact k5 _ _ (sm b u hb)
   rw [SD,au cc];exact fN (Paired.iq pt λ_ _ z=>bT e5 (k5.tup z)) (bT e5 v5)
  refine⟨ts,rfl,⟨_,rfl⟩,sm,e4,∅,?_⟩;rw [SD,ar cc,fq];exact pt
 obtain⟨ts,rfl,_,s4,e4,Jk,pt⟩:=h;rw [lkz,cE] at pt;have hwk:∀z,z∉hd aa->(g z).isSome=true->z∈LL.filter λz=>!decide (z∈hd aa):=λz hz gz=>by
  refine d6.mpr ⟨?_,by simpa using hz⟩;have a1:(aT gC 153).isSome=true:=by rw [vz,mv];exact gz
  rw [d_,kz] at a1;exact cR.mp a1
 have lws:(LL.filter λz=>!decide (z∈hd aa)).length<=20000:=dU (iz _ _) ∅;generalize LL.filter (λz=>!decide (z∈hd aa))=ws at pt hwk lws;have kp:Paired (λt (kv:aL×V)=>aQ K H4 t [kV kv.1,kv.2]) ts (ws.map λh=>((Sum.inr h:aL),V.str h)):=cH pt λ_ _ z=>z;refine⟨D,ts,_,rfl,e4,kp,λdt qc=>?_⟩;have kt:∀z∈ws,(136:aL)∈(cP (ws.map λh=>((Sum.inr h:aL),V.str h)) []).map 84:=λz hz=>by
  rw [o_ ws [] [] rfl];exact cR.mpr ((gF ws [] z).mpr (.inr hz))
 have lkt:(cP (ws.map λh=>((Sum.inr h:aL),V.str h)) []).length<=20000:=by
  have a:=congrArg List.length (o_ ws [] [] rfl);rw [aA,aA] at a;have:=iG ws [];simp only [jD] at this;omega
 generalize cP (ws.map λh=>((Sum.inr h:aL),V.str h)) []=Rr at kt lkt;have s5:=s4.trans (ag qc (.dK Rr));have e5:upd H4 dt (.dK Rr) dt=some (.dK Rr):=ae;have Mg:H3 dt=none:=s4.free qc;generalize upd H4 dt (.dK Rr)=H5 at s5 e5;have L5:=L3.same s5;refine goN ?_
 ac_rfl
 refine⟨_,rfl,R,rs,aa,rfl,L5.hR,L5.cU,∅,λDH H6 fH s6 eH=>?_⟩;have L6:=L5.same s6;have NA:=iG (aa.map 84) [];simp only [jD,aA] at NA;have gz:∀z∈hd aa,∃n,g z=some n:=λz hz=>by
  obtain⟨n,e,_⟩:=HY g T6 ZU z hz;exact⟨n,e⟩
 refine⟨L6.t3,DH,hd aa,dz,gC,λz=>(g z).getD 0,rfl,aJ.of eH,by unfold hd;omega,rfl,L6.rz,λz hz=>by obtain⟨n,e⟩:=gz z hz;rw [vz,e];show _=some (V.int ((g z).getD 0));rw [e];rfl,λl cf H7 s7 t37 fl pe pw el=>?_⟩;have L7:=L6.QH nT s7 t37;have Wr:dt≠T3:=λz=>by
  obtain⟨p,a,_⟩:=L5.t3;rw [<-z,e5] at a;cases a
 have e7:=s7 _ _ Wr (s6 _ _ e5);have ndn:dn≠dt:=λz=>by have a:=L3.nm.hd;rw [z,Mg] at a;cases a
 have Z8:dz≠dt:=λz=>by rw [<-z,e3] at Mg;cases Mg
 have DU:l8 T1 T3 H H7:=λb u n1 n3 hb=>s7 _ _ n3 (s6 _ _ (s5 _ _ (ya b u n1 n3 hb)));have Wl:l≠dt:=λz=>by rw [z,s6 _ _ e5] at fl;cases fl
 have nn:=Nx T6;have hlz:cf.length < 64:=by rw [pe.length_eq];unfold hd;omega
 have To:∀ru∈aa,∀p∈ru.2,(g p).isSome=true:=λru tO p hp=>by
  by_cases hh:p∈hd aa
  .obtain⟨n,e⟩:=gz p hh;rw [e];rfl
  have j0:∃n,zY aa p=some n:=⟨0,au (Cf _ _ [] p (.inr ⟨jO.mpr ⟨ru,tO,hp⟩,hh⟩))⟩;have:∃n,g p=some n:=dM.keep (J:=λg=>∃n,g p=some n) (λg ru ⟨n,e⟩ m f=>by obtain⟨k,a,_⟩:=le_step f p n e;exact⟨k,a⟩) T6 j0;obtain⟨n,e⟩:=this;rw [e];rfl
 have ll:=a9 cU
 let zO:zP:=λi σ H8=>∃(kvs:139)(y3 y4:149),σ=[a7 R,a7 dn,a7 dt,y3,y4,a7 dz]/\eZ dt H7 H8/\H8 dt=184/\kvs.length<=20000+i/\(∀z∈ws,(136:aL)∈kvs.map 84)/\(∀z∈cf.take i,(136:aL)∈kvs.map 84)
 refine⟨l,rfl,⟨_,aJ.of el⟩,cO (xs:=cf.map V.str) zO ⟨Rr,_,_,rfl,λ_ _ _ h=>h,e7,∅,kt,λz hz=>by cases hz⟩ ?_ ?_ ?_⟩
 .rintro i σ H8 _ ⟨kvs,y3,y4,rfl,s8,_⟩;exact aJ.of (s8 _ _ Wl el)
 .rintro i x σ H8 ex ⟨kvs,y3,y4,rfl,s8,e8,WE,WN,Rq⟩
  ac_nf0
  rw [aS] at ex;obtain⟨z,UW,rfl⟩:=bQ.mp ex;have li:=(bw.mp UW).1;have hz:z∈hd aa:=pe.mem_iff.mp (bE UW);obtain⟨n,Yv⟩:=gz z hz;have L8:=L7.LQ e7 ndn Z8 s8;obtain⟨p,hp,Xo⟩:=bD.mp (show z∈ps.map 84 by rw [pk];exact hz);refine goN ?_
  ac_rfl
  have hgn:cb H8 dn (.str z) (some (.ref p.2)):=by
   have:=cb.k (k:=136) L8.nm.hd;rw [<-Xo,gq ps L8.nm.n1 p hp] at this;rw [Xo] at this;exact this
  have UG:=L8.nm.lst p hp;have UG:H8 p.2=some (.lst ((nums aa z aa.length).map V.int)):=by rw [<-Xo];exact UG
  have numOf:∀(m:Nat) (v:Int),(nums aa z aa.length)[m]?=some v->∃(j:Nat)(ru:aB),v=(j:Int)/\aa[j]?=some ru/\ru.1=z:=λm v e=>by
   unfold nums at e;rw [aS] at e;obtain⟨j,e1,rfl⟩:=bQ.mp e;have hj:=(d6.mp (bE e1)).2;have hj:(aa[j]?.map 84)=some z:=dC hj;obtain⟨ru,e2,e3⟩:=bQ.mp hj;exact⟨j,ru,rfl,e2,e3⟩
  have aaf:=yL aa z aa.length
  let good:Int->Bool:=λv=>match aa[v.toNat]? with | some ru=>decide (aO g ru=n) | none=>false
  have wit:∃v∈nums aa z aa.length,good v=true:=by
   obtain⟨ru,tO,q1,_,q3⟩:=Es (Vp aa) T6 ZU hz Yv;obtain⟨j,ej⟩:=oO tO;have lj:=(bw.mp ej).1;refine⟨(j:Int),bD.mpr ⟨j,d6.mpr ⟨gG.mpr lj,cZ (by rw [ej];exact congrArg some q1)⟩,rfl⟩,?_⟩;show (match aa[(j:Int).toNat]? with | some ru=>decide (aO g ru=n) | none=>false)=true
   rw [eQ,ej];exact cZ q3
  refine⟨_,rfl,_,rfl,dn,_,rfl,hgn,p.2,rfl,⟨_,aJ.of UG⟩,λD9 Mb=>bN (xs:=(nums aa z aa.length).map V.int) (λm ys σ2 H9=>ys=(((nums aa z aa.length).take m).filter good).map V.int/\(∃y0,σ2=[y0,a7 dz,a7 R,some (.str z)])/\aF H8 H9/\H9 D9=some (.lst ys))
   ⟨rfl,⟨none,rfl⟩,ag Mb _,ae⟩ (λm ys σ2 H9 _ h=>?_) (λm x ys σ2 H9 em h=>?_) (λys σ2 H9 h=>?_)⟩
  .obtain⟨_,_,sm,_⟩:=h;exact aJ.of (sm _ _ UG)
  .obtain⟨rfl,⟨y0,rfl⟩,sm,e9⟩:=h;rw [aS] at em;obtain⟨v,ev,rfl⟩:=bQ.mp em;have lm:=(bw.mp ev).1;obtain⟨j,ru,rfl,ej,U5⟩:=numOf m v ev;have L9:=L8.same sm;obtain⟨r,er,rv⟩:=Paired.at_ L9.cU j ru ej;have Tj:tq 180 (j:Int)=some (.ref r):=aZ (by rw [aS,er];rfl);have gj:good (j:Int)=decide (V.int (aO g ru)=V.int n):=by
    show (match aa[(j:Int).toNat]? with | some ru=>decide (aO g ru=n) | none=>false)=_
    rw [eQ,ej];show decide (aO g ru=n)=_;by_cases c:aO g ru=n
    .rw [cZ c,cZ (congrArg V.int c)]
    rw [fK c,fK (λy=>c (by injection y))]
   refine goN ?_;refine⟨_,rfl,_,rfl,_,rfl,R,_,_,_,rfl,rfl,L9.hR,Tj,dz,r,gC,g,ru,rfl,L9.rz,vz,rv,h8 ru (bE ej),To ru (bE ej),λgU ie=>?_⟩;have hgz:cb gU dz (.str z) (some (.int n)):=by
    have:=cb.r (k:=136) (L9.same ie).rz;rw [vz,Yv] at this;exact this
   refine⟨_,rfl,_,rfl,dz,_,rfl,hgz,rfl,_,rfl,?_⟩;rw [<-gj];have SD:((nums aa z aa.length).take (m+1)).filter good=((nums aa z aa.length).take m).filter good++(if good (j:Int)=true then [(j:Int)] else []):=by
    rw [d7,ev,jR]
    congr 1
    show List.filter good [(j:Int)]=_;by_cases c:good (j:Int)=true
    .rw [au c,qM,au c,qI]
    rw [ar c,qM,ar c,qI]
   have lf:(((nums aa z aa.length).take m).filter good).length<=1000:=dU (iz _ _) (by rw [dB];omega);refine dj (λcc=>?_) (λcc=>?_)
   .refine⟨_,rfl,ie _ _ e9,220,by rw [SD,au cc,bC];rfl,⟨_,rfl⟩,λb u hb=>?_,ae⟩;rw [ai (λz=>by rw [z,Mb] at hb;cases hb)];exact ie _ _ (sm b u hb)
   exact⟨by rw [SD,ar cc,fq],⟨_,rfl⟩,sm.trans ie,ie _ _ e9⟩
  obtain⟨rfl,_,s9,e9⟩:=h;rw [aA,cE] at e9;refine goN ?_
  ac_rfl
  have L9:=L8.same s9;cases hf:(nums aa z aa.length).filter good with
  | nil =>
   obtain⟨v,hv,gv⟩:=wit;have:v∈(nums aa z aa.length).filter good:=d6.mpr ⟨hv,gv⟩;rw [hf] at this;cases this
  | cons v0 vr =>
   rw [hf] at e9;have hm0:v0∈(nums aa z aa.length).filter good:=by rw [hf];exact bP
   obtain⟨hm1,UL⟩:=d6.mp hm0;obtain⟨m0,em0⟩:=oO hm1;obtain⟨j,ru,rfl,ej,U5⟩:=numOf m0 v0 em0;have hsz:aO g ru=n:=by
    have UL:(match aa[(j:Int).toNat]? with | some ru=>decide (aO g ru=n) | none=>false)=true:=UL
    rw [eQ,ej] at UL;exact dC UL
   have tO:=bE ej;obtain⟨r,er,pp,v1,v2⟩:=Paired.at_ L9.cU j ru ej;have Tj:tq 180 (j:Int)=some (.ref r):=aZ (by rw [aS,er];rfl);have zI:tq (V.int (j:Int)::vr.map V.int) 0=some (.int (j:Int)):=aZ (j:=0) rfl;have e9:H9 D9=some (.lst (V.int (j:Int)::vr.map V.int)):=e9;have e89:=s9 _ _ e8;have r8:=h8 ru tO;have WS:∀p∈ru.2,(Sum.inr p:aL)∈kvs.map 84:=λy hy=>by
    obtain⟨my,ey⟩:=lQ.mp (To ru tO y hy);by_cases hh:y∈hd aa
    .refine Rq y (wt pw UW (pe.mem_iff.mpr hh) ?_);show (g y).getD 0 < (g z).getD 0;rw [ey,Yv];show my < n;rw [<-hsz];exact D0 nn hy ey
    exact WN y (hwk y hh (by rw [ey];rfl))
   refine⟨_,rfl,D9,_,_,_,rfl,rfl,aJ.of e9,zI,_,rfl,_,rfl,D9,_,_,_,rfl,rfl,aJ.of e9,zI,R,_,_,_,rfl,rfl,L9.hR,Tj,r,_,_,_,rfl,rfl,v1,rfl,pp,rfl,⟨_,v2⟩,λZy X8=>sQ (zs:=ru.2) rfl v2 ∅ e89 WS X8 λys gU ly ie sI=>?_⟩;refine⟨Zy,ys,rfl,.inl ⟨aJ.of sI,λt2 Yd=>⟨kR,λEk Oo=>?_⟩⟩⟩;have Fq:=(ag Yd (.tup ys)).trans (ag Oo (.tup [.int (j:Int),.ref t2]));generalize upd (upd gU t2 (.tup ys)) Ek (.tup [.int (j:Int),.ref t2])=pY at Fq;have QM:=(s9.trans ie).trans Fq;have xG:=QM _ _ e8;refine⟨_,rfl,_,rfl,dt,_,rfl,.inl ⟨kvs,136,xG,rfl,bF ∅,rfl⟩,?_⟩;have Fo:∀y:aL,(y∈kvs.map 84\/y=136)->y∈(bx kvs 153 (.ref Ek)).map 84:=λy hy=>by
    by_cases hk:(136:aL)∈kvs.map 84
    .rw [AR hk];rcases hy with hy | rfl
     .exact hy
     exact hk
    rw [iB hk];rcases hy with hy | rfl
    .exact mX _ hy
    exact gi _ bP
   have aai:(bx kvs 153 (.ref Ek)).length<=kvs.length+1:=by
    have a:=congrArg List.length (Eq.refl ((bx kvs 153 (.ref Ek)).map 84));by_cases hk:(136:aL)∈kvs.map 84
    .have b:=congrArg List.length (AR (v:=.ref Ek) hk);rw [aA,aA] at b;omega
    have b:=congrArg List.length (iB (v:=.ref Ek) hk);rw [aA,bH,aA,lO] at b;omega
   refine⟨_,_,_,rfl,λb u nb hb=>?_,ae,∅,λy hy=>Fo _ (.inl (WN y hy)),λy hy=>?_⟩
   .rw [ai nb];exact QM _ _ (s8 b u nb hb)
   rw [d7,UW] at hy;rcases cD.mp hy with hy | hy
   .exact Fo _ (.inl (Rq y hy))
   exact Fo _ (.inr (by rw [bA.mp (show y∈[z] from hy)]))
 rintro σ H8 ⟨kvs,y3,y4,rfl,s8,e8,WE,WN,Rq⟩;rw [aA,cE] at Rq;have L8:=L7.LQ e7 ndn Z8 s8;refine⟨_,rfl,q dt kvs H8 ?_ (λb u n1 n3 hb=>?_) L8.t1 L8.t3 e8 λz hz=>Rq z (pe.mem_iff.mpr hz)⟩
 .cases c:H dt with
  | none=>rfl
  | some u =>
   by_cases h1:dt=T1
   .obtain⟨pp,a,_⟩:=L3.t1;rw [<-h1,Mg] at a;cases a
   rw [ya dt u h1 Wr c] at Mg;cases Mg
 refine s8 _ _ (λz=>?_) (DU b u n1 n3 hb);rw [z] at hb;rw [ya dt u (λy=>n1 (z.trans y)) Wr hb] at Mg;cases Mg
end
end gM
namespace L2
open PySem PySem.Spec PyProof.Rows
section
variable {prog:Program}{w:World}{A:Around}{E:z0b}
def wc {h h':Heap}{ks:List aL}{a:Addr}(p:(tupleKind (aI prog w)).is h ks a)(k:∀b o,o.cls=183 -> h.get? b=85->h'.get? b=85):(tupleKind (aI prog w)).is h' ks a :=
 let ⟨o,aK,n,h1,h2,h3,h4⟩:=p;⟨o,aK,n,k a o h2 h1,h2,h3,h4⟩
def xH {h h':Heap}{d:Addr}{xs:448}(hd:h.DictOfH (tupleKind (aI prog w)) d xs)(kd:∀o,h.get? d=85->h'.get? d=85)(k:∀b o,o.cls=183 -> h.get? b=85->h'.get? b=85) :
  h'.DictOfH (tupleKind (aI prog w)) d xs :=
 let ⟨o,es,ep,q,c,dd,e,is,n⟩:=hd;⟨o,es,ep,kd o q,c,dd,e,λx hx=>wc (is x hx) k,n⟩
def lE (prog:Program)(w:World)(h:Heap)(u:Value)(kv:List aL×Addr×Value):Prop :=
 ∃t n o,u=.ref t/\(tupleKind (aI prog w)).is h kv.1 kv.2.1/\h.get? t=85/\o.cls=183 /\ o.data=.seq #[.ref kv.2.1,kv.2.2] n
def lE.keep {h h':Heap}{u:Value}(p:lE prog w h u kv)(k:∀b o,o.cls=183 -> h.get? b=85->h'.get? b=85):lE prog w h' u kv :=
 let ⟨t,n,o,a,b,c,d,e⟩:=p;⟨t,n,o,a,wc b k,k t o d c,d,e⟩
def Dj (more xs:448):448:=more.foldl (λa p=>storedH a p.1 p.2.1 p.2.2) xs
def K2 {R:Result->151}{d it l:Addr}{items:z0k}(hh:A.handled=none)(hu:A.units+1 < cLine):∀(more:448) (i:Nat)(s:Shared)(kvs:448) (j:Int)(tk:Tok),items.size=i+more.length ->
  s.heap.DictOfH (tupleKind (aI prog w)) d kvs->s.heap.IsListIter it l i->s.heap.IsList l items->(∀m kv,more[m]?=some kv->∃u,items[i+m]?=some u/\lE prog w s.heap u kv)->kvs.length+more.length<=sizeLine ->
  (∀h' t',h'.DictOfH (tupleKind (aI prog w)) d (Dj more kvs)->(∀b o,b≠d->b≠it->160->h'.get? b=85)->R (.ok (.ret .none)) { s with heap:=h',toks:=t' }) ->
  codeAny 182 A (.builtin "dict.update.loop" ⟨[.ref d,.ref it,.int j tk,.none],[]⟩) R s:=by
 intro more
 induction more with
 | nil =>
  intro i s kvs j tk hi hd hit hl hp hz hR;refine jM lD ?_;rw [lM eK _];unfold Builtin.«dict.update.loop»;have hs:items[i]?=none:=oQ (by rw [hi];exact aH _);refine ao (vK hh hit hl hs λh1 eb=>?_);have nd:d≠it:=λz=>by
   obtain⟨o,_,_,q,_,c,_⟩:=hd;obtain⟨o',q',_,c'⟩:=hit;rw [z,q'] at q;cases q;rw [c'] at c;cases c
  have nt:∀b o,o.cls=183 -> 160->b≠it:=λb o c q z=>by
   obtain⟨o',q',c',_⟩:=hit;rw [z,q'] at q;cases q;rw [c'] at c;exact absurd c nofun
  show wpAny _ _ (Builtin.Dict.addKeywords d [] >>= _) _ _ _;exact ao (ax (ax (hR h1 s.toks (xH hd (λo q=>eb d o nd q) λb o c q=>eb b o (nt b o c q) q) λb o n1 n2 q=>eb b o n2 q)))
 | cons kv more ih =>
  intro i s kvs j tk hi hd hit hl hp hz hR;refine jM lD ?_;rw [lM eK _];unfold Builtin.«dict.update.loop»;obtain⟨u,W_,t,n,o,rfl,hk,ho,hc,qc⟩:=hp 0 kv rfl;refine ao (wpAny_pyNext_list_item hit hl W_ λh1 WY sb=>?_);have nd:d≠it:=λz=>by
   obtain⟨o,_,_,q,_,c,_⟩:=hd;obtain⟨o',q',_,c'⟩:=hit;rw [z,q'] at q;cases q;rw [c'] at c;cases c
  have n2:∀b o,(o.cls=183 \/ o.cls=.type "list")->160->b≠d/\b≠it:=by
   intro b o c q;constructor
   .intro z;obtain⟨o',q',c'⟩:=hd.typeIs;rw [z,q'] at q;cases q;rw [c'] at c;rcases c with c | c <;> exact absurd c nofun
   intro z;obtain⟨o',q',c',_⟩:=hit;rw [z,q'] at q;cases q;rw [c'] at c;rcases c with c | c <;> exact absurd c nofun
  have nt:∀b o,o.cls=183 -> 160->b≠d/\b≠it:=λb o c q=>n2 b o (.inl c) q;have nl:l≠d/\l≠it:=by
   obtain⟨o,q,c,_⟩:=hl;exact n2 l o (.inr c) q
  have WQ:∀b o,o.cls=183 -> 160->h1.get? b=85:=λb o c q=>(sb.2 b (nt b o c q).2).trans q;have Ft:h1.get? t=85:=WQ t o hc ho;have XR:h1.DictOfH (tupleKind (aI prog w)) d kvs:=xH hd (λo q=>(sb.2 d nd).trans q) WQ;refine ao (fJ (ao (wpAny_tryCatch ?_)));unfold Builtin.Dict.pairItems;refine ao (iI (T := "tuple") ⟨o,Ft,hc⟩ ?_);rw [au nofun];refine ao (jC Ft qc (ax ?_));show wpAny _ _ (holding [.ref kv.2.1,kv.2.2] (dictSet d (.ref kv.2.1) kv.2.2)) _ _ _;rw [dW] at hz hi;refine fJ (wpAny_dictSet_heap (s:={ s with heap:=h1 }) (j5 hu) (wc hk WQ) XR (λh2 hd2 QJ=>?_) ∅);have kk:∀b o,b≠d->b≠it->160->h2.get? b=85:=λb o n1 n2 q=>(QJ.2 b n1).trans ((sb.2 b n2).trans q);have ln:(storedH kvs kv.1 kv.2.1 kv.2.2).length<=kvs.length+1:=by
   unfold storedH
   split
   .simp
   simp
  refine ax ⟨iL eK _,ih (i+1) _ _ _ _ ∅ hd2 (WY.at λo q=>(QJ.2 it (cV nd)).trans q) (hl.at λo q=>kk l o nl.1 nl.2 q) (λm Ut e=>?_) ∅ λh3 t3 iQ k3=>?_⟩
  .obtain⟨u',e1,e2⟩:=hp (m+1) Ut e;exact⟨u',by rw [<-e1];congr 1;omega,e2.keep λb o c q=>kk b o (nt b o c q).1 (nt b o c q).2 q⟩
  exact hR h3 t3 iQ λb o n1 n2 q=>k3 b o n1 n2 (kk b o n1 n2 q)
def qf {s:Shared}{items:z0k}{more:448}(hh:A.handled=none)(hu:A.units+2 < cLine)(hx:s.heap.get? l=some { cls:=.type "list",data:=.seq items n })
  (hi:items.size=more.length)(hp:∀(m:Nat) kv,more[m]?=some kv->∃u,items[m]?=some u/\lE prog w s.heap u kv)(hz:more.length<=sizeLine)
  (h:∀h' t',h'.DictOfH (tupleKind (aI prog w)) s.heap.objs.size (Dj more [])->(∀b o,160->h'.get? b=85)->Q 398 { s with heap:=h',toks:=t' }) :
  wpAny 182 A (call (.type "dict") [.ref l]) Q E s:=by
 refine callType_codes (Q₁:=λobj s₁=>obj=186/\s₁={ s with heap:=s.heap.push 458 }) F.kt_called_dict (F.kt_typeCall_dict_1 _) F.entry_dict_init (kt_code_dict_new _ ⟨rfl,rfl⟩) ?_;rintro obj s₁ ⟨rfl,rfl⟩;have Bd:(s.heap.push 458).DictOfH (tupleKind (aI prog w)) s.heap.objs.size []:=Heap.DictOfH.new s.heap;have l0:=a0 458 hx;refine⟨Bd.typeIs,F.args_dict_init_2 _ _,?_⟩;unfold Builtin.«dict.__init__» Builtin.Dict.selfAndRest;refine ao (ao (oN Bd.typeIs (ax ?_)));show wpAny _ _ (Builtin.Dict.updateFrom "dict.__init__" s.heap.objs.size (.ref l) [] .none) _ _ _;unfold Builtin.Dict.updateFrom;refine ao (iI (T := "list") ⟨_,l0,rfl⟩ ?_);rw [au Ap];refine ao (o9 l0 hh λh1 t1 k1=>?_);refine ao (gN ?_);have l1:=k1 _ _ l0;refine ao (mr ⟨_,l1,rfl,_,rfl⟩ ?_);have k2:∀b o,160->(h1.push { cls:=.type "list_iterator",data:=.fields #[.ref l,.int 0 0] }).get? b=85:=λb o q=>a0 _ (k1 _ _ (a0 _ q));refine ax ⟨iL eK _,K2 (A:=A.in1) (l:=l) (items:=items) (show A.in1.handled=none from hh) (show A.in1.units+1 < cLine by rw [jq];omega) more 0 _ [] _ _ (by rw [hi,mh]) ?_ ⟨_,bB _ rfl,rfl,rfl⟩ ⟨_,k2 _ _ hx,rfl,n,rfl⟩ (λm kv e=>?_) (by simpa using hz) λh' t' hd k3=>?_⟩
 .exact xH Bd (λo q=>a0 _ (k1 _ _ q)) λb o _ q=>a0 _ (k1 _ _ q)
 .obtain⟨u,e1,e2⟩:=hp m kv e;exact⟨u,by rw [mh];exact e1,e2.keep λb o _ q=>k2 b o q⟩
 refine⟨rfl,h h' t' hd λb o q=>k3 b o (aR (aP q)) ?_ (k2 b o q)⟩;have:=aP (k1 _ _ (a0 458 q));exact aR this
end
def n_ (kvs bz:List (List aL×V)):List (List aL×V):=kvs.foldl (λa p=>bx a p.1 p.2) bz
theorem uW:∀{kvs:List (List aL×V)}{vs:448}{bz:List (List aL×V)}{IW:448},KT H kvs vs->KT H bz IW->KT H (n_ kvs bz) (Dj vs IW)
 | _,_,_,_,.nil,h=>h
 | _,_,_,_,.cons (a:=p) (b:=q) r t,h=>by
  obtain⟨e,hb,rv⟩:=r;show KT H (n_ _ (bx _ p.1 p.2)) (Dj _ (storedH _ q.1 q.2.1 q.2.2));rw [<-e];exact uW t (h.put p.1 hb rv)
theorem uX:∀(kvs bz:List (List aL×V)),(n_ kvs bz).length<=bz.length+kvs.length
 | [],bz=>by simp [n_]
 | p::r,bz=>by
  have:=uX r (bx bz p.1 p.2);have:=di bz p.1 p.2;show (n_ r (bx bz p.1 p.2)).length<=_;rw [dW];omega
section
variable {X:Cx}{ah:z0e}{σ:St}{H:Hp}{s:Shared}
abbrev P7 (K:aU)(H:Hp)(t:Addr)(kv:List aL×V):Prop:=∃b,aQ K H t [.ref b,kv.2]/\H b=some (.tup (kv.1.map kV))
theorem uI (I:141):∀{ts:z0p}{kvs:List (List aL×V)}{aK:z0m},Paired (P7 X.K H) ts kvs->bh (155) aK ->
  ∃vs:448,KT H kvs vs/\Paired (λu kv=>lE X.prog X.w s.heap u kv) aK vs
 | [],_,_,.nil,r=>by
  rw [jj] at r;cases r;exact⟨[],.nil,.nil⟩
 | t::ts,kv::kvs,_,.cons h p,r=>by
  rw [bY] at r;cases r with
  | cons r1 r2 =>
   obtain⟨vs,e1,e2⟩:=uI I p r2;obtain⟨b,h0,hb⟩:=h;obtain⟨aK,rv,⟨o,h1,h2,n,h3⟩,_⟩:=I.tuple h0;obtain⟨u1,u2,rfl,q1,q2⟩:=vals2 rv;cases (show u1=Value.ref b from q1);exact⟨(kv.1,b,u2)::vs,.cons ⟨rfl,hb,q2⟩ e1,.cons ⟨t,n,o,r1,jA I.bI hb,h1,h2,h3⟩ e2⟩
def zF (hc:X.calm=true)(hu:X.A.units+2 < cLine):gk X (.type "dict") (λxs H Q=>∃a ts kvs,xs=[.ref a]/\H a=222/\Paired (P7 X.K H) ts kvs/\∀d,H d=none->Q (.ref d) (upd H d (.dT (n_ kvs [])))):=by
 intro ah s σ H xs us Q I r h;obtain⟨a,ts,kvs,rfl,e,p,q⟩:=h;obtain⟨u,rfl,rx⟩:=vals1 r;cases (show u=Value.ref a from rx);obtain⟨z,aK,n,rv,ho⟩:=(show bO X.prog X.w H s.heap a (.lst _) from I.bI a _ e);obtain⟨vs,r1,r2⟩:=uI I p rv;have l1:=a9 r2;have l2:=a9 r1;have l3:=a9 p;rw [aA] at z;refine qf (I.ok.hd hc) hu ho (by simpa using l1) (λm kv em=>?_) ∅ λh' t' hd kk=>?_
 .obtain⟨u,e1,e2⟩:=Paired.at_ r2 m kv em;exact⟨u,by simpa using e1,e2⟩
 have fr:=I.bI.fresh (aH s.heap.objs.size);have new:bO X.prog X.w (upd H s.heap.objs.size (.dT (n_ kvs []))) h' s.heap.objs.size (.dT (n_ kvs [])):=by
  obtain⟨o,es,ep,hq,h2,h3,h4,_,h5⟩:=hd;refine⟨?_,?_,_,(uW r1 .nil).keeps λc ys ec=>?_,o,es,ep,hq,h2,h3,h4,h5⟩
  .have:=uX kvs [];simp at this;omega
  .have:=I.big;exact iZ.mpr (gP this)
  rw [ai (ay ec fr)];exact ec
 exact⟨186,_,I.laid (t':=t') kk (aH _) new,rfl,q _ fr⟩
end
open PySem M11
def E4 {K:aU}{H:Hp}{bg D:Addr}{ts:z0p}{cK:List Be}{σ:St}{x1 x2 x3 x4:Str}{Qp:143}(hb:aJ K H bg (155))(Pz:Paired (λt (b:Be)=>aQ K H t [.str b.1,.str b.2.1,.int (b.2.2.1:Int),.int (b.2.2.2:Int)]) ts cK)(bM:cK.length<=900000)(hD:H D=none)
  (q:∀us H2,aF H H2->H2 D=some (.lst (us.map V.ref))->Paired (λu (b:Be)=>∃v,P7 K H2 u ([Sum.inr b.1,Sum.inr b.2.1],.ref v)) us cK->Qp H2) :
  ∃W:370,(∃m,W 0 m [] (eF [x1,x2,x3,x4] [] σ) 237) /\
 ∀i m ys σ' H,W i m ys σ' H->((l_ K bg).stop i H/\Qp H)\/((l_ K bg).go i H/\∃m',m' < m/\∀x H',(l_ K bg).oR i H x H'->BE K 4 (kJ (eB 0) (kJ (eB 1) (kJ (eB 2) (kJ (eB 3) Ij)))) x σ' H' λσ2 H2=>i3 σ2 H2 λb H3 =>
  if b=true then tT (fQ (tT (fQ (gH 0) (fQ (gH 1) q9))) (fQ (tT (fQ (gH 2) (fQ (gH 3) q9))) q9)) σ2 H3 323 else W (i+1) m' ys σ2 H3):=by
 have ll:=a9 Pz;refine bN (xs:=155) (λi ys σ2 H2=>∃us:z0p,ys=us.map V.ref/\us.length=i/\Paired (λu (b:Be)=>∃v,P7 K H2 u ([Sum.inr b.1,Sum.inr b.2.1],.ref v)) us (cK.take i)/\(∃y0 y1 y2 y3,σ2=[y0,y1,y2,y3])/\449)
  ⟨[],rfl,rfl,.nil,⟨none,none,none,none,rfl⟩,ag hD _,ae⟩ (λi ys σ2 H2 _ h=>?_) (λi x ys σ2 H2 ex h=>?_) (λys σ2 H2 h=>?_)
 .obtain⟨_,_,_,_,_,sm,_⟩:=h;exact sm.seq hb
 .obtain⟨us,rfl,hu,hp,⟨y0,y1,y2,y3,rfl⟩,sm,hd⟩:=h;rw [aS] at ex;obtain⟨r,er,rfl⟩:=bQ.mp ex;have lr:=(bw.mp er).1;obtain⟨b,e1⟩:∃b,cK[i]?=some b:=⟨cK[i]'∅,dA ∅⟩;obtain⟨r',SG,v1⟩:=Paired.at_ Pz i b e1;rw [er] at SG;cases SG;have li:=(bw.mp e1).1;refine⟨r,_,rfl,sm.tup v1,rfl,_,_,rfl,_,_,rfl,_,_,rfl,_,_,rfl,rfl,?_⟩;refine BA ?_;refine⟨_,rfl,_,rfl,kR,λk hk=>⟨_,rfl,_,rfl,kR,λv hv=>⟨kR,λu hu2=>?_⟩⟩⟩;have s3:=(ag hk (.tup [V.str b.1,V.str b.2.1])).trans ((ag hv (.tup [V.int (b.2.2.1:Int),V.int (b.2.2.2:Int)])).trans (ag hu2 (.tup [.ref k,.ref v])));have ek:=((ag hv (.tup [V.int (b.2.2.1:Int),V.int (b.2.2.2:Int)])).trans (ag hu2 (.tup [.ref k,.ref v]))) k _ ae;have eu:aQ K (upd (upd (upd H2 k (.tup [V.str b.1,V.str b.2.1])) v (.tup [V.int (b.2.2.1:Int),V.int (b.2.2.2:Int)])) u (.tup [.ref k,.ref v])) u [.ref k,.ref v]:=aQ.of ae;generalize upd (upd (upd H2 k (.tup [V.str b.1,V.str b.2.1])) v (.tup [V.int (b.2.2.1:Int),V.int (b.2.2.2:Int)])) u (.tup [.ref k,.ref v])=H4 at s3 ek eu;have Fv:=s3 _ _ hd;refine⟨Fv,220,us++[u],by rw [bC];rfl,by rw [bH,hu];rfl,?_,⟨_,_,_,_,rfl⟩,?_,ae⟩
  .rw [d7,e1];have kD:k≠D:=λz=>by rw [z,Fv] at ek;cases ek
   refine fN (Paired.iq hp λu' b' aW=>?_) ⟨v,k,bT Fv eu,by rw [ai kD];exact ek⟩;obtain⟨v',bb,p1,p2⟩:=aW;exact⟨v',bb,bT Fv (s3.tup p1),by rw [ai (λz=>by rw [z,hd] at p2;cases p2)];exact s3 _ _ p2⟩
  intro c o hc;rw [ai (λz=>by rw [z,hD] at hc;cases hc)];exact s3 _ _ (sm c o hc)
 obtain⟨us,rfl,hu,hp,_,sm,hd⟩:=h;rw [aA,ll,cE] at hp;exact q us H2 sm hd hp
theorem Gv {K:aU}:∀{us:z0p}{cK:List Be},Paired (λu (b:Be)=>∃v,P7 K H u ([Sum.inr b.1,Sum.inr b.2.1],.ref v)) us cK->∃kvs,Paired (P7 K H) us kvs
 | _,_,.nil=>⟨[],.nil⟩
 | _,_,.cons ⟨v,h⟩ t=>let ⟨kvs,p⟩:=Gv t;⟨_::kvs,.cons h p⟩
end L2
namespace gM
open PySem L2 M11
def Tab.s2 {T T1 T2:Addr}(h:Tab T p q H)(s:l8 T1 T2 H H')(t1:Tab T1 p1 q1 H)(t2:Tab T2 p2 q2 H)(n1:T≠T1)(n2:T≠T2):Tab T p q H':=by
 obtain⟨ps,a,b,c⟩:=h;obtain⟨Ue,b1,_⟩:=t1;obtain⟨Z3,b2,_⟩:=t2;refine⟨ps,s _ _ n1 n2 a,b,c.imp id ?_⟩;rintro⟨c',e,g⟩;exact⟨c',e,s _ _ (λz=>by rw [z,b1] at g;cases g) (λz=>by rw [z,b2] at g;cases g) g⟩
def j9 {T a C dx:Addr}{fs:List (Str×V)}{o:HO}(h:Tab T pos qu H)(ha:H a=some (.ins C dx fs)):Tab T pos qu (upd H a o):=by
 obtain⟨ps,p,r,c⟩:=h;refine⟨ps,by rw [ai (λz=>by rw [z,ha] at p;cases p)];exact p,r,c.imp id ?_⟩;rintro⟨c',e,g⟩;exact⟨c',e,by rw [ai (λz=>by rw [z,ha] at g;cases g)];exact g⟩
def Kp (H H':Hp):Prop:=∀b o,H b=85->(∀ps,o≠.tM ps)->H' b=85
def Kp.of2 (s:l8 T1 T2 H H')(t1:Tab T1 p1 q1 H)(t2:Tab T2 p2 q2 H):Kp H H':=λc o hc hn=>by
 obtain⟨Ue,b1,_⟩:=t1;obtain⟨Z3,b2,_⟩:=t2;exact s c o (λz=>by rw [z,b1] at hc;cases hc;exact hn _ rfl) (λz=>by rw [z,b2] at hc;cases hc;exact hn _ rfl) hc
section
theorem Kp.lst (k:Kp H H'){a:Addr}{xs:List V}(h:H a=some (.lst xs)):H' a=some (.lst xs):=k a _ h (λ_ z=>by cases z)
def Kp.tup {H H':Hp}(k:Kp H H'){a:Addr}{xs:List V}(h:aQ K H a xs):aQ K H' a xs:=by
 rcases h with (h | ⟨u,h⟩) | h
 .exact .inl (.inl (k _ _ h (λ_ z=>by cases z)))
 .exact .inl (.inr ⟨u,k _ _ h (λ_ z=>by cases z)⟩)
 exact .inr h
def Kp.seq (k:Kp H H'){a:Addr}{xs:List V}(h:aJ K H a xs):aJ K H' a xs:=by
 rcases h with (h | ⟨u,h⟩) | h
 .exact .inl (.inl (k _ _ h (λ_ z=>by cases z)))
 .exact .inl (.inr ⟨u,k _ _ h (λ_ z=>by cases z)⟩)
 exact .inr h
theorem Kp.aa (k:Kp H H'){rs:z0p}{aa:87}(h:bu K H rs aa):bu K H' rs aa:=h.keep λ_ _ z=>k.tup z
abbrev AG:Stmt:=Ri sLT 0
structure LC (K:aU)(C:Addr):Prop where
 cls:FE K C
 a1:dI K C "rules"
 a2:dI K C "empty"
 a3:dI K C "least"
 a4:dI K C "hollow"
 a5:dI K C "beginnings"
structure FD (C3 T1 T3:Addr)(H0 H:Hp)(a dx:Addr)(fs:List (Str×V)):Prop where
 sm:l8 T1 T3 H0 H
 ia:H a=some (.ins C3 dx fs)
 fa:H0 a=none
 t1:Tab T1 rP.2.2.2 zW H
 t3:Tab T3 posB Jl H
 o1:Tab T1 rP.2.2.2 zW H0
 o3:Tab T3 posB Jl H0
def FD.kp {C3 T1 T3 a dx:Addr}{fs:List (Str×V)}(h:FD C3 T1 T3 H0 H a dx fs):Kp H0 H:=Kp.of2 h.sm h.o1 h.o3
def FD.set {C3 T1 T3 a dx:Addr}{fs:List (Str×V)}(h:FD C3 T1 T3 H0 H a dx fs)(Mf:List (Str×V)):FD C3 T1 T3 H0 (upd H a (.ins C3 dx Mf)) a dx Mf :=
 ⟨λb o n1 n3 hb=>by rw [ai (λz=>by rw [z,h.fa] at hb;cases hb)];exact h.sm b o n1 n3 hb,ae,h.fa,j9 h.t1 h.ia,j9 h.t3 h.ia,h.o1,h.o3⟩
def FD.next {C3 T1 T3 a dx:Addr}{fs:List (Str×V)}(h:FD C3 T1 T3 H0 H a dx fs)(s:aF H H'):FD C3 T1 T3 H0 H' a dx fs :=
 ⟨λb o n1 n3 hb=>s _ _ (h.sm b o n1 n3 hb),s _ _ h.ia,h.fa,h.t1.same s,h.t3.same s,h.o1,h.o3⟩
def FD.Q7 {C3 T1 T3 a dx:Addr}{fs:List (Str×V)}(h:FD C3 T1 T3 H0 H a dx fs)(s:l8 T1 T3 H H')(t1:Tab T1 rP.2.2.2 zW H')(t3:Tab T3 posB Jl H'):FD C3 T1 T3 H0 H' a dx fs :=
 ⟨λb o n1 n3 hb=>s _ _ n1 n3 (h.sm b o n1 n3 hb),Kp.of2 s h.t1 h.t3 _ _ h.ia (λ_ z=>by cases z),h.fa,t1,t3,h.o1,h.o3⟩
def CC (K:aU)(C C3 T1 T3:Addr):Sp:=λvs H Q _=>∃(H0 Hb:Hp)(a dx R x e d bg:Addr)(rs:z0p)(aa:87)(kE:139)(a_:z0h)(ps:z0f)(cK:List Be),vs=[.ref a,.ref R,.ref x]/\aF H0 H/\H0 a=none/\H a=some (.ins C3 dx [])/\aJ K H0 R 180/\bu K H0 rs aa /\
 aa.length < 64/\325/\(∀g,dM M11.bl aa (zY aa) g->gY M11.bl aa g->∀h∈hd aa,∃n,g h=some n/\n<=60)/\uo K C Hb H0 x e d bg kE a_ ps cK/\x9 aa a_/\cK.length<=80000/\Tab T1 rP.2.2.2 zW H0/\Tab T3 posB Jl H0/\T1≠T3 /\
 ∀H',l8 T1 T3 H0 H'->Tab T1 rP.2.2.2 zW H'->Tab T3 posB Jl H'->Q .dY H'
def JJ:aN ["self","rules","begin_table"] ["self","rules","begin_table"] (az AG):=185
def G8 (F:iU K "__init__" "LeastTrees.__init__" AG f fd)(T:Txt mg)(B:BC K C)(L:LC K C3)(GL:aM P w K mg base 4 "least_by_part" ["rules"] (oS K T1 T3))(GE:aM P w K mg base 4 "empty_by_name" ["rules","empties"] (uB K)) :
  bS P w K mg base fC 5 f fd ["self","rules","begin_table"] (CC K C C3 T1 T3):=by
 refine F.ok JJ 198 217
 .obtain⟨H0,Hb,a,dx,R,x,e,d,bg,rs,aa,kE,a_,ps,cK,rfl,_⟩:=h;rfl
 obtain⟨H0,Hb,a,dx,R,x,e,d,bg,rs,aa,kE,a_,ps,cK,rfl,s0,f0,ea,hR,cU,bM,h8,HY,S,emp,NF,t1,t3,nT,q⟩:=h;have hu:=iu (Nat.add_le_add_left (by decide:2<=64) _) hr.units;refine⟨_,aj (fU (pv 0) (pv 1) rfl)
  (aj (fU (pv 0) (dH (pv 2) rfl) rfl)
  (aj (fU (pv 0) (bZ GL hr rfl (af (pv 1) aq)) rfl)
  (aj (fU (pv 0) (bZ GE hr rfl (af (pv 1) (af (dH (pv 2) rfl) aq))) rfl)
  (av (fU (pv 0) (a8 (zF rfl hu) rfl T.Dp eY (af (bK ["name","word","number","place"] [] rfl (aV (dH (pv 2) rfl)) (bf rfl rfl) nofun rfl nofun
   (λ_ _ _ _ _=>iD (n:=4) K rfl (aE (aw (i:=0) (show (["name","word","number","place"]:z0s).Nodup by decide +kernel) rfl 86) (aE (aw (i:=1) (show (["name","word","number","place"]:z0s).Nodup by decide +kernel) rfl 86) (aE (aw (i:=2) (show (["name","word","number","place"]:z0s).Nodup by decide +kernel) rfl 86) (aE (aw (i:=3) (show (["name","word","number","place"]:z0s).Nodup by decide +kernel) rfl 86) bV))))) (λ_ _ _ _ _=>cQ)
   (λ_ _ _ _ _=>bq (af (bq (af (pv 0) (af (pv 1) aq))) (af (bq (af (pv 2) (af (pv 3) aq))) aq)))) aq)) rfl))))),?_⟩
 nofun
 have S0:FD C3 T1 T3 H0 H a dx []:=⟨λb o _ _ hb=>s0 b o hb,ea,f0,t1.same s0,t3.same s0,t1,t3⟩;obtain⟨e1,te,⟨P1,PD,UX,leb⟩,ee1,evb,_⟩:=S.em;obtain⟨aat,aaq,Sz,l1,l2,_⟩:=S.ia;rw [UX] at Sz;cases Sz;obtain⟨tb,ebg,Pz⟩:=S.lb;have lets:=emp.len;refine⟨_,rfl,_,rfl,a,C3,dx,[],rfl,S0.ia,L.cls,L.a1,(by show 0 < 1000;decide),?_⟩;have S1:=S0.set (dF "rules" (.ref R) []);generalize UM:dF "rules" (.ref R) []=UU at S1;generalize upd H a (.ins C3 dx UU)=H1 at S1;have x1:H1 x=some (.ins C P1 PD):=S1.kp _ _ UX (λ_ z=>by cases z);refine⟨_,rfl,x,C,P1,PD,_,rfl,x1,B.cls,B.a2,l1,_,rfl,a,C3,dx,UU,rfl,S1.ia,L.cls,L.a2,(by rw [<-UM];show 1 < 1000;decide),?_⟩;have S2:=S1.set (dF "empty" (.ref e) UU);generalize H_:dF "empty" (.ref e) UU=ub at S2;generalize upd H1 a (.ins C3 dx ub)=H2 at S2;refine⟨_,rfl,R,rs,aa,rfl,S2.kp.seq hR,S2.kp.aa cU,bM,h8,HY,S2.t1,S2.t3,nT,λdl kl H3 fdl s3 wm t33 edl kdl=>?_⟩;have S3:=S2.Q7 s3 wm t33;refine⟨_,rfl,a,C3,dx,ub,rfl,S3.ia,L.cls,L.a3,(by rw [<-H_,<-UM];show 2 < 1000;decide),?_⟩;have S4:=S3.set (dF "least" (.ref dl) ub);generalize hf4:dF "least" (.ref dl) ub=PF at S4;generalize upd H3 a (.ins C3 dx PF)=H4 at S4;have x4:H4 x=some (.ins C P1 PD):=S4.kp _ _ UX (λ_ z=>by cases z);refine⟨_,rfl,_,rfl,x,C,P1,PD,_,rfl,x4,B.cls,B.a1,leb,R,e1,rs,te,aa,a_,rfl,S4.kp.seq hR,S4.kp.aa cU,∅,h8,aJ.of (S4.kp.lst ee1),evb.keep λ_ _ z=>S4.kp.tup z,emp,∅,λdh kh H5 fdh s5 edh kdh=>?_⟩;have S5:=S4.next s5;refine⟨_,rfl,a,C3,dx,PF,rfl,S5.ia,L.cls,L.a4,(by rw [<-hf4,<-H_,<-UM];show 3 < 1000;decide),?_⟩;have S6:=S5.set (dF "hollow" (.ref dh) PF);generalize hf6:dF "hollow" (.ref dh) PF=zZ at S6;generalize upd H5 a (.ins C3 dx zZ)=H6 at S6;have x6:H6 x=some (.ins C P1 PD):=S6.kp _ _ UX (λ_ z=>by cases z);have b6:=S6.kp.lst ebg;have v6:Paired (λt (b:Be)=>aQ K H6 t [.str b.1,.str b.2.1,.int (b.2.2.1:Int),.int (b.2.2.2:Int)]) tb cK:=Paired.iq Pz λ_ _ z=>S6.kp.tup z;refine⟨_,rfl,x,C,P1,PD,_,rfl,x6,B.cls,B.a3,l2,bg,rfl,⟨_,aJ.of b6⟩,λD7 X5=>E4 (aJ.of b6) v6 ∅ X5 λus H7 s7 e7 p7=>?_⟩;obtain⟨kvs,pk⟩:=Gv p7;refine⟨D7,us,kvs,rfl,e7,pk,λdb EG=>?_⟩;have S8:=(S6.next s7).next (ag EG (.dT (n_ kvs [])));refine⟨_,rfl,a,C3,dx,zZ,rfl,S8.ia,L.cls,L.a5,(by rw [<-hf6,<-hf4,<-H_,<-UM];show 4 < 1000;decide),?_⟩;have S9:=S8.set (dF "beginnings" (.ref db) zZ);exact q _ S9.sm S9.t1 S9.t3
structure Fj (K:aU)(x qual:Str)(st:Stmt)(f:Addr)(fd:FuncData):Prop where
 ex:∃(oc:Value)(od:z0l)(kV doc pm:Value)(an:z0l)(dP ct:Value)(wW:z0a)(T:Addr)(o:Obj) (n:Nat),
  fd=PySem.W.fnOf x qual (cW st) (cg st) (az st) (.ref T) kV doc pm an dP ct/\K.lookup f=some ⟨oc,od,.func fd,wW⟩/\PySem.W.codeIn K dP qual=true/\K.lookup T=85/\o.data=.seq #[.none] n
 kp:PySem.W.keepIn K (.ref f)=true
def Fj.ok {x qual:Str}{f:Addr}{N ps:z0s}{k:Nat}(F:Fj K x qual st f fd)(S:aN N ps (az st))(len:∀vs H Q E,sp vs H Q E->vs.length=ps.length)
  (jb:∀(dP:Value)(A:Around)(outer:List Env)(s:Shared)(H:Hp)(vs:List V)(Q:VK)(E:XK),fA k (A.deeper (PyProof.Rows.envOfC qual (az st) s.heap.objs.size f dP))->sp vs H Q E ->
   ∃t,B_ (pD fC P w K mg base N qual (az st) f dP A outer s H E).Ki (cg st) t/\t { nx:=λ_ H'=>Q .dY H',rt:=Q } (start N vs) H):bS P w K mg base fC (k+1) f fd ps sp:=by
 obtain⟨oc,od,kV,doc,pm,an,dP,ct,wW,T,o,n,rfl,lk,xA,_⟩:=F.ex;refine Iq lk xA S len λA outer s H vs Q E hr Fs=>?_;obtain⟨t,h,q⟩:=jb dP A outer s H vs Q E hr Fs;exact⟨t,h.Ki,q⟩
def Ig {f:Addr}(F:Fj K "__init__" "Grammar.__init__" rB f fd):Binds K fd ["self","rules","strengths"] []:=by
 obtain⟨oc,od,kV,doc,pm,an,dP,ct,wW,T,o,n,rfl,lk,xA,lT,dT⟩:=F.ex;intro s us KI hl
 match us,hl with
 | [u1,u2,u3],_=>exact BindsTo.of_defaults rfl (KI T o lT) dT rfl rfl
def Ie {f:Addr}(F:Fj K "__init__" "Grammar.__init__" rB f fd):Binds K fd ["self","rules","strengths"] [.none]:=by
 obtain⟨oc,od,kV,doc,pm,an,dP,ct,wW,T,o,n,rfl,lk,xA,lT,dT⟩:=F.ex;intro s us KI hl;have rY:us.length=2:=by
  have:(us++[Value.none]).length=3:=hl;rw [bH] at this;exact Nat.succ.inj this
 match us,rY with
 | [u1,u2],_=>exact BindsTo.of_defaults rfl (KI T o lT) dT rfl rfl
structure GC (K:aU)(C:Addr):Prop where
 cls:FE K C
 a1:dI K C "rules"
 a2:dI K C "strengths"
 a3:dI K C "begin_table"
 a4:dI K C "standings"
 a5:dI K C "small_trees"
def StrIn (K:aU)(H:Hp)(sv:V)(ss:z0p)(str:87):Prop:=(sv=.dY/\ss=[]/\str=[])\/∃S,sv=.ref S/\aJ K H S (ss.map V.ref)/\bu K H ss str
def Zu (H0 H:Hp)(Cg g:Addr)(rs ss:z0p)(bt:Addr):Prop:=∃gx fs R2 S2,H g=some (.ins Cg gx fs)/\fs.lookup ("rules":Str)=some (.ref R2)/\fs.lookup ("strengths":Str)=some (.ref S2)/\fs.lookup ("begin_table":Str)=some (.ref bt)/\fs.lookup ("start":Str)=none /\
 H R2=some 326/\H S2=some (.lst (ss.map V.ref))/\H0 R2=none/\H0 S2=none
def pV (T1 T2 T3:Addr)(H H':Hp):Prop:=∀b o,b≠T1->b≠T2->b≠T3->H b=85->H' b=85
structure DC (T1 T2 T3:Addr)(H:Hp):Prop where
 t1:Tab T1 rP.2.2.2 zW H
 t2:Tab T2 Bk.2.2.2 LH H
 t3:Tab T3 posB Jl H
 LD:T1≠T2
 LA:T1≠T3
 Lz:T2≠T3
theorem DC.same (h:DC T1 T2 T3 H)(s:aF H H'):DC T1 T2 T3 H':=⟨h.t1.same s,h.t2.same s,h.t3.same s,h.LD,h.LA,h.Lz⟩
def DC.FP {T1 T2 T3 a C dx:Addr}{fs:List (Str×V)}{o:HO}(h:DC T1 T2 T3 H)(ha:H a=some (.ins C dx fs)):DC T1 T2 T3 (upd H a o):=⟨j9 h.t1 ha,j9 h.t2 ha,j9 h.t3 ha,h.LD,h.LA,h.Lz⟩
def Kp.Z7 (s:pV T1 T2 T3 H H')(t:DC T1 T2 T3 H):Kp H H':=λc o hc hn=>by
 obtain⟨Ue,b1,_⟩:=t.t1;obtain⟨Z3,b2,_⟩:=t.t2;obtain⟨ps3,b3,_⟩:=t.t3;exact s c o (λz=>by rw [z,b1] at hc;cases hc;exact hn _ rfl) (λz=>by rw [z,b2] at hc;cases hc;exact hn _ rfl) (λz=>by rw [z,b3] at hc;cases hc;exact hn _ rfl) hc
def CD (K:aU)(Cg C T1 T2 T3:Addr):Sp:=λvs H Q _=>∃(H0:Hp)(g gx R:Addr)(sv:V)(rs ss:z0p)(aa str:87)(rk:Str->Nat)(b:Str->Int),vs=[.ref g,.ref R,sv]/\aF H0 H/\H0 g=none/\H g=some (.ins Cg gx [])/\aJ K H0 R 180/\bu K H0 rs aa/\aa.length < 64/\325/\aa≠[] /\
 StrIn K H0 sv ss str/\str.length<=1000/\(∀ru∈str,ru.2.length<=8)/\(str.flatMap (·.2)).Nodup/\Good aa rk b/\DC T1 T2 T3 H0 /\
 ∀(bt:Addr)(H':Hp),pV T1 T2 T3 H0 H'->DC T1 T2 T3 H'->Zu H0 H' Cg g rs ss bt->Q .dY H'
def uo.FP {a e d bg:Addr}{ps:z0f}{g Cg gx:Addr}{fs Mf:List (Str×V)}(h:uo K C H0 H a e d bg kE a_ ps cK)(hg:H0 g=some (.ins Cg gx fs))(na:a≠g) :
  uo K C (upd H0 g (.ins Cg gx Mf)) (upd H g (.ins Cg gx Mf)) a e d bg kE a_ ps cK:=by
 have KL:=h.sm _ _ hg;have up:∀c o,c≠g->H c=85->upd H g (.ins Cg gx Mf) c=85:=λc o n q=>by rw [ai n];exact q
 refine⟨λc o hc=>?_,?_,up _ _ (λz=>by have:=h.he;rw [z,KL] at this;cases this) h.he,up _ _ (λz=>by have:=h.hd;rw [z,KL] at this;cases this) h.hd,h.n1,h.n2,λp hp=>?_,?_,?_,?_⟩
 .by_cases z:c=g
  .rw [z,ae] at hc ⊢;exact hc
  rw [ai z] at hc ⊢;exact h.sm _ _ hc
 .obtain⟨dx,fs,q,r⟩:=h.ia;exact⟨dx,fs,up _ _ na q,r⟩
 .obtain⟨⟨kvs,q,r⟩,t1,t2⟩:=h.dk p hp;exact⟨⟨kvs,up _ _ (λz=>by rw [z,KL] at q;cases q) q,r⟩,by rw [ai (λz=>by rw [z,hg] at t1;cases t1)];exact t1,t2⟩
 .obtain⟨ts,q,r⟩:=h.lb;exact⟨ts,up _ _ (λz=>by rw [z,KL] at q;cases q) q,Paired.iq r λ_ _ z=>gJ KL z⟩
 .have t1:=h.fb;rw [ai (λz=>by rw [z,hg] at t1;cases t1)];exact t1
 obtain⟨e1,ts,⟨dx,fs,q1,q2⟩,q3,q4,q5⟩:=h.em;exact⟨e1,ts,⟨dx,fs,up _ _ na q1,q2⟩,up _ _ (λz=>by rw [z,KL] at q3;cases q3) q3,q4.keep λ_ _ z=>gJ KL z,q5⟩
def JM:aN ["self","rules","strengths"] ["self","rules","strengths"] (az rB):=185
def Hc (F:Fj K "__init__" "Grammar.__init__" rB f fd)(T:Txt mg)(G:GC K Cg)(GR:aM P w K mg base 6 "refuse_faults" ["rules","strengths"] (rh K T1 T2))(GS:aM P w K mg base 6 "standings_by_part" ["rules"] (Lq K))
  (FB:bS P w K mg base fC 5 fB fdB ["self","rules"] (CH K C))(MB:Mk K C fB)(BB:Binds K fdB ["self","rules"] [])(mB:mg "BeginTable"=some (.ref C))
  (FL:bS P w K mg base fC 5 fL fdL ["self","rules","begin_table"] (CC K C C3 T1 T3))(ML:Mk K C3 fL)(BL:Binds K fdL ["self","rules","begin_table"] [])(mL:mg "LeastTrees"=some (.ref C3)):bS P w K mg base fC 7 f fd ["self","rules","strengths"] (CD K Cg C T1 T2 T3):=by
 refine F.ok JM 198 217
 .obtain⟨H0,g,gx,R,sv,rs,ss,aa,str,rk,b,rfl,_⟩:=h;rfl
 obtain⟨H0,g,gx,R,sv,rs,ss,aa,str,rk,b,rfl,s0,f0,eg,hR,cU,bM,h8,Fu,qy,Xd,Xi,Xh,gd,XY,q⟩:=h;refine⟨_,aj (fU (pv 0) (a8 dQ rfl T.lst fZ (af (pv 1) aq)) rfl)
  (aj (nK (fU (pv 0) (ki (dG (rG (pv 2))) (bc aq) (a8 dQ rfl T.lst fZ (af (pv 2) aq))) rfl))
  (aj (df (bZ GR hr rfl (af (dH (pv 0) rfl) (af (dH (pv 0) rfl) aq))))
  (aj (fU (pv 0) (bZ GS hr rfl (af (dH (pv 0) rfl) aq)) rfl)
  (aj (fU (pv 0) (qp MB FB hr rfl mB BB .nil rH (af (dH (pv 0) rfl) aq)) rfl)
  (av (fU (pv 0) (qp ML FL hr rfl mL BL .nil rH (af (dH (pv 0) rfl) (af (dH (pv 0) rfl) aq))) rfl)))))),?_⟩
 nofun
 refine⟨_,rfl,R,_,rfl,.inl (s0.seq hR),λR2 Jo=>?_⟩;have Yw:=ag Jo 326 _ _ eg;have pq:upd H R2 326 R2=some 326:=ae;have ZZ:=s0.trans (ag Jo 326);generalize upd H R2 326=H1 at Yw pq ZZ;refine⟨_,rfl,g,Cg,gx,[],rfl,Yw,G.cls,G.a1,(by show 0 < 1000;decide),?_⟩;generalize nX:dF "rules" (.ref R2) []=ub;have PR:upd H1 g (.ins Cg gx ub) R2=some 326:=by rw [ai (λz=>by rw [z,Yw] at pq;cases pq)];exact pq
 have Nc:aF H0 (upd H1 g (.ins Cg gx ub)):=λc o hc=>by rw [ai (λz=>by rw [z,f0] at hc;cases hc)];exact ZZ c o hc
 have U6:upd H1 g (.ins Cg gx ub) g=some (.ins Cg gx ub):=ae;generalize upd H1 g (.ins Cg gx ub)=H2 at PR Nc U6;refine⟨λσ H3=>σ=[a7 g,a7 R,some sv]/\∃S2 fs,aF H0 H3/\H3 g=some (.ins Cg gx fs)/\fs=dF "strengths" (.ref S2) ub/\H3 R2=some 326/\H3 S2=some (.lst (ss.map V.ref))/\H0 S2=none,?_,?_⟩
 .have fin:∀S2,H2 S2=none->(λH3=>∃S2 fs,aF H0 H3/\H3 g=some (.ins Cg gx fs)/\fs=dF "strengths" (.ref S2) ub/\H3 R2=some 326/\H3 S2=some (.lst (ss.map V.ref))/\H0 S2=none) (upd (upd H2 S2 (.lst (ss.map V.ref))) g (.ins Cg gx (dF "strengths" (.ref S2) ub)))/\upd H2 S2 (.lst (ss.map V.ref)) g=some (.ins Cg gx ub):=λS2 Jn=>by
   have sl:=ag Jn (.lst (ss.map V.ref));have eS:upd H2 S2 (.lst (ss.map V.ref)) S2=some (.lst (ss.map V.ref)):=ae;have SN:=sl _ _ U6;refine⟨⟨S2,_,λc o hc=>?_,ae,rfl,?_,?_,Nc.free Jn⟩,SN⟩
   .rw [ai (λz=>by rw [z,f0] at hc;cases hc)];exact sl _ _ (Nc c o hc)
   .rw [ai (λz=>by rw [z,U6] at PR;cases PR)];exact sl _ _ PR
   rw [ai (λz=>by rw [z,U6] at Jn;cases Jn)];exact eS
  rcases qy with ⟨rfl,rfl,rfl⟩ | ⟨S,rfl,hS,Bt⟩
  .refine⟨_,rfl,_,rfl,?_⟩;refine tZ ?_;refine⟨qi,λS2 Jn=>?_⟩;obtain⟨x1,x2⟩:=fin S2 Jn;exact⟨_,rfl,g,Cg,gx,ub,rfl,x2,G.cls,G.a2,(by rw [<-nX];show 1 < 1000;decide),rfl,x1⟩
  refine⟨_,rfl,_,rfl,?_⟩;refine iP ?_;refine⟨_,rfl,S,_,rfl,.inl (Nc.seq hS),λS2 Jn=>?_⟩;obtain⟨x1,x2⟩:=fin S2 Jn;exact⟨_,rfl,g,Cg,gx,ub,rfl,x2,G.cls,G.a2,(by rw [<-nX];show 1 < 1000;decide),rfl,x1⟩
 rintro σ H3 ⟨rfl,S2,Jr,ya,SN,qb,er3,es3,fS2⟩;have lk1:Jr.lookup ("rules":Str)=some (.ref R2):=by rw [qb,<-nX];rfl
 have Uq:Jr.lookup ("strengths":Str)=some (.ref S2):=by rw [qb,<-nX];rfl
 have Xe:bu K H3 ss str:=by
  rcases qy with ⟨_,rfl,rfl⟩ | ⟨S,_,_,Bt⟩
  .exact .nil
  exact Bt.same ya
 have wm:=XY.same ya;refine⟨_,rfl,g,Cg,gx,Jr,_,rfl,SN,G.cls,G.a1,lk1,_,rfl,g,Cg,gx,Jr,_,rfl,SN,G.cls,G.a2,Uq,R2,S2,rs,ss,aa,str,rk,b,rfl,aJ.of er3,cU.same ya,∅,h8,Fu,aJ.of es3,Xe,Xd,Xi,Xh,gd,wm.t1,wm.t2,wm.LD,λH4 T9 ZP ZO=>?_⟩;have Kv:=Kp.of2 T9 wm.t1 wm.t2;have t4:DC T1 T2 T3 H4:=⟨ZP,ZO,Tab.s2 wm.t3 T9 wm.t1 wm.t2 wm.LA.symm wm.Lz.symm,wm.LD,wm.LA,wm.Lz⟩;have S04:pV T1 T2 T3 H0 H4:=λc o n1 n2 _ hc=>T9 c o n1 n2 (ya c o hc);have eg4:=Kv _ _ SN (λ_ z=>by cases z);have er4:=Kv.lst er3;have es4:=Kv.lst es3;have RS:bu K H4 rs aa:=Kv.aa (cU.same ya);clear ZP ZO T9 wm;refine⟨_,rfl,g,Cg,gx,Jr,_,rfl,eg4,G.cls,G.a1,lk1,R2,rs,aa,rfl,aJ.of er4,RS,∅,h8,λds H5 fds DT=>?_⟩;have PY:=DT _ _ eg4;have er5:=DT _ _ er4;have es5:=DT _ _ es4;have Xl:=RS.same DT;have t5:=t4.same DT;have S05:pV T1 T2 T3 H0 H5:=λc o n1 n2 n3 hc=>DT _ _ (S04 c o n1 n2 n3 hc);refine⟨_,rfl,g,Cg,gx,Jr,rfl,PY,G.cls,G.a4,(by rw [qb,<-nX];show 2 < 1000;decide),?_⟩;generalize xx:dF "standings" (.ref ds) Jr=zZ;have We:∀{Hx:Hp}{fx fy:List (Str×V)},Hx g=some (.ins Cg gx fx)->pV T1 T2 T3 H0 Hx->pV T1 T2 T3 H0 (upd Hx g (.ins Cg gx fy)):=λ{Hx fx fy} hg hs c o n1 n2 n3 hc=>by
  rw [ai (λz=>by rw [z,f0] at hc;cases hc)];exact hs c o n1 n2 n3 hc
 have Pj:∀{Hx:Hp}{fx fy:List (Str×V)}{b:Addr}{xs:List V},Hx g=some (.ins Cg gx fx)->Hx b=some (.lst xs)->upd Hx g (.ins Cg gx fy) b=some (.lst xs):=λ{Hx fx fy b xs} hg hb=>by
  rw [ai (λz=>by rw [z,hg] at hb;cases hb)];exact hb
 have S06:=We (fy:=zZ) PY S05;have Yr:=Pj (fy:=zZ) PY er5;have es6:=Pj (fy:=zZ) PY es5;have NX:bu K (upd H5 g (.ins Cg gx zZ)) rs aa:=Xl.keep λ_ _ z=>gJ PY z;have t6:DC T1 T2 T3 (upd H5 g (.ins Cg gx zZ)):=t5.FP PY;have SM:upd H5 g (.ins Cg gx zZ) g=some (.ins Cg gx zZ):=ae;generalize upd H5 g (.ins Cg gx zZ)=H6 at S06 Yr es6 NX t6 SM;have lk6:zZ.lookup ("rules":Str)=some (.ref R2):=by rw [<-xx,qb,<-nX];rfl
 refine⟨_,rfl,g,Cg,gx,zZ,_,rfl,SM,G.cls,G.a1,lk6,λx dx hx hdx Wo=>?_⟩;have sx:aF H6 (upd (upd H6 dx (.own x)) x (.ins C dx [])):=(ag hdx _).trans (ag (by rw [ai Wo.symm];exact hx) _);refine⟨H6,x,dx,R2,rs,aa,rfl,sx,hx,ae,aJ.of Yr,NX,∅,h8,λe d bg kE a_ ps cK H7 S7 m7 emp _ _ beg _=>⟨rfl,?_⟩⟩;have PX:=S7.sm _ _ SM;have er7:=S7.sm _ _ Yr;have es7:=S7.sm _ _ es6;have t7:=t6.same S7.sm;have Xk:=NX.same S7.sm;have S07:pV T1 T2 T3 H0 H7:=λc o n1 n2 n3 hc=>S7.sm _ _ (S06 c o n1 n2 n3 hc);refine⟨_,rfl,g,Cg,gx,zZ,rfl,PX,G.cls,G.a3,(by rw [<-xx,qb,<-nX];show 3 < 1000;decide),?_⟩;generalize By:dF "begin_table" (.ref x) zZ=BH;have S08:=We (fy:=BH) PX S07;have Yq:=Pj (fy:=BH) PX er7;have es8:=Pj (fy:=BH) PX es7;have RQ:bu K (upd H7 g (.ins Cg gx BH)) rs aa:=Xk.keep λ_ _ z=>gJ PX z;have t8:DC T1 T2 T3 (upd H7 g (.ins Cg gx BH)):=t7.FP PX;have Ov:upd H7 g (.ins Cg gx BH) g=some (.ins Cg gx BH):=ae;have B8:uo K C (upd H6 g (.ins Cg gx BH)) (upd H7 g (.ins Cg gx BH)) x e d bg kE a_ ps cK:=S7.FP SM (λz=>by rw [z,SM] at hx;cases hx);generalize upd H7 g (.ins Cg gx BH)=H8 at S08 Yq es8 RQ t8 Ov B8;have WE:BH.lookup ("rules":Str)=some (.ref R2):=by rw [<-By,<-xx,qb,<-nX];rfl
 have lb8:BH.lookup ("begin_table":Str)=some (.ref x):=by rw [<-By,<-xx,qb,<-nX];rfl
 refine⟨_,rfl,g,Cg,gx,BH,_,rfl,Ov,G.cls,G.a1,WE,_,rfl,g,Cg,gx,BH,_,rfl,Ov,G.cls,G.a3,lb8,λy dy hy hdy ndy=>?_⟩;have sy:aF H8 (upd (upd H8 dy (.own y)) y (.ins C3 dy [])):=(ag hdy _).trans (ag (by rw [ai ndy.symm];exact hy) _);have NF:=beg.len ∅ h8;refine⟨H8,_,y,dy,R2,x,e,d,bg,rs,aa,kE,a_,ps,cK,rfl,sy,hy,ae,aJ.of Yq,RQ,bM,h8,gd.least,B8,emp,NF,t8.t1,t8.t3,t8.LA,λH9 VS VG t39=>⟨rfl,?_⟩⟩;have NH:=Kp.of2 VS t8.t1 t8.t3;have SK:=NH _ _ Ov (λ_ z=>by cases z);have er9:=NH.lst Yq;have es9:=NH.lst es8;have t9:DC T1 T2 T3 H9:=⟨VG,Tab.s2 t8.t2 VS t8.t1 t8.t3 t8.LD.symm t8.Lz,t39,t8.LD,t8.LA,t8.Lz⟩;have S09:pV T1 T2 T3 H0 H9:=λc o n1 n2 n3 hc=>VS _ _ n1 n3 (S08 c o n1 n2 n3 hc);refine⟨_,rfl,g,Cg,gx,BH,rfl,SK,G.cls,G.a5,(by rw [<-By,<-xx,qb,<-nX];show 4 < 1000;decide),?_⟩;refine q x _ (We SK S09) (t9.FP SK) ⟨gx,_,R2,S2,ae,?_,?_,?_,?_,Pj SK er9,Pj SK es9,s0.free Jo,fS2⟩
 .rw [<-By,<-xx,qb,<-nX];rfl
 .rw [<-By,<-xx,qb,<-nX];rfl
 .rw [<-By,<-xx,qb,<-nX];rfl
 rw [<-By,<-xx,qb,<-nX];rfl
end
def Sg {aa:87}{ru:aB}(h:ru∈aa):ru.1∈hd aa:=(gF _ _ _).mpr (.inr (iw h))
def Sf {aa:87}{x:Str}(h:x∈hd aa):∃ru∈aa,ru.1=x:=by
 rcases (gF _ _ _).mp h with h | h
 .cases h
 obtain⟨ru,a,b⟩:=bD.mp h;exact⟨ru,a,b⟩
def Ou {aa:87}{a_:z0h}(h:x9 aa a_):∀y∈a_.map 84,Em aa y:=by
 induction h with
 | nil=>intro y hy;cases hy
 | @snoc a_ k ru _ e _ p ih =>
  intro y hy;rw [bC] at hy;rcases cD.mp hy with h | h
  .exact ih y h
  rw [bA.mp h];exact .mk (bE e) λq hq=>ih q (p q hq)
def Hy {b:Str->Bool}{zs:z0s}{i j:Nat}{x:Str}(h:Kq b zs j=true)(e:zs[i]?=some x)(n:i≠j):b x=true:=by
 cases hb:b x with
 | true=>rfl
 | false =>
  have li:=(bw.mp e).1;have m:((i:Nat):Int)∈EM b zs zs.length:=by
   unfold EM;exact bD.mpr ⟨i,d6.mpr ⟨gG.mpr li,by rw [e];show (!(b x))=true;rw [hb];rfl⟩,rfl⟩
  unfold Kq at h;rcases Bool.or_eq_true_iff.mp h with h | h
  .rw [<-dC h] at m;cases m
  rw [<-dC h] at m;have:=bA.mp m;omega
end gM
namespace M11
open PySem
end M11
namespace ST
open PySem
abbrev Pb:=SetTable.Probe
def lV (m:Nat)(x:Nat×Nat):Pb:={ j:=x.1,more:=SetTable.runEnd m x.1 - x.1,i:=x.1,perturb:=x.2,dummy:=none }
def IU (m:Nat)(p:Pb):Pb :=
 if p.more > 0 then { p with j:=p.j+1,more:=p.more - 1 } else
 { lV m (SetTable.leap m p.i p.perturb) with dummy:=p.dummy }
def pN (m:Nat) (h:Int):Nat->Pb
 | 0=>lV m (SetTable.bits h % (m+1),SetTable.bits h)
 | n+1=>IU m (pN m h n)
abbrev J (m:Nat) (h:Int) (n:Nat):Nat:=(pN m h n).j
def Fc (m:Nat)(p:Pb):(IU m p).dummy=p.dummy:=by
 unfold IU;split <;> rfl
theorem uN (m:Nat) (h:Int):∀n,(pN m h n).dummy=none
 | 0=>rfl
 | n+1=>(Fc _ _).trans (uN m h n)
def rs (m:Nat) (h:Int):Nat->Nat×Nat
 | 0=>(SetTable.bits h % (m+1),SetTable.bits h)
 | r+1=>SetTable.leap m (rs m h r).1 (rs m h r).2
abbrev mo (m i:Nat):Nat:=SetTable.runEnd m i - i
def Rc (m i:Nat):mo m i<=9:=by unfold mo SetTable.runEnd;split <;> omega
def ix (m:Nat) (h:Int):Nat->Nat
 | 0=>0
 | r+1=>ix m h r+mo m (rs m h r).1+1
theorem Dc (m:Nat) (h:Int):∀r,ix m h r<=10 * r
 | 0=>aH _
 | r+1=>by
  have:=Dc m h r;have:=Rc m (rs m h r).1;show ix m h r+mo m (rs m h r).1+1<=_;omega
theorem wY {m:Nat}{h:Int}{x:Nat×Nat}(e:pN m h n=lV m x):∀k,k<=mo m x.1->pN m h (n+k)={ lV m x with j:=x.1+k,more:=mo m x.1 - k }
 | 0,_=>e
 | k+1,hk=>by
  show IU m (pN m h (n+k))=_;rw [wY e k ∅];unfold IU;rw [au (show mo m x.1 - k > 0 by omega)];show ({ j:=x.1+k+1,more:=mo m x.1 - k - 1,i:=x.1,perturb:=x.2,dummy:=none }:Pb)={ j:=x.1+(k+1),more:=mo m x.1 - (k+1),i:=x.1,perturb:=x.2,dummy:=none };rw [Nat.sub_sub,Nat.add_assoc]
def Hj {m:Nat}{h:Int}{x:Nat×Nat}(e:pN m h n=lV m x):pN m h (n+mo m x.1+1)=lV m (SetTable.leap m x.1 x.2):=by
 show IU m (pN m h (n+mo m x.1))=_;rw [wY e _ (aH _)];unfold IU;rw [ar (show ¬(mo m x.1 - mo m x.1 > 0) by omega)];rfl
theorem Bb (m:Nat) (h:Int):∀r,pN m h (ix m h r)=lV m (rs m h r)
 | 0=>rfl
 | r+1=>Hj (Bb m h r)
def Zp (m:Nat) (h:Int) (r:Nat):J m h (ix m h r)=(rs m h r).1:=by unfold J;rw [Bb];rfl
theorem CO (m:Nat) (h:Int):∀r,(rs m h r).2=SetTable.bits h / 32 ^ r
 | 0=>by simp [rs]
 | r+1=>by
  show (rs m h r).2 / 32=_;rw [CO m h r,Nat.div_div_eq_div_mul,Nat.pow_succ]
def K9 (h:Int):SetTable.bits h < 2 ^ 64:=by
 unfold SetTable.bits;have h1:=Int.emod_lt_of_pos h (show (0:Int) < 2 ^ 64 by decide);have h2:=Int.emod_nonneg h (show (2 ^ 64:Int)≠0 by decide);omega
def JO (m:Nat) (h:Int) (r:Nat):(rs m h (13+r)).2=0:=by
 rw [CO];refine Nat.div_eq_of_lt (eU (K9 h) ?_);rw [Nat.pow_add];exact dU (by decide:2 ^ 64<=32 ^ 13) (Nat.le_mul_of_pos_right _ (Nat.pow_pos nofun))
def f5 (M i:Nat):Nat:=(i * 5+1) % M
def HK (M:Nat):Nat->Nat->Nat
 | 0,i=>i
 | n+1,i=>HK M n (f5 M i)
theorem nU (M:Nat):∀a b i,HK M (a+b) i=HK M b (HK M a i)
 | 0,b,i=>by rw [mh];rfl
 | a+1,b,i=>by rw [show a+1+b=(a+b)+1 by omega];exact nU M a b _
def OO (M:Nat):Nat->Nat->z0u
 | 0,_=>[]
 | n+1,i=>i::OO M n (f5 M i)
theorem Dr (M:Nat):∀n i j,j∈OO M n i->∃r,r < n/\HK M r i=j
 | 0,i,j,h=>by cases h
 | n+1,i,j,h=>by
  rcases aX.mp h with e | e
  .exact⟨0,Nat.succ_pos _,e.symm⟩
  obtain⟨r,h1,h2⟩:=Dr M n _ j e;exact⟨r+1,Nat.succ_lt_succ h1,h2⟩
def iH (M:Nat):Bool:=(List.range M).all (λj=>(OO M M 0).contains j) && HK M M 0 == 0
def YS {M:Nat}(k:iH M=true){i j:Nat}(hi:i < M)(hj:j < M):∃r,r < M/\HK M r i=j:=by
 unfold iH at k;rw [oF,gb,beq_iff_eq] at k;obtain⟨k1,k2⟩:=k;have get:∀j,j < M->∃r,r < M/\HK M r 0=j:=λj hj=>Dr M M 0 j (by simpa using k1 j (gG.mpr hj));obtain⟨a,ha,rfl⟩:=get i hi;obtain⟨b,hb,rfl⟩:=get j hj;by_cases h:a<=b
 .exact⟨b - a,∅,by rw [<-nU,Nat.add_sub_cancel' h]⟩
 refine⟨M - a+b,∅,?_⟩;rw [<-nU,show a+(M - a+b)=M+b by omega,nU,k2]
def QO (m:Nat) (h:Int):∀r,(rs m h r).1 < m+1
 | 0=>Nat.mod_lt _ (Nat.succ_pos _)
 | r+1=>Nat.mod_lt _ (Nat.succ_pos _)
theorem Lx (m:Nat) (h:Int):∀r,(rs m h (13+r)).1=HK (m+1) r (rs m h 13).1
 | 0=>rfl
 | r+1=>by
  have e:HK (m+1) (r+1) (rs m h 13).1=f5 (m+1) (HK (m+1) r (rs m h 13).1):=nU (m+1) r 1 _;rw [e,<-Lx m h r];show ((rs m h (13+r)).1 * 5+1+(rs m h (13+r)).2 / 32) % (m+1)=_;rw [JO];rfl
def Nf {m:Nat}(k:iH (m+1)=true) (h:Int)(hj:j<=m):∃r,r < m+14/\(rs m h r).1=j:=by
 obtain⟨r,h1,h2⟩:=YS k (QO m h 13) (show j < m+1 by omega);exact⟨13+r,∅,by rw [Lx,h2]⟩
def YR:iH 8=true:=by decide +kernel
def Tc:iH 32=true:=by decide +kernel
def ON:iH 128=true:=by decide +kernel
def su {m:Nat}(k:iH (m+1)=true) (h:Int){tk:z0u}(hl:tk.length<=m):∃n,(∃r,r < m+14/\n<=ix m h r)/\J m h n∉tk/\∀l,l < n->J m h l∈tk:=by
 have ex:∃j,j<=m/\j∉tk:=by
  apply pL;intro no;have all:∀j∈List.range (m+1),j∈tk:=λj hj=>pL λz=>no ⟨j,by have:=gG.mp hj;omega,z⟩;have:=List.Nodup.length_le_of_subset (List.nodup_range (n:=m+1)) all;rw [mU] at this;omega
 obtain⟨j,hj,nj⟩:=ex;obtain⟨r,hr,e⟩:=Nf k h hj;have P:J m h (ix m h r)∉tk:=by rw [Zp,e];exact nj
 have bd:=Dc m h r;have least:∀N,J m h N∉tk->∃n,n<=N/\J m h n∉tk/\∀l,l < n->J m h l∈tk:=by
  intro N
  induction N using Nat.strongRecOn with
  | ind N ih =>
   intro hN;by_cases z:∃l,l < N/\J m h l∉tk
   .obtain⟨l,h1,h2⟩:=z;obtain⟨n,a,b,c⟩:=ih l h1 h2;exact⟨n,∅,b,c⟩
   exact⟨N,aH _,hN,λl hl=>pL λq=>z ⟨l,hl,q⟩⟩
 obtain⟨n,a,b,c⟩:=least _ P;exact⟨n,⟨r,hr,a⟩,b,c⟩
def wO {xs:z0r}(R:xs.toList.Pairwise (· < ·)){i j:Nat}(hj:j < xs.size)(h:i < j):xs[i]'∅ < xs[j]:=by
 have:=Ae.mp R i j (by simpa using (by omega:i < xs.size)) (by simpa using hj) h;simpa using this
theorem sZ {xs:z0r}(R:xs.toList.Pairwise (· < ·)) (j:Nat):∀fuel lo hi,lo<=hi->hi<=xs.size->hi - lo<=fuel->(∀i (h:i < xs.size),i < lo->xs[i] < j)->(∀i (h:i < xs.size),hi<=i->j<=xs[i]) ->
  SetTable.below.go xs j fuel lo hi<=xs.size/\(∀i (h:i < xs.size),i < SetTable.below.go xs j fuel lo hi->xs[i] < j)/\∀i (h:i < xs.size),SetTable.below.go xs j fuel lo hi<=i->j<=xs[i]
 | 0,lo,hi,h1,h2,h3,a,b=>by
  have:lo=hi:=by omega
  subst this;exact⟨h2,a,b⟩
 | fuel+1,lo,hi,h1,h2,h3,a,b=>by
  unfold SetTable.below.go;by_cases h:lo < hi
  .rw [au h];have hm:(lo+hi) / 2 < xs.size:=by omega
   have eg:xs.getD ((lo+hi) / 2) j=xs[(lo+hi) / 2]:=by simp [Array.getD,hm]
   dsimp only;rw [eg];by_cases c:xs[(lo+hi) / 2] < j
   .rw [au c];refine sZ R j fuel _ hi ∅ h2 ∅ (λi KJ hl=>?_) b;by_cases e:i=(lo+hi) / 2
    .subst e;exact c
    exact iK (wO R hm ∅) c
   rw [ar c];refine sZ R j fuel lo _ ∅ ∅ ∅ a (λi KJ hl=>?_);by_cases e:i=(lo+hi) / 2
   .subst e;omega
   have:=wO R KJ (show (lo+hi) / 2 < i by omega);omega
  rw [ar h];have:lo=hi:=by omega
  subst this;exact⟨h2,a,b⟩
def zG {xs:z0r}(R:xs.toList.Pairwise (· < ·)) (j:Nat):SetTable.below xs j<=xs.size/\(∀i (h:i < xs.size),i < SetTable.below xs j->xs[i] < j)/\∀i (h:i < xs.size),SetTable.below xs j<=i->j<=xs[i] :=
 sZ R j xs.size 0 xs.size (cY _) (aH _) ∅ (λi _ h=>absurd h (qJ _)) (λi h1 h2=>absurd h1 ∅)
def below_at {xs:z0r}(R:xs.toList.Pairwise (· < ·)){i j:Nat}(e:xs[i]?=some j):SetTable.below xs j=i:=by
 obtain⟨h0,h1,h2⟩:=zG R j;obtain⟨hi,e2⟩:=qG.mp e;have a:SetTable.below xs j<=i:=by
  apply Nat.le_of_not_lt;intro z;have:=h1 i hi z;omega
 rcases vA a with z | z
 .have q:=h2 (SetTable.below xs j) ∅ (aH _);have:=wO R hi z;omega
 exact z
def uC {t:SetTable}(R:t.place.toList.Pairwise (· < ·)){i j:Nat}(e:t.place[i]?=some j):t.slot j=.live i:=by
 unfold SetTable.slot;rw [below_at R e];dsimp only;rw [au (by rw [e];simp)]
def Av {t:SetTable}(D:t.dummies=#[])(n:j∉t.place.toList):t.slot j=.empty:=by
 unfold SetTable.slot;dsimp only;rw [ar,ar]
 .unfold SetTable.has;rw [D];simp
 intro z;rw [beq_iff_eq] at z;exact n (by rw [qT];exact vN z)
def HL {xs:z0r}(R:xs.toList.Pairwise (· < ·))(n:j∉xs.toList):(SetTable.insertAt xs (SetTable.below xs j) j).toList.Pairwise (· < ·):=by
 rw [vS];obtain⟨h0,h1,h2⟩:=zG R j;have R':=R;rw [<-vO (SetTable.below xs j) xs.toList] at R';obtain⟨p1,p2,p3⟩:=List.pairwise_append.mp R';have lt:∀x∈xs.toList.take (SetTable.below xs j),x < j:=λx hx=>by
  obtain⟨i,hi,e⟩:=jF.mp hx;rw [dB] at hi;rw [List.getElem_take] at e;have:=h1 i (by simp at hi;omega) ∅;rw [<-e];simpa using this
 have gt:∀x∈xs.toList.drop (SetTable.below xs j),j < x:=λx hx=>by
  have mx:=List.mem_of_mem_drop hx;obtain⟨i,hi,e⟩:=jF.mp hx;rw [qN] at hi;rw [List.getElem_drop] at e;have KJ:SetTable.below xs j+i < xs.size:=by rw [eV] at hi;omega
  have q:=h2 (SetTable.below xs j+i) KJ (Nat.le_add_right _ _);have e':xs[SetTable.below xs j+i]=x:=by rw [<-e];simp
  rw [e'] at q;rcases vA q with z | z
  .exact z
  exact absurd (z ▸ mx) n
 refine List.pairwise_append.mpr ⟨p1,iX.mpr ⟨gt,p2⟩,λa ha b hb=>?_⟩;rcases aX.mp hb with e | e
 .rw [e];exact lt a ha
 exact p3 a ha b e
def Jy {α β:Type}{xs:List α}{ys:List β}(p:Nat)(x:α)(y:β)(hl:xs.length=ys.length){q:α×β}(h:q∈(xs.take p++x::xs.drop p).zip (ys.take p++y::ys.drop p)):q=(x,y)\/q∈xs.zip ys:=by
 rw [List.zip_append (by simp [hl])] at h;rcases cD.mp h with h | h
 .rw [List.zip_eq_zipWith,<-List.take_zipWith] at h;exact .inr (vM h)
 rw [oJ] at h;rcases aX.mp h with h | h
 .exact .inl h
 rw [List.zip_eq_zipWith,<-List.drop_zipWith] at h;exact .inr (List.mem_of_mem_drop h)
def Path (m:Nat)(tk:z0u) (h:Int) (j:Nat):Prop:=∃n,n<=10 * (m+13)/\J m h n=j/\∀l,l < n->J m h l∈tk
def Path.more {m:Nat}{tk O4:z0u}{h:Int}(p:Path m tk h j)(k:∀x∈tk,x∈O4):Path m O4 h j:=by
 obtain⟨n,a,b,c⟩:=p;exact⟨n,a,b,λl hl=>k _ (c l hl)⟩
structure z6 (t:SetTable)(hs:z0t):Prop where
 OO:iH (t.mask+1)=true
 S_:t.dummies=#[]
 rise:t.place.toList.Pairwise (· < ·)
 len:t.place.size=hs.length
 fill:t.place.size<=t.mask
 path:∀q∈t.place.toList.zip hs,Path t.mask t.place.toList q.2 q.1
theorem z6.fits {t:SetTable}{hs:z0t}(T:z6 t hs):t.fits hs.length=true:=by
 unfold SetTable.fits SetTable.fill;rw [T.len,T.S_];have:=T.fill;have:=T.len;simp;omega
def Ni {t:SetTable}{hs:z0t}(T:z6 t hs){h:Int}(nj:j∉t.place.toList)(hp:Path t.mask t.place.toList h j)(room:t.place.size < t.mask) :
  z6 (t.put j).1 (hs.take (t.put j).2++h::hs.drop (t.put j).2):=by
 have e1:(t.put j).2=SetTable.below t.place j:=rfl;have e2:(t.put j).1.place=SetTable.insertAt t.place (SetTable.below t.place j) j:=rfl;have e3:(t.put j).1.mask=t.mask:=rfl;have e4:(t.put j).1.dummies=#[]:=by
  show (if SetTable.has t.dummies j then _ else _)=_;rw [T.S_];rfl
 have sub:∀x∈t.place.toList,x∈(t.put j).1.place.toList:=λx hx=>by
  rw [e2,vS];rw [<-vO (SetTable.below t.place j) t.place.toList] at hx;rcases cD.mp hx with z | z
  .exact mX _ z
  exact gi _ (b9 _ z)
 have sz:(t.put j).1.place.size=t.place.size+1:=by
  rw [e2,<-eV,(SetTable.insertAt_perm _ _ _).length_eq];simp
 refine⟨by rw [e3];exact T.OO,e4,by rw [e2];exact HL T.rise nj,?_,by rw [sz,e3];omega,λq hq=>?_⟩
 .rw [sz,T.len,bH,dW,dB,qN];omega
 rw [e2,vS,e1] at hq;rw [e3];rcases Jy _ _ _ (by rw [eV];exact T.len) hq with z | z
 .rw [z];exact hp.more sub
 exact(T.path q z).more sub
theorem C_ (m:Nat) (h:Int){a:Nat}:∀{b},a < b->ix m h a < ix m h b
 | 0,z=>absurd z (qJ _)
 | b+1,z=>by
  have e:ix m h (b+1)=ix m h b+mo m (rs m h b).1+1:=rfl;rcases vA (Nat.lt_succ_iff.mp z) with y | y
  .have:=C_ m h y;omega
  subst y;omega
abbrev own (ow:Array z0o) (j:Nat):z0o:=ow.getD j none
def lv (m:Nat)(ow:Array z0o):z0g:=(List.range (m+1)).filterMap λj=>(own ow j).map (j,·)
def mI {m:Nat}{q:Nat×Nat}:q∈lv m ow↔q.1<=m/\own ow q.1=some q.2:=by
 unfold lv;rw [vy];constructor
 .rintro⟨j,hj,e⟩;cases h:own ow j with
  | none=>rw [h] at e;cases e
  | some i =>
   rw [h] at e;cases e;exact⟨by have:=gG.mp hj;show j<=m;omega,h⟩
 rintro⟨h1,h2⟩;exact⟨q.1,gG.mpr ∅,by rw [h2];rfl⟩
abbrev tk (m:Nat)(ow:Array z0o):z0u:=(lv m ow).map 84
def xb {m:Nat}:j∈tk m ow↔j<=m/\(own ow j).isSome=true:=by
 rw [bD];constructor
 .rintro⟨q,h,rfl⟩;obtain⟨a,b⟩:=mI.mp h;exact⟨a,by rw [b];rfl⟩
 rintro⟨a,b⟩;obtain⟨i,e⟩:=lQ.mp b;exact⟨(j,i),mI.mpr ⟨a,e⟩,rfl⟩
def Cj (m:Nat)(ow:Array z0o):(tk m ow).Pairwise (· < ·):=by
 have key:∀l:z0u,l.Pairwise (· < ·)->((l.filterMap λj=>(own ow j).map (j,·)).map 84).Pairwise (· < ·)/\∀x∈(l.filterMap λj=>(own ow j).map (j,·)).map 84,x∈l:=by
  intro l
  induction l with
  | nil=>exact λ_=>⟨.nil,λx h=>by cases h⟩
  | cons j r ih =>
   intro p;obtain⟨p1,p2⟩:=iX.mp p;obtain⟨i1,i2⟩:=ih p2;rw [qR];cases h:own ow j with
   | none=>exact⟨i1,λx hx=>b9 _ (i2 x hx)⟩
   | some i =>
    refine⟨iX.mpr ⟨λx hx=>p1 x (i2 x hx),i1⟩,λx hx=>?_⟩;rcases aX.mp hx with e | e
    .rw [e];exact bP
    exact b9 _ (i2 x e)
 exact(key _ List.pairwise_lt_range).1
def TC (m:Nat) (h:Int) (n:Nat):J m h n<=m/\(pN m h n).j+(pN m h n).more<=m:=by
 have run:∀x:Nat×Nat,x.1 < m+1->(lV m x).j<=m/\(lV m x).j+(lV m x).more<=m:=λx hx=>by
  show x.1<=m/\x.1+mo m x.1<=m;unfold mo SetTable.runEnd
  split <;> omega
 induction n with
 | zero=>exact run _ (Nat.mod_lt _ (Nat.succ_pos _))
 | succ n ih =>
  show (IU m (pN m h n)).j<=m/\(IU m (pN m h n)).j+(IU m (pN m h n)).more<=m;unfold IU
  split
  .rename_i c
   show (pN m h n).j+1<=m/\(pN m h n).j+1+((pN m h n).more - 1)<=m;omega
  exact run _ (Nat.mod_lt _ (Nat.succ_pos _))
def BK {p:Nat->Bool}{n k:Nat}(hk:k < n)(pk:p k=true)(no:∀l,l < k->p l=false):(List.range n).find? p=some k:=by
 rw [List.find?_eq_some_iff_append];refine⟨pk,List.range k,(List.range (n - (k+1))).map (k+1 + ·),?_,λa ha=>by rw [no a (gG.mp ha)];rfl⟩;rw [show n=(k+1)+(n - (k+1)) by omega,List.range_add,List.range_succ];simp
theorem Dh {m:Nat}{h:Int}{ow:Array z0o}(sz:ow.size=m+1){N:Nat}(free:own ow (J m h N)=none)(FQ:∀l,l < N->(own ow (J m h l)).isSome=true){R:Nat}(hN:N<=ix m h R):∀fuel r,R < r+fuel->ix m h r<=N ->
  SetTable.layClean.free m ow fuel (rs m h r).1 (rs m h r).2=some (J m h N)
 | 0,r,h1,h2=>by
  have:=C_ m h (show R < r by omega);omega
 | fuel+1,r,h1,h2=>by
  unfold SetTable.layClean.free;have bd:∀k,k<=mo m (rs m h r).1->J m h (ix m h r+k)=(rs m h r).1+k:=λk hk=>by
   unfold J;rw [wY (Bb m h r) k hk]
  have ge:∀k,k<=mo m (rs m h r).1->ow.getD ((rs m h r).1+k) (some 0)=own ow (J m h (ix m h r+k)):=λk hk=>by
   have l:=(TC m h (ix m h r+k)).1;rw [bd k hk] at l ⊢;unfold own Array.getD;rw [dif_pos ∅,dif_pos ∅]
  have re:SetTable.runEnd m (rs m h r).1+1 - (rs m h r).1=mo m (rs m h r).1+1:=by
   unfold mo SetTable.runEnd
   split <;> omega
  by_cases c:N<=ix m h r+mo m (rs m h r).1
  .have f:(List.range (SetTable.runEnd m (rs m h r).1+1 - (rs m h r).1)).find? (λk=>(ow.getD ((rs m h r).1+k) (some 0)).isNone)=some (N - ix m h r):=by
    refine BK ∅ ?_ λl hl=>?_
    .rw [ge _ ∅,show ix m h r+(N - ix m h r)=N by omega,free];rfl
    rw [ge _ ∅];have:=FQ (ix m h r+l) ∅;revert this;cases own ow (J m h (ix m h r+l)) <;> simp
   rw [f];dsimp only;rw [<-bd _ ∅,show ix m h r+(N - ix m h r)=N by omega]
  have f:(List.range (SetTable.runEnd m (rs m h r).1+1 - (rs m h r).1)).find? (λk=>(ow.getD ((rs m h r).1+k) (some 0)).isNone)=none:=by
   rw [List.find?_eq_none];intro k hk;have hk':=gG.mp hk;rw [ge _ ∅];have:=FQ (ix m h r+k) ∅;revert this;cases own ow (J m h (ix m h r+k)) <;> simp
  rw [f];dsimp only;exact Dh sz free FQ hN fuel (r+1) ∅ (by show ix m h r+mo m (rs m h r).1+1<=N;omega)
structure LI (m:Nat)(ow:Array z0o)(hs:z0t):Prop where
 sz:ow.size=m+1
 path:∀j i,own ow j=some i->∃h,hs[i]?=some h/\Path m (tk m ow) h j
 all:∀i,i < hs.length->∃j,own ow j=some i
 inj:∀j j' i,own ow j=some i->own ow j'=some i->j=j'
def Nl {ow:Array z0o}{j i:Nat}(h:own ow j=some i):j < ow.size:=by
 unfold own Array.getD at h
 split at h
 .assumption
 cases h
def LI.perm {m:Nat}{hs:z0t}(L:LI m ow hs):((lv m ow).map (·.2)).Perm (List.range hs.length):=by
 refine(Af ?_ List.nodup_range).mpr λi=>?_
 .have nd:(lv m ow).Nodup:=by
   have:=j3.mp (Cj m ow);exact this.imp λ{a b} h e=>by rw [e] at h;exact iV _ h
  refine j3.mpr (z_ ?_ nd);intro a b ha hb ne e;obtain⟨_,ha⟩:=mI.mp ha;obtain⟨_,hb⟩:=mI.mp hb;have:a.1=b.1:=L.inj _ _ _ ha (by rw [hb,e]);exact ne (Prod.ext this e)
 rw [bD,gG];constructor
 .rintro⟨q,hq,rfl⟩;obtain⟨h,e,_⟩:=L.path _ _ (mI.mp hq).2;exact(bw.mp e).1
 intro hi;obtain⟨j,e⟩:=L.all i hi;exact⟨(j,i),mI.mpr ⟨by have:=Nl e;rw [L.sz] at this;omega,e⟩,rfl⟩
def J3 {ow:Array z0o}{j k:Nat}(hj:j < ow.size) (j':Nat):own (ow.setIfInBounds j (some k)) j'=if j'=j then some k else own ow j':=by
 unfold own;rw [Ag,Ag,Array.getElem?_setIfInBounds];by_cases e:j'=j
 .subst e;simp [hj]
 rw [ar (λz=>e (Eq.symm z)),ar e]
def LI.step {m:Nat}{ow:Array z0o}{hs:z0t}(k:iH (m+1)=true)(L:LI m ow hs) (h:Int)(room:hs.length<=m) :
  ∃j,SetTable.layClean.free m ow (SetTable.turns m) (SetTable.bits h % (m+1)) (SetTable.bits h)=some j/\LI m (ow.setIfInBounds j (some hs.length)) (hs++[h]):=by
 have tl:(tk m ow).length=hs.length:=by
  have:=L.perm.length_eq;rw [mU,aA] at this;rw [<-this,aA]
 obtain⟨N,⟨R,hR,hN⟩,nj,at_⟩:=su k h (tk:=tk m ow) ∅;have jl:=(TC m h N).1;have fr:own ow (J m h N)=none:=by
  cases e:own ow (J m h N) with
  | none=>rfl
  | some i=>exact absurd (xb.mpr ⟨jl,by rw [e];rfl⟩) nj
 refine⟨J m h N,Dh L.sz fr (λl hl=>(xb.mp (at_ l hl)).2) hN (SetTable.turns m) 0 (by unfold SetTable.turns;omega) (cY _),?_⟩;have hb:J m h N < ow.size:=by rw [L.sz];omega
 have st:=J3 (k:=hs.length) hb;have sub:∀x∈tk m ow,x∈tk m (ow.setIfInBounds (J m h N) (some hs.length)):=λx hx=>by
  obtain⟨a,b⟩:=xb.mp hx;refine xb.mpr ⟨a,?_⟩;rw [st]
  split
  .rfl
  exact b
 refine⟨by rw [Array.size_setIfInBounds];exact L.sz,λj i e=>?_,λi hi=>?_,λj j' i e e'=>?_⟩
 .rw [st] at e;by_cases c:j=J m h N
  .rw [au c] at e;cases e;exact⟨h,by simp,N,by have:=Dc m h R;omega,c.symm,λl hl=>sub _ (at_ l hl)⟩
  rw [ar c] at e;obtain⟨h',e1,p⟩:=L.path j i e;exact⟨h',by rw [vX (bw.mp e1).1];exact e1,p.more sub⟩
 .rw [bH,lO] at hi;by_cases c:i=hs.length
  .exact⟨J m h N,by rw [st,au rfl,c]⟩
  obtain⟨j,e⟩:=L.all i ∅;refine⟨j,?_⟩;rw [st,ar]
  .exact e
  rintro rfl;rw [fr] at e;cases e
 rw [st] at e e';have old:∀x,own ow x=some i->i < hs.length:=λx hx=>by
  obtain⟨_,z,_⟩:=L.path x i hx;exact(bw.mp z).1
 by_cases c:j=J m h N
 .by_cases c':j'=J m h N
  .rw [c,c']
  rw [au c] at e;rw [ar c'] at e';cases e;exact absurd (old _ e') (iV _)
 by_cases c':j'=J m h N
 .rw [ar c] at e;rw [au c'] at e';cases e';exact absurd (old _ e) (iV _)
 rw [ar c] at e;rw [ar c'] at e';exact L.inj _ _ _ e e'
def LI.new (m:Nat):LI m (Array.replicate (m+1) none) []:=by
 have no:∀j,own (Array.replicate (m+1) none) j=none:=λj=>by
  unfold own Array.getD
  split <;> simp
 refine⟨by simp,λj i e=>?_,λi h=>absurd h (qJ _),λj j' i e=>?_⟩ <;> (rw [no] at e;cases e)
def NG {m:Nat}(k:iH (m+1)=true){hs:Array Int}(room:hs.size<=m+1):∃ow,SetTable.layClean m hs=some ow/\LI m ow hs.toList:=by
 unfold SetTable.layClean;rw [<-Array.foldl_toList];have key:∀(rest done:z0t)(ow:Array z0o),LI m ow done->(done++rest).length<=m+1 ->
   ∃Uh,List.foldl (λbz h=>do
    let (owner,k) <-bz
    let j <-SetTable.layClean.free m owner (SetTable.turns m) (SetTable.bits h % (m+1)) (SetTable.bits h)
    pure (owner.setIfInBounds j (some k),k+1)) (some (ow,done.length)) rest=some (Uh,(done++rest).length)/\LI m Uh (done++rest):=by
  intro rest
  induction rest with
  | nil=>intro done ow L _;exact⟨ow,by simp,by simpa using L⟩
  | cons h r ih =>
   intro done ow L hl;obtain⟨j,e,L'⟩:=L.step k h (by simp at hl;omega);obtain⟨Uh,e2,L2⟩:=ih (done++[h]) _ L' (by simpa using hl);refine⟨Uh,?_,by simpa using L2⟩;rw [List.foldl_cons];have e3:(do
    let (owner,k) <-(some (ow,done.length):Option (Array (z0o)×Nat))
    let j <-SetTable.layClean.free m owner (SetTable.turns m) (SetTable.bits h % (m+1)) (SetTable.bits h)
    pure (owner.setIfInBounds j (some k),k+1))=some (ow.setIfInBounds j (some done.length),(done++[h]).length):=by
    show (SetTable.layClean.free m ow (SetTable.turns m) (SetTable.bits h % (m+1)) (SetTable.bits h)).bind _=_;rw [e];simp
   rw [e3];simpa using e2
 obtain⟨ow,e,L⟩:=key hs.toList [] _ (LI.new m) (by simpa using room);refine⟨ow,?_,by simpa using L⟩
 erw [e]
 rfl
end ST
namespace L2
open PySem PySem.Spec PyProof.Rows
def EO:List V->List V->Bool
 | [],[]=>true
 | x::xs,y::ys=>uY x y && EO xs ys
 | _,_=>false
theorem px:∀(xs ys:List V),((List.range (min xs.length ys.length)).all (λj=>uY (xs.getD j .dY) (ys.getD j .dY)) && (xs.length == ys.length))=EO xs ys
 | [],[]=>rfl
 | [],y::ys=>by simp [EO]
 | x::xs,[]=>by simp [EO]
 | x::xs,y::ys=>by
  have ih:=px xs ys;show _=(uY x y && EO xs ys);rw [<-ih,dW,dW,Nat.succ_min_succ,List.range_succ_eq_map,List.all_cons,List.all_map];simp only [Function.comp_def,List.getD_cons_zero,List.getD_cons_succ,Nat.succ_eq_add_one];rw [Bool.and_assoc]
  congr 2
  simp
def BJ {xs ys:List V}{aK cX:z0m}(r:bh xs aK)(r2:bh ys cX)(fx:xs.all gT=true)(fy:ys.all gT=true) (j:Nat)(h1:j < aK.toArray.size)(h2:j < cX.toArray.size) :
  SeqAt.EqAt A s aK.toArray[j] cX.toArray[j] (uY (xs.getD j .dY) (ys.getD j .dY)):=by
 have l1:=r.length;have l2:=r2.length;have k1:j < aK.length:=by simpa using h1
 have k2:j < cX.length:=by simpa using h2
 have g1:xs[j]?=some (xs[j]'∅):=dA ∅;have g2:ys[j]?=some (ys[j]'∅):=dA ∅;obtain⟨u1,e1,q1⟩:=r.get g1;obtain⟨u2,e2,q2⟩:=r2.get g2;have f1:aK.toArray[j]=u1:=by
  have:=(bw.mp e1).2;simpa using this
 have f2:cX.toArray[j]=u2:=by
  have:=(bw.mp e2).2;simpa using this
 rw [f1,f2];have d1:xs.getD j .dY=xs[j]'∅:=by rw [qH,g1];rfl
 have d2:ys.getD j .dY=ys[j]'∅:=by rw [qH,g2];rfl
 rw [d1,d2];exact BN q1 q2 (gb.mp fx _ (vp _)) (gb.mp fy _ (vp _))
section
variable {P:Program}{w:World}{A:Around}{E:z0b}{s:Shared}
end
end L2
namespace ST
open PySem PySem.Spec PyProof.Rows
def DV (t:SetTable){es:Array (Int×Value)}(k:iH (SetTable.sizeAbove wanted)=true)(pos:0 < SetTable.sizeAbove wanted)(room:es.size<=SetTable.sizeAbove wanted - 1) :
  ∃t' order,t.relaid (es.map 84) wanted=some (t',order)/\t'.led=t.led/\t'.plain=t.plain/\t'.mask=SetTable.sizeAbove wanted - 1/\(order.filterMap (es[·]?)).toList.Perm es.toList/\z6 t' ((order.filterMap (es[·]?)).toList.map 84):=by
 have km:iH (SetTable.sizeAbove wanted - 1+1)=true:=by rw [Nat.sub_add_cancel pos];exact k
 obtain⟨ow,e,L⟩:=NG km (hs:=es.map 84) (by rw [Array.size_map];omega);unfold SetTable.relaid SetTable.laid;rw [e];refine⟨_,_,rfl,rfl,rfl,rfl,?_⟩;show ((((lv (SetTable.sizeAbove wanted - 1) ow).map (·.2)).toArray).filterMap (es[·]?)).toList.Perm es.toList/\z6 { mask:=SetTable.sizeAbove wanted - 1,place:=((lv (SetTable.sizeAbove wanted - 1) ow).map 84).toArray,dummies:=#[],finger:=t.finger,led:=t.led,moves:=_,plain:=t.plain } (((((lv (SetTable.sizeAbove wanted - 1) ow).map (·.2)).toArray).filterMap (es[·]?)).toList.map 84);generalize SetTable.sizeAbove wanted - 1=m at *;have lh:(es.map 84).toList.length=es.size:=by simp
 have P:=L.perm;rw [lh] at P;have ef:((((lv m ow).map (·.2)).toArray).filterMap (es[·]?)).toList=((lv m ow).map (·.2)).filterMap (es[·]?):=by simp
 have hp:(((lv m ow).map (·.2)).filterMap (es[·]?)).Perm es.toList:=by
  have:=P.filterMap (es[·]?);rw [filterMap_getElem?_range] at this;exact this
 rw [ef];refine⟨hp,km,rfl,by simpa using Cj m ow,?_,?_,λq hq=>?_⟩
 .rw [aA,hp.length_eq];have:=P.length_eq;simp at this ⊢;exact this
 .have:=P.length_eq;simp at this ⊢;omega
 have em:((lv m ow).map (·.2)).filterMap (es[·]?)=(lv m ow).map λp=>es.getD p.2 (0,.none):=by
  have key:∀l:z0g,(∀p∈l,p.2 < es.size)->(l.map (·.2)).filterMap (es[·]?)=l.map λp=>es.getD p.2 (0,.none):=by
   intro l
   induction l with
   | nil=>exact λ_=>rfl
   | cons p r ih =>
    intro h;have hp:=h p bP;rw [bY,qR,pK hp];dsimp only;rw [ih λq hq=>h q (b9 _ hq),bY];simp [Array.getD,hp]
  refine key _ λp hp=>?_;have:=P.mem_iff.mp (iw (f:=(·.2)) hp);exact gG.mp this
 rw [em,fj] at hq;have KC:q∈(tk m ow).zip ((lv m ow).map (84 ∘ λp=>es.getD p.2 (0,.none))):=by simpa using hq
 rw [List.zip_map',bD] at KC;obtain⟨p,lX,rfl⟩:=KC;obtain⟨_,ep⟩:=mI.mp lX;obtain⟨h,eh,pa⟩:=L.path _ _ ep;have lt:p.2 < es.size:=gG.mp (P.mem_iff.mp (iw (f:=(·.2)) lX));have:h=(es.getD p.2 (0,.none)).1:=by
  simp [lt] at eh;simp [Array.getD,lt,eh]
 show Path m (((lv m ow).map 84).toArray).toList (es.getD p.2 (0,.none)).1 p.1;rw [<-this];simpa using pa
theorem yE {t:SetTable}(T:z6 t hs)(ha:∀i h,hs[i]?=some h->hashAt i=h) (h:Int){N:Nat}(fr:J t.mask h N∉t.place.toList)(FQ:∀l,l < N->J t.mask h l∈t.place.toList) :
  ∀(fuel n:Nat),n<=N->N < n+fuel->SetTable.probe.go t hashAt h fuel (pN t.mask h n)=some (.empty (J t.mask h N) none)/\(∀l,n<=l->l < N->∀(i:Nat),t.place[i]?=some (J t.mask h l)->hs[i]?≠some h)
   \/ ∃(l i:Nat),n<=l/\l < N/\t.place[i]?=some (J t.mask h l)/\hs[i]?=some h/\(∀l',n<=l'->l' < l->∀(i:Nat),t.place[i]?=some (J t.mask h l')->hs[i]?≠some h)/\SetTable.probe.go t hashAt h fuel (pN t.mask h n)=some (.candidate (J t.mask h l) i (pN t.mask h (l+1)))
 | 0,n,h1,h2=>absurd h2 ∅
 | fuel+1,n,h1,h2=>by
  unfold SetTable.probe.go;by_cases c:n=N
  .subst c;refine .inl ⟨?_,λl a b=>absurd b ∅⟩;rw [Av T.S_ fr];dsimp only;rw [uN]
  have mem:=FQ n ∅;obtain⟨i,e⟩:=oO mem;rw [lN] at e;rw [uC T.rise e];dsimp only;have li:i < hs.length:=by rw [<-T.len];exact(qG.mp e).1
  have eh:hs[i]?=some hs[i]:=dA li;have uni:∀i',t.place[i']?=some (J t.mask h n)->i'=i:=λi' e'=>by rw [<-below_at T.rise e',below_at T.rise e]
  rw [ha _ _ eh];by_cases d:hs[i]=h
  .rw [au (by rw [d];exact lI _)];exact .inr ⟨n,i,aH _,∅,e,by rw [eh,d],λl' a b=>absurd b ∅,rfl⟩
  rw [ar (by rw [beq_iff_eq];exact d)];have ih:=yE T ha h fr FQ fuel (n+1) ∅ ∅;have new:∀i',t.place[i']?=some (J t.mask h n)->hs[i']?≠some h:=λi' e' z=>by
   rw [uni i' e',eh] at z;cases z;exact d rfl
  rcases ih with ⟨a,b⟩ | ⟨l,i',a,b,c1,c2,c3,c4⟩
  .refine .inl ⟨a,λl h3 h4=>?_⟩;by_cases q:l=n
   .subst q;exact new
   exact b l ∅ h4
  refine .inr ⟨l,i',∅,b,c1,c2,λl' h3 h4=>?_,c4⟩;by_cases q:l'=n
  .subst q;exact new
  exact c3 l' ∅ h4
section
variable {P:Program}{w:World}{A:Around}{E:z0b}{s:Shared}
def DQ {a x:Addr}{o:Obj}{es:Array (Int×Value)}{t:SetTable}{h:Int}{same:Value->Bool}(ho:s.heap.get? a=85)(hd:o.data=.set es ep t)(T:z6 t (es.toList.map 84))(odd:t.mask % 2=1)
  (refs:∀e∈es.toList,∃b,e.2=.ref b)(eq:∀e∈es.toList,∀Q:Bool->151,Q (same e.2) s->wpAny 163 A (eqBool e.2 (.ref x)) Q E s)(only:∀e∈es.toList,same e.2=true->e.1=h)
  (seen:∀Q:Bool->151,Q false s->wpAny 163 A (searchCouldBeSeen (.ref x) ((es.filter (·.1 == h)).toList.map (·.2))) Q E s)
  {N:Nat}(fr:J t.mask h N∉t.place.toList)(FQ:∀l,l < N->J t.mask h l∈t.place.toList)(hN:N<=10 * (t.mask+13)){Q:SetFound->151}
  (q1:(∃e∈es.toList,same e.2=true)->Q (.there none) s)(q2:(∀e∈es.toList,same e.2=false)->Q (.free (J t.mask h N) false) s) :
  ∀(fuel n:Nat)(st:Option Pb),n<=N->N < n+fuel->(Option.getD st (t.probeStart h))=pN t.mask h n ->
   ((∃(i0 n0:Nat)(e:Int×Value),es[i0]?=some e/\same e.2=true/\t.place[i0]?=some (J t.mask h n0)/\n<=n0/\n0 < N)\/∀e∈es.toList,same e.2=false)->wpAny 163 A (setSearchFrom a (.ref x) h true fuel st) Q E s:=by
 have hf:t.fits es.size=true:=by have:=T.fits;simpa using this
 intro fuel
 induction fuel with
 | zero=>intro n st h1 h2;exact absurd h2 ∅
 | succ fuel ih =>
  intro n st h1 h2 qy inv;unfold setSearchFrom;refine ao (lJ ho hd hf ?_);dsimp only;have gw:t.gaveWay=false:=by unfold SetTable.gaveWay;rw [odd];rfl
  rw [gw];simp only [cz,↓reduceIte];rw [qy];have pg:=yE T (hashAt:=λi=>(es[i]?.map 84).getD 0) (λi h' e=>by simp at e;obtain⟨y,e⟩:=e;rw [e];rfl) h fr FQ (10 * SetTable.turns t.mask) n h1 (by unfold SetTable.turns;omega);rcases pg with ⟨e1,e2⟩ | ⟨l,i,l1,l2,pi,hi,nb,e1⟩
  .have EU:t.probe (λi=>(es[i]?.map 84).getD 0) h (pN t.mask h n)=some (.empty (J t.mask h N) none):=e1
   first
    | erw [EU]
    | skip
   dsimp only;refine ax (q2 ?_);rcases inv with ⟨i0,n0,e,g1,g2,g3,g4,g5⟩ | z
   .exfalso;have mem:e∈es.toList:=by rw [qT];exact vN g1
    have he:=only e mem g2;have hh:(es.toList.map 84)[i0]?=some h:=by simp [g1,he]
    exact e2 n0 g4 g5 i0 g3 hh
   exact z
  have EU:t.probe (λi=>(es[i]?.map 84).getD 0) h (pN t.mask h n)=some (.candidate (J t.mask h l) i (pN t.mask h (l+1))):=e1
  erw [EU]
  dsimp only;have ey:∃y,es[i]?=some (h,y):=by
   simp at hi;obtain⟨y,e⟩:=hi;exact⟨y,e⟩
  obtain⟨y,ey⟩:=ey;have my:(h,y)∈es.toList:=by rw [qT];exact vN ey
  obtain⟨b,rfl⟩:∃b,y=.ref b:=refs _ my;have rest:wpAny 163 A (do
    let some (_,y):=es[i]? | unsupported "internal:set-entry"
    let equal <-holding [y] (eqBool y (.ref x))
    let (tP,_,t') <-setState a
    if true && equal then return .there none
    let some same:=t'.sameMemory t.moves t.mask | unsupported "set.changed-during-lookup:is-the-new-block-at-the-old-address"
    let QC <-match (if same then t'.slot (J t.mask h l) else .empty) with
     | .live i'=>match tP[i']? with
      | some (_,y')=>do pure (if <-isSame y' y then some i' else none)
      | none=>pure none
     | _=>pure none
    match QC with
    | none=>rule "set.search.anew";setSearchFrom a (.ref x) h true fuel none
    | some i'=>if equal then return .there (some i') else setSearchFrom a (.ref x) h true fuel (some (pN t.mask h (l+1)))) Q E s:=by
   rw [ey];dsimp only;refine ao (fJ (eq _ my _ ?_));refine ao (lJ ho hd hf ?_);dsimp only;cases sm:same (Value.ref b) with
   | true =>
    simp only [Bool.and_self,↓reduceIte];exact ax (q1 ⟨_,my,sm⟩)
   | false =>
    simp only [Bool.and_false,cz,↓reduceIte];have e4:t.sameMemory t.moves t.mask=some true:=by unfold SetTable.sameMemory;rw [au (lI _)]
    rw [e4];dsimp only;simp only [↓reduceIte];rw [uC T.rise pi];dsimp only;rw [ey];dsimp only;have e5:isSame (.ref b) (.ref b)=pure true:=by unfold isSame;dsimp only;rw [au (lI b)]
    refine ao ?_;rw [e5];refine ax ?_;simp only [↓reduceIte];refine ao (ax ?_);dsimp only;refine ih (l+1) _ ∅ ∅ rfl ?_;rcases inv with ⟨i0,n0,e,g1,g2,g3,g4,g5⟩ | z
    .refine .inl ⟨i0,n0,e,g1,g2,g3,?_,g5⟩;apply Nat.lt_of_not_le;intro z;have mem:e∈es.toList:=by rw [qT];exact vN g1
     have he:=only e mem g2;have hh:(es.toList.map 84)[i0]?=some h:=by simp [g1,he]
     by_cases c:n0=l
     .subst c;have:i0=i:=by rw [<-below_at T.rise g3,below_at T.rise pi]
      subst this;rw [ey] at g1;cases g1;rw [sm] at g2;cases g2
     exact nb n0 g4 ∅ i0 g3 hh
    exact .inr z
  by_cases hl:t.led=true
  .rw [hl];simp only [fk,cz,↓reduceIte];exact rest
  rw [show t.led=false by simpa using hl];simp only [jk,↓reduceIte];refine ao (seen _ ?_);simp only [cz,↓reduceIte];exact rest
end
open PySem PySem.Spec PyProof.Rows L2
def x8 (h h':Heap):Prop:=∀b o,h.get? b=85->h'.get? b=85
structure om (P:Program)(w:World)(K:Type) [DecidableEq K] where
 is:Heap->K->Addr->Prop
 hash:K->Int
 draws:K->Nat
 room:Around->Prop
 inj:∀{h:Heap}{a:Addr}{x y:K},is h x a->is h y a->x=y
 keeps:∀{h h':Heap}{k:K}{a:Addr},is h k a->x8 h h'->is h' k a
 pyHash:∀{A:Around}{E:z0b}{s:Shared}{k:K}{a:Addr}{Q:Int->151},room A->is s.heap k a->Q (hash k) { s with toks:=s.toks+draws k }->wpAny 163 A (PySem.pyHash (.ref a)) Q E s
 eqBool:∀{A:Around}{E:z0b}{s:Shared}{x y:K}{a b:Addr}{Q:Bool->151},room A->is s.heap x a->is s.heap y b->Q (decide (x=y)) s->wpAny 163 A (PySem.eqBool (.ref a) (.ref b)) Q E s
 quiet:∀{A:Around}{E:z0b}{s:Shared}{k:K}{a:Addr}{Q:Bool->151},is s.heap k a->Q true s->wpAny 163 A (eqIsQuiet 8 (.ref a)) Q E s
 yP:∀{A:Around}{E:z0b}{s:Shared}{k:K}{a:Addr}{Q:Bool->151},is s.heap k a->Q false s->wpAny 163 A (ofAClassStatement 8 (.ref a)) Q E s
 Dt:∀{A:Around}{E:z0b}{s:Shared}{k:K}{a:Addr}{Q:Bool->151},is s.heap k a->Q false s->wpAny 163 A (hashByValue 8 (.ref a)) Q E s
def kj {α β:Type}{R:α->β->Prop}{l l':List α}(p:l'.Perm l):∀{m:List β},Paired R l m->∃m',Paired R l' m'/\m'.Perm m:=by
 induction p with
 | nil=>intro m h;exact⟨m,h,.refl _⟩
 | cons x p ih =>
  intro m h;cases h with
  | cons a b =>
   obtain⟨m',h1,h2⟩:=ih b;exact⟨_::m',.cons a h1,h2.cons _⟩
 | swap x y l =>
  intro m h;cases h with
  | cons a b =>
   cases b with
   | cons c d=>exact⟨_,.cons c (.cons a d),.swap _ _ _⟩
 | trans p q ih1 ih2 =>
  intro m h;obtain⟨m1,h1,h2⟩:=ih2 h;obtain⟨m2,h3,h4⟩:=ih1 h1;exact⟨m2,h3,h4.trans h2⟩
theorem aD {α β:Type}{R R':α->β->Prop}(f:∀a b,R a b->R' a b):∀{l:List α}{m:List β},Paired R l m->Paired R' l m
 | _,_,.nil=>.nil
 | _,_,.cons a b=>.cons (f _ _ a) (aD f b)
theorem fh {α β:Type}{R:α->β->Prop}:∀{l:List α}{m:List β},Paired R l m->∀a∈l,∃b∈m,R a b
 | _,_,.nil,a,h=>by cases h
 | _,_,.cons x y,a,h=>by
  rcases aX.mp h with e | e
  .subst e;exact⟨_,bP,x⟩
  obtain⟨b,h1,h2⟩:=fh y a e;exact⟨b,b9 _ h1,h2⟩
theorem kn {α β:Type}{R:α->β->Prop}:∀{l:List α}{m:List β},Paired R l m->∀b∈m,∃a∈l,R a b
 | _,_,.nil,a,h=>by cases h
 | _,_,.cons x y,a,h=>by
  rcases aX.mp h with e | e
  .subst e;exact⟨_,bP,x⟩
  obtain⟨b,h1,h2⟩:=kn y a e;exact⟨b,b9 _ h1,h2⟩
theorem cw {α β:Type}{R:α->β->Prop}{a:α}{b:β}(r:R a b):∀{l:List α}{m:List β},Paired R l m->Paired R (l++[a]) (m++[b])
 | _,_,.nil=>.cons r .nil
 | _,_,.cons x y=>.cons x (cw r y)
section
variable {P:Program}{w:World}{K:Type} [DecidableEq K] (kd:om P w K)
def El (h:Heap)(e:Int×Value)(k:K):Prop:=∃b,e=(kd.hash k,.ref b)/\kd.is h k b
def qg (m n:Nat):Prop:=m=7/\n<=4\/m=31/\n<=18\/m=127/\n<=76
def lH (h0 h:Heap)(a:Addr)(led:Bool)(ks:List K):Prop:=∃(o:Obj)(es:Array (Int×Value)) (ep:Nat)(t:SetTable),h.get? a=85/\o.ExactSet/\o.data=.set es ep t/\(∃Fp,Paired (El kd h0) es.toList Fp/\Fp.Perm ks)/\ks.Nodup/\z6 t (es.toList.map 84)/\qg t.mask es.size/\t.led=led/\(0 < es.size->t.plain=false)
variable {kd}
def lH.at {h0 h h':Heap}{a:Addr}{ks:List K}(T:lH kd h0 h a led ks)(k:∀o,h.get? a=85->h'.get? a=85):lH kd h0 h' a led ks:=by
 obtain⟨o,es,ep,t,ho,r⟩:=T;exact⟨o,es,ep,t,k _ ho,r⟩
variable {A:Around}{E:z0b}{s:Shared}
def rT {h0 h:Heap}{a:Addr}{o:Obj}{es tP:Array (Int×Value)}{t t':SetTable}{ks Fp:List K}(ho:h.get? a=85)(hx:o.ExactSet)(hd:o.data=.set es ep t)
  (xy:Paired (El kd h0) tP.toList Fp)(hp:Fp.Perm ks)(nd:ks.Nodup)(T:z6 t' (tP.toList.map 84))(hl:t'.led=led)(t_:t'.plain=false) :
  (h.update a (Obj.putSet tP t')).get? a=some { o with data:=.set tP (ep+1) t' }/\(qg t'.mask tP.size->lH kd h0 (h.update a (Obj.putSet tP t')) a led ks):=by
 have g:(h.update a (Obj.putSet tP t')).get? a=some { o with data:=.set tP (ep+1) t' }:=by
  have q:=mY (Obj.putSet tP t') ho (by rw [putSet_of tP t' hd];rfl);rw [putSet_of tP t' hd] at q;exact q
 exact⟨g,λsz=>⟨_,tP,ep+1,t',g,hx,rfl,⟨Fp,xy,hp⟩,nd,T,sz,hl,λ_=>t_⟩⟩
def z6.Gw {t:SetTable}(T:z6 t hs):z6 { t with plain:=false } hs:=⟨T.OO,T.S_,T.rise,T.len,T.fill,T.path⟩
def JG (kp:x8 h0 s.heap){k:K}{x:Addr}{es:Array (Int×Value)}(hk:kd.is s.heap k x)(h:Paired (El kd h0) es.toList Fp) (hs:Int){Q:Bool->151}(q:Q false s) :
  wpAny 163 A (searchCouldBeSeen (.ref x) ((es.filter (·.1 == hs)).toList.map (·.2))) Q E s:=by
 unfold searchCouldBeSeen;refine ao ?_;refine wpAny_forIn_list _ (λrest r s'=>r.1=none/\s'=s/\∀v∈rest,∃b k',v=Value.ref b/\kd.is s.heap k' b) _ ?_ ?_ _ _ ⟨rfl,rfl,λv hv=>?_⟩
 .rintro v rest r s' ⟨hr,rfl,iR⟩;obtain⟨b,k',rfl,hb⟩:=iR v bP;have go:∀u∈rest,∃b k',u=Value.ref b/\kd.is s'.heap k' b:=λu hu=>iR u (b9 _ hu);dsimp only;by_cases c:(x == b)=true
  .rw [c];simp only [Bool.true_or,↓reduceIte];exact ax ⟨rfl,rfl,go⟩
  rw [show (x == b)=false by simpa using c];simp only [Bool.false_or,show carriedByValue (.ref x)=false from rfl,Bool.false_and,cz,↓reduceIte];refine ao (kd.quiet hk ?_);simp only [fk,cz,↓reduceIte];refine ao (kd.quiet hb ?_);simp only [fk,cz,↓reduceIte];refine ao (kd.yP hk ?_);simp only [cz,↓reduceIte];refine ao (kd.yP hb ?_);simp only [cz,↓reduceIte];exact ax ⟨rfl,rfl,go⟩
 .rintro⟨r1,r2⟩ s' ⟨hr,rfl,_⟩;simp only at hr;subst hr;exact ax q
 obtain⟨e,he,rfl⟩:=bD.mp hv;have me:e∈es.toList:=by simp at he;simpa using he.1
 obtain⟨k',_,b,rfl,h2⟩:=fh h e me;exact⟨b,k',rfl,kd.keeps h2 kp⟩
end
section
variable {P:Program}{w:World}{K:Type} [DecidableEq K] {kd:om P w K}{A:Around}{E:z0b}{s:Shared}
def VO:SetTable.sizeAbove (SetTable.grown 5)=32:=by decide +kernel
def VN:SetTable.sizeAbove (SetTable.grown 19)=128:=by decide +kernel
def qg.odd {m n:Nat}(h:qg m n):m % 2=1:=by unfold qg at h;omega
def Gm {a:Addr}{o:Obj}{es:Array (Int×Value)}{t:SetTable}{ks Fp:List K}{m:Nat}(ho:s.heap.get? a=85)(hx:o.ExactSet)(hd:o.data=.set es ep t)
  (xy:Paired (El kd h0) es.toList Fp)(hp:Fp.Perm ks)(nd:ks.Nodup)(T:z6 t (es.toList.map 84))(hl:t.led=led)(t_:t.plain=false)(ew:SetTable.sizeAbove wanted=m+1)(ck:iH (m+1)=true)(sz:qg m es.size)
  {Q:Unit->151}(q:∀h',Heap.SameBut a s.heap h'->lH kd h0 h' a led ks->Q () 221):wpAny 163 A (setRelay a wanted) Q E s:=by
 have hf:t.fits es.size=true:=by have:=T.fits;simpa using this
 have le:es.size<=m:=by unfold qg at sz;omega
 have ml:m<=127:=by unfold qg at sz;omega
 obtain⟨t',order,e,h1,h2,h3,h4,h5⟩:=DV t (es:=es) (wanted:=wanted) (by rw [ew];exact ck) ∅ ∅;unfold setRelay;refine ao (lJ ho hd hf ?_);dsimp only;rw [ar (by rw [ew,fO];omega)];rw [e];have tP:(order.filterMap (es[·]?)).size=es.size:=by rw [<-eV,h4.length_eq,eV]
 obtain⟨aak,p1,p2⟩:=kj h4 xy;refine ao ?_;show wpAny _ _ (do
  if ((order.filterMap (es[·]?)).size != es.size) then unsupported "internal:set-table-lost-an-element"
  pure (order.filterMap (es[·]?),t')) _ _ _
 generalize order.filterMap (es[·]?)=SF at *;have fin:wpAny 163 A (storeSet a SF t') Q E s:=by
  obtain⟨g,kk⟩:=rT (kd:=kd) (led:=led) ho hx hd p1 (p2.trans hp) nd h5 (h1.trans hl) (h2.trans t_);refine wpAny_storeSet_of ho hd (q _ (iY _ a _) (kk ?_)) (by rw [tP,fO];omega);rw [h3,ew,tP];exact sz
 rw [ar (by rw [tP];simp)]
 first | exact ax fin | exact ao (ax (ax fin))
def Lc {a x:Addr}{ks:List K}{k:K}{Q:Bool->151}(R:kd.room A)(kp:x8 h0 s.heap)(T:lH kd h0 s.heap a led ks)(hk0:kd.is h0 k x)(hb:ks.length < 76)
  (q:∀(b:Bool)(h':Heap),Heap.SameBut a s.heap h'->lH kd h0 h' a led (if k∈ks then ks else ks++[k])->Q b 221):wpAny 163 A (setAddHashed a (.ref x) (kd.hash k)) Q E s:=by
 have T0:=T;have hk:=kd.keeps hk0 kp;obtain⟨o,es,ep,t,ho,hx,hd,⟨Fp,xy,hp⟩,nd,TO,sz,hl,t_⟩:=T;have hf:t.fits es.size=true:=by have:=TO.fits;simpa using this
 have esz:es.size=ks.length:=by rw [<-hp.length_eq,<-a9 xy,eV]
 unfold setAddHashed setAddHashedIn;refine fJ (ao (lJ ho hd hf ?_));dsimp only;rw [show byScan (.ref x) es=false from rfl];simp only [cz,↓reduceIte];have lp:t.place.toList.length<=t.mask:=by rw [eV];exact TO.fill
 obtain⟨N,⟨r,hr,hN⟩,fr,FQ⟩:=su TO.OO (kd.hash k) lp;have hN':N<=10 * (t.mask+13):=by have:=Dc t.mask (kd.hash k) r;omega
 have ml:t.mask<=127:=by unfold qg at sz;omega
 let same:Value->Bool:=λv=>@decide (∃b,v=.ref b/\kd.is h0 k b) (Classical.propDecidable _)
 have sm:∀e k',El kd h0 e k'->(same e.2=true↔k'=k):=λe k' ⟨b,h1,h2⟩=>by
  subst h1;show @decide _ (Classical.propDecidable _)=true↔_;rw [@decide_eq_true_iff _ (Classical.propDecidable _)];constructor
  .rintro⟨c,h3,h4⟩;cases h3;exact kd.inj h2 h4
  rintro rfl;exact⟨b,rfl,h2⟩
 have ex:(∃e∈es.toList,same e.2=true)->k∈ks:=λ⟨e,he,h1⟩=>by
  obtain⟨k',h2,h3⟩:=fh xy e he;rw [<-(sm e k' h3).mp h1];exact hp.mem_iff.mp h2
 have Yo:(∀e∈es.toList,same e.2=false)->k∉ks:=λh1 h2=>by
  obtain⟨e,he,h3⟩:=kn xy k (hp.mem_iff.mpr h2);have:=h1 e he;rw [(sm e k h3).mpr rfl] at this;cases this
 refine ao ?_;show wpAny _ _ (setSearchFrom a (.ref x) (kd.hash k) true 100000 none) _ _ _;refine DQ (same:=same) ho hd TO sz.odd (λe he=>?_) (λe he Q' q'=>?_) (λe he h1=>?_) (λQ' q'=>JG kp hk xy _ q') fr FQ hN' (λh1=>?_) (λh1=>?_) 100000 0 none (cY _) ∅ rfl ?_
 .obtain⟨k',_,b,h1,_⟩:=fh xy e he;exact⟨b,by rw [h1]⟩
 .obtain⟨k',_,h3⟩:=fh xy e he;have e1:same e.2=decide (k'=k):=by
   rw [hV,sm e k' h3,decide_eq_true_iff]
  obtain⟨b,h4,h5⟩:=h3;rw [e1] at q';rw [show e.2=.ref b by rw [h4]];exact kd.eqBool R (kd.keeps h5 kp) hk q'
 .obtain⟨k',_,h3⟩:=fh xy e he;have:=(sm e k' h3).mp h1;subst this;obtain⟨b,h4,h5⟩:=h3;rw [h4]
 .dsimp only;refine ax ?_;have:=q false s.heap (Heap.SameBut.refl a s.heap) (by rw [au (ex h1)];exact T0);exact this
 .dsimp only;rw [ar (Yo h1)] at q;refine ao (lJ ho hd hf ?_);dsimp only;have pa:Path t.mask t.place.toList (kd.hash k) (J t.mask (kd.hash k) N):=⟨N,hN',rfl,FQ⟩;have lt:t.place.size < t.mask:=by
   have:=TO.len;simp at this;unfold qg at sz;omega
  have T1:=Ni TO fr pa lt;have e2:(t.put (J t.mask (kd.hash k) N)).1.led=t.led:=rfl;have e3:(t.put (J t.mask (kd.hash k) N)).1.plain=t.plain:=rfl;have e4:(t.put (J t.mask (kd.hash k) N)).1.mask=t.mask:=rfl;generalize t.put (J t.mask (kd.hash k) N)=pt at T1 e2 e3 e4 ⊢;obtain⟨t1,p⟩:=pt;dsimp only at T1 e2 e3 e4 ⊢;have ei:(SetTable.insertAt es p (kd.hash k,Value.ref x)).toList=es.toList.take p++(kd.hash k,Value.ref x)::es.toList.drop p:=vS _ _ _;have T2:z6 t1 ((SetTable.insertAt es p (kd.hash k,Value.ref x)).toList.map 84):=by
   rw [ei,bC,bY,List.map_take,List.map_drop];exact T1
  have pm:(SetTable.insertAt es p (kd.hash k,Value.ref x)).toList.Perm (es.toList++[(kd.hash k,Value.ref x)]):=by
   have:=SetTable.insertAt_perm es p (kd.hash k,Value.ref x);rwa [Array.toList_push] at this
  obtain⟨WU,p1,p2⟩:=kj pm (cw (R:=El kd h0) (a:=(kd.hash k,Value.ref x)) (b:=k) ⟨x,rfl,hk0⟩ xy);have p3:WU.Perm (ks++[k]):=p2.trans (hp.append_right _);have nd1:(ks++[k]).Nodup:=by
   rw [fM];refine⟨nd,by simp,λa ha b hb=>?_⟩;rw [bA] at hb;subst hb;rintro rfl;exact Yo h1 ha
  have QB:(SetTable.insertAt es p (kd.hash k,Value.ref x)).size=es.size+1:=by
   rw [<-eV,pm.length_eq];simp
  have tail:∀t2:SetTable,z6 t2 ((SetTable.insertAt es p (kd.hash k,Value.ref x)).toList.map 84)->t2.led=led->t2.plain=false->t2.mask=t.mask ->
    wpAny 163 A (do
     storeSet a (SetTable.insertAt es p (kd.hash k,Value.ref x)) t2
     if !false && t2.tooFull then setRelay a (SetTable.grown (es.size+1))
     return true) Q E s:=by
   intro t2 T3 l2 tW m2;generalize SetTable.insertAt es p (kd.hash k,Value.ref x)=U2 at *;obtain⟨g,kk⟩:=rT (kd:=kd) (led:=led) ho hx hd p1 p3 nd1 T3 l2 tW;refine ao (wpAny_storeSet_of ho hd ?_ (by rw [QB,fO];omega));have tf:t2.tooFull=decide ((es.size+1) * 5≥t.mask * 3):=by
    unfold SetTable.tooFull SetTable.fill;have:=T3.len;simp at this;rw [this,T3.S_,m2,QB];simp
   have sb:=iY s.heap a (Obj.putSet U2 t2);by_cases c:(es.size+1) * 5≥t.mask * 3
   .rw [tf,cZ c];simp only [jk,Bool.and_self,↓reduceIte];have go:∀m,SetTable.sizeAbove (SetTable.grown (es.size+1))=m+1->iH (m+1)=true->qg m U2.size->wpAny 163 A (do setRelay a (SetTable.grown (es.size+1));return true) Q E { s with heap:=s.heap.update a (Obj.putSet U2 t2) }:=by
     intro m e5 e6 e7;exact ao (Gm (kd:=kd) (s:={ s with heap:=s.heap.update a (Obj.putSet U2 t2) }) g hx rfl p1 p3 nd1 T3 l2 tW e5 e6 e7 λh' sb' K'=>ax (q true h' (sb.trans sb') K'))
    rcases sz with ⟨z1,z2⟩ | ⟨z1,z2⟩ | ⟨z1,z2⟩
    .have:es.size=4:=by omega
     exact go 31 (by rw [this];exact VO) Tc (by rw [QB,this];right;left;exact⟨rfl,nofun⟩)
    .have:es.size=18:=by omega
     exact go 127 (by rw [this];exact VN) ON (by rw [QB,this];right;right;exact⟨rfl,nofun⟩)
    omega
   rw [tf,fK c];simp only [jk,Bool.and_false,cz,↓reduceIte];refine ao (ax (ax (q true _ sb (kk ?_))));rw [m2,QB];unfold qg at sz ⊢;omega
  rw [e3];by_cases uS:t.plain=true
  .rw [uS];simp only [↓reduceIte];refine ao (kd.Dt hk ?_);simp only [cz,↓reduceIte];exact tail { t1 with plain:=false } T2.Gw (e2.trans hl) rfl e4
  have hpf:t.plain=false:=by simpa using uS
  rw [hpf];simp only [cz,↓reduceIte];refine ao (ax ?_);simp only [↓reduceIte];exact tail t1 T2 (e2.trans hl) (e3.trans hpf) e4
 by_cases c:k∈ks
 .left;obtain⟨e,he,h3⟩:=kn xy k (hp.mem_iff.mpr c);obtain⟨i0,XF⟩:=oO he;have lt:i0 < t.place.size:=by
   have:=TO.len;simp at this;have h4:=(bw.mp XF).1;simp at h4;omega
  have ek:e.1=kd.hash k:=by obtain⟨b,h4,h5⟩:=h3;rw [h4]
  have mz:(t.place[i0],kd.hash k)∈t.place.toList.zip (es.toList.map 84):=by
   rw [qF];refine⟨i0,?_⟩;rw [Ad];refine⟨by simp [lt],?_⟩;rw [aS,XF];show some e.1=_;rw [ek]
  obtain⟨n0,g1,g2,g3⟩:=TO.path _ mz;refine⟨i0,n0,e,by rw [<-lN];exact XF,(sm e k h3).mpr rfl,by rw [g2];exact pK lt,cY _,?_⟩;apply Nat.lt_of_not_le;intro z;rcases vA z with z | z
  .exact fr (g3 N z)
  rw [z,g2] at fr;exact fr 88
 right;intro e he;cases hs:same e.2 with
 | false=>rfl
 | true=>exact absurd (ex ⟨e,he,hs⟩) c
end
end ST
namespace L2
open PySem PySem.Spec PyProof.Rows
section
variable {P:Program}{w:World}{A:Around}{R:Result->151}{I:Addr}{fp wr:z0p}{G:Array GenState->Array GenState->Prop}{n:Nat}{Pv:Nat->Value->Prop}{St:Nat->151}
end
section
variable {P:Program}{w:World}{A:Around}{E:z0b}{s:Shared}
abbrev yV (w:World):Bool:=!(w.params.followText "set-order")
def F7 (a:Value)(h:Q₁ 398 { s with heap:=s.heap.push { cls:=.type "set",dict:=none,data:=.set #[] 0 (.fresh 0 0 (yV w)) } }) :
  codeAny 163 A (.call (.builtin "set.__new__") ⟨[.type "set",a],[]⟩) (wants Q₁ E) s:=by
 refine codeAny_of_tree ?_;show wpAny _ A.in1 (do checkBuiltinCall "set.__new__" ⟨[.type "set",a],[]⟩;again (.builtin "set.__new__" ⟨[.type "set",a],[]⟩)) _ _ s;refine ao (wpAny_of_eq (F.newCall_set_1 a) (ax ⟨iL F.plain_set_new _,jM F.entry_set_new ?_⟩));rw [lM F.plain_set_new _];unfold Builtin.«set.__new__» Builtin.Frozenset.newClass;have RO:=sub_set_self;obtain⟨hp,g,d,tk,os⟩:=s;dsimp only
 wp_walk
 refine oA (ax ?_);dsimp only;simp only [newObj];refine ao (wpAny_alloc (ax ?_));exact ax h
abbrev Kl (w:World):Obj:={ cls:=.type "set",dict:=none,data:=.set #[] 0 (.fresh 0 0 (yV w)) }
end
def yx (n:String)(id:String)(nm:Str)(hl:typeLookup (.type "set_iterator") nm=pure (some (.builtin id)))(hs:splitId id=some ("set_iterator",n))(h1:withoutEnding? id "#opaque"=none)(h2:withoutEnding? id "#data"=none)(h3:(Manifest.find? "set_iterator").bind (·.attrs.lookup n)=some .slot)(h4:plainId id=true):Slot "set_iterator" nm id :=
 .of hl hs h1 h2 (.inl h3) (by rw [isSubtype_type];kernel_rfl) h4
def dq:Slot "set_iterator" "__next__" "set_iterator.__next__" := yx "__next__" _ _ (by rw [typeLookup_type,vI];kernel_rfl) nofun nofun nofun nofun nofun
def kO:entryFor table "set_iterator.__next__"=some Builtin.«set_iterator.__next__»:=entryFor_of_fast (nofun)
def xE:entryFor table "set.__iter__"=some Builtin.«frozenset.__iter__»:=entryFor_alias (id' := "frozenset.__iter__") (nofun) rfl nofun (nofun)
def lZ (a:Value):argsOk "set_iterator.__next__" ⟨[a],[]⟩:=by unfold argsOk;kernel_rfl
theorem mO {α:Type}:∀(l:List α) (i:Nat)(x:α),l[i]?=some x->(x::l.eraseIdx i).Perm l
 | [],i,x,h=>by cases h
 | a::r,0,x,h=>by cases h;exact List.Perm.refl _
 | a::r,i+1,x,h=>by
  have ih:=mO r i x h;show (x::a::r.eraseIdx i).Perm (a::r);exact(List.Perm.swap a x _).trans (ih.cons a)
theorem CW {α:Type}(next:Nat->Nat):∀(f k:Nat)(left:List α)(out:Array α),left.length=f->(pickOrder.go next f k left out).toList.Perm (out.toList++left)
 | 0,k,left,out,h=>by
  rw [qU.mp h,fq];exact List.Perm.refl _
 | f+1,k,left,out,h=>by
  have lt:next k % left.length < left.length:=Nat.mod_lt _ ∅;have e:left[next k % left.length]?=some (left[next k % left.length]):=dA lt;unfold pickOrder.go;rw [e];have ih:=CW next f (k+1) (left.eraseIdx (next k % left.length)) (out.push left[next k % left.length]) (by rw [List.length_eraseIdx];rw [au lt];omega);refine ih.trans ?_;rw [Array.toList_push,lK];exact(mO _ _ _ e).append_left _
def uH {α:Type}(next:Nat->Nat)(xs:Array α):(pickOrder next xs).toList.Perm xs.toList:=by
 have:=CW next xs.size 0 xs.toList #[] eV;exact this
section
variable {M:Model}{A:Around}{E:z0b}
def ME {Q:Nat->151}(h0:n≠0)(h:∀j d,j < n->Q j { s with drawn:=d }):wpAny M A (choose src n) Q E s:=λ_ _ _=>⟨h0,h _ _ (Nat.mod_lt _ (Nat.pos_of_ne_zero h0))⟩
theorem Cd {α:Type}:∀(n:Nat)(xs:List α)(s:Shared)(Q:List α->151),xs.length=n->(∀ys d,ys.Perm xs->Q ys { s with drawn:=d })->wpAny M A (drawOrder n xs) Q E s
 | 0,xs,s,Q,h,q=>by
  rw [qU.mp h] at q ⊢;unfold drawOrder;exact ax (q [] s.drawn (List.Perm.refl _))
 | n+1,[],s,Q,h,q=>by cases h
 | n+1,a::r,s,Q,h,q=>by
  unfold drawOrder;refine ao (ME (by rw [h];exact Nat.succ_ne_zero _) λj d lj=>?_);have e:(a::r)[j]?=some ((a::r)[j]):=dA lj;rw [e];refine ao (Cd n ((a::r).eraseIdx j) _ _ (by rw [List.length_eraseIdx,au lj];omega) λys d2 p=>?_);exact ax (q _ d2 ((p.cons _).trans (mO _ _ _ e)))
end
def ma (h:Heap)(I S:Addr)(fst:Value) (i n ep:Nat):Prop:=∃o,h.get? I=85/\o.cls=.type "set_iterator" /\ o.data=.fields #[fst,.int i 0,.ref S,.int n 0,.int ep 0]
abbrev E8 (w:World):Bool:=w.params.followText "set-order"
def pW (w:World)(h:Heap)(S:Addr)(es:Array (Int×Value)) (ep:Nat)(t:SetTable)(vals:z0m)(fst:Value) (i:Nat):Prop :=
 (E8 w=true/\fst=.int 0 0/\vals=(pickOrder (w.params.setOrder S ep) es).toList.map (·.2)) \/
 (E8 w=false/\∃(Pt:Addr)(ps:z0u)(o:Obj) (n:Nat),fst=.ref Pt/\h.get? Pt=85/\o.data=.seq (ps.map λp:Nat=>Value.int p 0).toArray n/\ps.Perm (List.range es.size)/\vals=ps.map λp=>(es.toList.getD p (0,.none)).2) \/
 (E8 w=false/\es.size<=1/\(!t.plain && decide (1 < es.size))=false/\(!t.led && !es.isEmpty)=false/\∃k:Nat,fst=.int k 0/\vals=es.toList.map (·.2)/\(i=0->k=0)/\(i=1->∃j,t.place[0]?=some j/\k=j+1))
def range_getD (l:List (Int×Value)):((List.range l.length).map λp=>(l.getD p (0,Value.none)).2)=l.map (·.2):=by
 refine List.ext_getElem 88 λi h1 h2=>?_;simp at h1 h2;simp [qH,h1]
def pW.perm {h:Heap}{es:Array (Int×Value)}{t:SetTable}{vals:z0m}{i:Nat}(m:pW w h S es ep t vals fst i):vals.Perm (es.toList.map (·.2)):=by
 rcases m with ⟨_,_,rfl⟩ | ⟨_,Pt,ps,o,n,_,_,_,p,rfl⟩ | ⟨_,_,_,_,k,_,rfl,_⟩
 .exact(uH _ _).map _
 .have:=p.map λp=>(es.toList.getD p (0,Value.none)).2;rw [<-eV,range_getD] at this;exact this
 exact List.Perm.refl _
section
variable {P:Program}{w:World}{A:Around}{E:z0b}{s:Shared}
def HJ {o:Obj}{es:Array (Int×Value)}{t:SetTable}(ho:s.heap.get? S=85)(hx:o.ExactSet)(hd:o.data=.set es ep t)(hf:t.fits es.size=true)(hl:t.led=!E8 w)(hp:0 < es.size->t.plain=false)(hb:es.size < scanBound)
  (q:∀(I:Addr)(h':Heap)(d:Drawn)(vals:z0m)(fst:Value),(∀b o,160->h'.get? b=85)->s.heap.objs.size<=I->ma h' I S fst 0 es.size ep->pW w h' S es ep t vals fst 0->(∀Pt,fst=.ref Pt->Pt≠I/\s.heap.objs.size<=Pt)->Q (.ref I) { s with heap:=h',drawn:=d }) :
  wpAny 163 A (pyIter (.ref S)) Q E s:=by
 have tS:s.TypeIs (.ref S) "set" := ⟨o,ho,hx.1⟩;refine wpAny_pyIter_slot tS F.slot_set_iter (eP F.slot_set_iter tS xE ?_ (F.args_set_iter_1 _));show wpAny _ _ (Builtin.Frozenset.sizeOf S >>= _) _ _ s;refine ao ?_;unfold Builtin.Frozenset.sizeOf;refine ao (wpAny_setEntries_of ho hd hf (ax ?_));show wpAny _ _ (setDrawn S >>= _) _ _ s;refine ao ?_;unfold setDrawn setsByText;refine ao (lJ ho hd hf ?_);dsimp only;refine ao (ao (oA (ax ?_)));refine ax ?_;show wpAny _ _ (if (!E8 w && (!t.plain && decide (es.size > 1)))=true then _ else _) _ _ s;by_cases c:(!E8 w && (!t.plain && decide (es.size > 1)))=true
 .rw [au c];obtain⟨c1,c2⟩:=pJ.mp c;have nb:E8 w=false:=by simpa using c1
  refine ao (Cd es.size (List.range es.size) s _ mU λys d p=>?_);refine ao ?_;simp only [newTuple];refine gh ?_ ?_
  rotate_left
  .have l1:=p.length_eq;rw [mU] at l1;have:=fits_of_scanBound hb;show ((List.map (λi:Nat=>rawInt (i:Int)) ys).toArray).size<=sizeLine;rw [cu,aA];omega
  refine ao (wpAny_setEpoch_of (a0 _ ho) hd hf ?_);refine ao (gh (ax ⟨_,rfl,"set_iterator",_,⟨_,bB _ rfl,rfl⟩,dq.lookup,?_⟩));refine q _ _ d (ys.map λp=>(es.toList.getD p (0,.none)).2) _ (λb o e=>a0 _ (a0 _ e)) ?_ ⟨_,bB _ rfl,rfl,rfl⟩ (.inr (.inl ⟨nb,s.heap.objs.size,ys,_,_,rfl,a0 _ (bB _ rfl),rfl,p,rfl⟩)) λPt e=>?_
  .rw [iW];exact gp _
  cases e;rw [iW];exact⟨aR (jP _),aH _⟩
 rw [ar c];refine ao (ax ?_);refine ao (wpAny_setEpoch_of ho hd hf ?_);refine ao (gh (ax ⟨_,rfl,"set_iterator",_,⟨_,bB _ rfl,rfl⟩,dq.lookup,?_⟩));have go:∀vals,pW w (s.heap.push { cls:=.type "set_iterator",data:=.fields [rawInt 0,rawInt 0,Value.ref S,rawInt es.size,rawInt ep].toArray }) S es ep t vals (.int 0 0) 0->Q 398 { s with heap:=s.heap.push { cls:=.type "set_iterator",data:=.fields [rawInt 0,rawInt 0,Value.ref S,rawInt es.size,rawInt ep].toArray } }:=λvals m =>
  q _ _ s.drawn vals _ (λb o e=>a0 _ e) (aH _) ⟨_,bB _ rfl,rfl,rfl⟩ m λPt e=>by cases e
 cases UN:E8 w with
 | true=>exact go _ (.inl ⟨UN,rfl,rfl⟩)
 | false =>
  rw [UN] at c;have c3:¬(!t.plain && decide (es.size > 1))=true:=by simpa using c
  have Ur:es.size<=1:=by
   by_cases z:0 < es.size
   .rw [hp z] at c3;simp at c3;omega
   omega
  refine go _ (.inr (.inr ⟨UN,Ur,by simpa using c3,?_,0,rfl,rfl,λ_=>rfl,λz=>by cases z⟩));rw [hl,UN];rfl
def CJ {o:Obj}{es:Array (Int×Value)}{t:SetTable}{R:Option (Value×Nat)->151}(ho:s.heap.get? S=85)(hd:o.data=.set es ep t)(hf:t.fits es.size=true)(bt:E8 w=true) (k i:Nat)(q:R (((pickOrder (w.params.setOrder S ep) es)[i]?).map λe=>(e.2,k)) s):wpAny 163 A (setNext S k i ep) R E s:=by
 unfold setNext setsByText;refine ao (lJ ho hd hf ?_);dsimp only;refine ao (ao (oA (ax ?_)));show wpAny _ _ (if E8 w=true then _ else _) _ _ s;rw [au bt,show (ep != ep)=false by simp,ar bG];unfold setWalk setsByText;refine ao (ao (lJ ho hd hf ?_));dsimp only;refine ao (ao (oA (ax ?_)));show wpAny _ _ (if E8 w=true then _ else _) _ _ s;rw [au bt];exact ao (oA (ax (ax q)))
def yw {o:Obj}{es:Array (Int×Value)}{t:SetTable}{R:Option (Value×Nat)->151}(ho:s.heap.get? S=85)(hd:o.data=.set es ep t)(hf:t.fits es.size=true)(bt:E8 w=false)(dr:(!t.plain && decide (1 < es.size))=false)(ld:(!t.led && !es.isEmpty)=false) (k i:Nat)
  (q:R (match es[SetTable.below t.place k]?,t.place[SetTable.below t.place k]? with | some (_,x),some j=>some (x,j+1) | _,_=>none) s):wpAny 163 A (setNext S k i ep) R E s:=by
 unfold setNext setsByText;refine ao (lJ ho hd hf ?_);dsimp only;refine ao (ao (oA (ax ?_)));show wpAny _ _ (if E8 w=true then _ else if (!t.plain && decide (es.size > 1))=true then _ else _) _ _ s;rw [bt,ar bG,show (!t.plain && decide (es.size > 1))=false from dr,ar bG];refine ao ?_;show wpAny _ _ (if (!t.led && !es.isEmpty)=true then _ else _) _ _ s;rw [ld,ar bG];exact ax (ax q)
def rm {i n ep:Nat}{Q:Unit->151}(hit:ma s.heap I S fst i n ep)(x:Value)(q:∀h',Heap.SameBut I s.heap h'->ma h' I S x i n ep->Q () 221):wpAny 163 A (setField (.ref I) 0 x) Q E s:=by
 obtain⟨o,ho,hc,hd⟩:=hit;refine jW ho hd 88 (q _ (iY ..) ⟨_,mY _ ho (vH (j4 hd _)),(Obj.cls_mapFields ..).trans hc,?_⟩);rw [j4 hd];simp
def rj {i n ep:Nat}{Q:Unit->151}(hit:ma s.heap I S fst i n ep)(q:∀h',Heap.SameBut I s.heap h'->ma h' I S fst (i+1) n ep->Q () 221):wpAny 163 A (setField (.ref I) 1 (rawInt ((i:Int)+1))) Q E s:=by
 obtain⟨o,ho,hc,hd⟩:=hit;refine jW ho hd 88 (q _ (iY ..) ⟨_,mY _ ho (vH (j4 hd _)),(Obj.cls_mapFields ..).trans hc,?_⟩);rw [j4 hd];simp [rawInt]
def ve (j k:Nat):SetTable.below #[j] k=if j < k then 1 else 0:=by
 unfold SetTable.below;show SetTable.below.go #[j] k 1 0 1=_;unfold SetTable.below.go;simp;by_cases c:j < k
 .rw [au c,au c];rfl
 rw [ar c,ar c];rfl
def Hn {o:Obj}{es:Array (Int×Value)}{ep i:Nat}{t:SetTable}{fst v:Value}{Q:z0j->151}(hit:ma s.heap I S fst i es.size ep)(ho:s.heap.get? S=85)(hd:o.data=.set es ep t)(hf:t.fits es.size=true)(m:pW w s.heap S es ep t vals fst i)(nI:∀Pt,fst=.ref Pt->Pt≠I)(hv:vals[i]?=some v)
  (q:∀(h':Heap)(Il:Value),Heap.SameBut I s.heap h'->ma h' I S Il (i+1) es.size ep->pW w h' S es ep t vals Il (i+1)->(∀Pt,Il=.ref Pt->fst=.ref Pt)->Q (some v) 221) :
  wpAny 163 A (pyNext (.ref I)) Q E s:=by
 obtain⟨oi,N0,Sj,XQ⟩:=id hit;have tI:s.TypeIs (.ref I) "set_iterator" := ⟨oi,N0,Sj⟩;unfold pyNext;refine ao (iM (lP (name:=Str.ofString "__next__") tI dq (eP dq tI kO ?_ (lZ _))));show wpAny _ _ (fieldsOf (.ref I) >>= _) _ _ s;refine ao (ou N0 XQ ?_);show wpAny _ _ (setEntries S >>= _) _ _ s;refine ao (wpAny_setEntries_of ho hd hf ?_);have ne:((es.size:Int) != (es.size:Int))=false:=by simp
 dsimp only;rw [ne];rw [ar bG];rcases m with ⟨bt,rfl,HM⟩ | ⟨bt,Pt,ps,po,pn,rfl,Pr,UC,pp,HM⟩ | ⟨bt,Ur,dr,ld,k,rfl,HM,k0,k1⟩
 .dsimp only;simp only [eQ];rw [HM,aS] at hv;obtain⟨e,ee,ev⟩:=bQ.mp hv;refine ao (CJ ho hd hf bt _ _ ?_);rw [<-lN,ee];refine ao (rm hit _ λh1 b1 i1=>ao (rj (s:={ s with heap:=h1 }) i1 λh2 b2 i2=>ax ⟨_,rfl,ax ?_⟩));show Q (some e.2) { s with heap:=h2 };rw [show e.2=v from ev];exact q h2 _ (b1.trans b2) i2 (.inl ⟨bt,rfl,HM⟩) λPt z=>by cases z
 .dsimp only;simp only [eQ];refine ao (jC Pr UC ?_);dsimp only;have hv0:=hv;rw [HM,aS] at hv;obtain⟨p,PU,ev⟩:=bQ.mp hv;have lp:p < es.size:=gG.mp (pp.mem_iff.mp (bE PU));have e1:((ps.map λp:Nat=>Value.int p 0).toArray)[i]?=some (Value.int p 0):=by
   rw [List.getElem?_toArray,aS,PU];rfl
  rw [e1];dsimp only;refine ao ?_;unfold setNextDrawn;simp only [eQ];refine ao (lJ ho hd hf ?_);dsimp only;rw [show (ep != ep)=false by simp,ar bG];have e2:es[p]?=some es[p]:=pK lp;rw [e2];have ev2:es[p].2=v:=by
   rw [<-ev,qH,lN,e2];rfl
  refine ax ?_;refine ao (rj hit λh2 b2 i2=>ax ⟨_,rfl,ax ?_⟩);show Q (some es[p].2) { s with heap:=h2 };rw [ev2];exact q h2 _ b2 i2 (.inr (.inl ⟨bt,Pt,ps,po,pn,rfl,b2.extBut Pt po (nI Pt rfl) Pr,UC,pp,HM⟩)) λPt z=>z
 dsimp only;simp only [eQ];have hv0:=hv;rw [HM,aS,lN] at hv;obtain⟨e,ee,ev⟩:=bQ.mp hv;have li:=(qG.mp ee).1;obtain rfl:i=0:=by omega
 have sz:es.size=1:=by omega
 obtain rfl:=k0 rfl;have sp:t.place.size=1:=by
  have h1:(t.place.size == es.size && decide (t.fill<=t.mask))=true:=hf;have:=(pJ.mp h1).1;rw [<-sz];simpa using this
 obtain⟨j,ej⟩:∃j,t.place=#[j]:=⟨t.place[0],Array.ext (by simp [sp]) λi h1 h2=>by
  have:i=0:=by simp at h2;exact h2
  subst this;rfl⟩
 refine ao (yw ho hd hf bt dr ld _ _ ?_);rw [ej,ve,ar (qJ _),ee];obtain⟨eh,ex⟩:=e;show wpAny _ _ (setField (.ref I) 0 (rawInt ((j+1:Nat):Int)) >>= _) _ _ s;refine ao (rm hit _ λh1 b1 i1=>ao (rj (s:={ s with heap:=h1 }) i1 λh2 b2 i2=>ax ⟨_,rfl,ax ?_⟩));show Q (some ex) { s with heap:=h2 };rw [show ex=v from ev];exact q h2 _ (b1.trans b2) i2 (.inr (.inr ⟨bt,Ur,dr,ld,j+1,rfl,HM,(λz=>by cases z),λ_=>⟨j,by rw [ej];rfl,rfl⟩⟩)) λPt z=>by cases z
def wo {Q:z0j->151}(hh:A.handled=none)(q:∀h',(∀b o,160->h'.get? b=85)->Q none 221) :
  wpAny 163 A.in1 (newExc (.type "StopIteration") [] >>= λx=>(raiseNew x:Sem PySem.Fin)) F (λe s'=>wpAny 163 A (isInstance e (Value.type "StopIteration") >>= λb=>if b=true then pure none else throw e) Q E s') s:=by
 refine ao ?_;simp only [newExc,newTuple];refine ao (gh ?_ (by size_fits));refine ao (m:=firstArgMember _ _) (wpAny_of_eq (a:=Value.none) (by first | rfl | (simp only [firstArgMember];rfl)) ?_)
 refine gh ?_ (by size_fits);simp only [raiseNew];refine ao (wpAny_handled ?_);rw [show A.in1.handled=none from hh];refine ao (ax (wpAny_throw ?_));refine ao (jN (T := "StopIteration") (b:=true) ⟨_,bB _ rfl,rfl⟩ isSubtype_stop ?_);exact ax (q _ λb o e=>a0 _ (a0 _ e))
def ri {i n ep:Nat}{Q:Unit->151}(hit:ma s.heap I S fst i n ep)(q:∀h',Heap.SameBut I s.heap h'->Q () 221):wpAny 163 A (setField (.ref I) 2 Value.none) Q E s:=by
 obtain⟨o,ho,hc,hd⟩:=hit;exact jW ho hd 88 (q _ (iY ..))
def K0 {o:Obj}{es:Array (Int×Value)}{ep i:Nat}{t:SetTable}{Q:z0j->151}(hh:A.handled=none)(hit:ma s.heap I S fst i es.size ep)(ho:s.heap.get? S=85)(hd:o.data=.set es ep t)(hf:t.fits es.size=true)(m:pW w s.heap S es ep t vals fst i)(hi:i=es.size)
  (q:∀(h':Heap),(∀b o,b≠I->160->h'.get? b=85)->Q none 221) :
  wpAny 163 A (pyNext (.ref I)) Q E s:=by
 obtain⟨oi,N0,Sj,XQ⟩:=id hit;have tI:s.TypeIs (.ref I) "set_iterator" := ⟨oi,N0,Sj⟩;have lv:vals.length=es.size:=by rw [m.perm.length_eq,aA,eV]
 unfold pyNext;refine ao (iM (lP (name:=Str.ofString "__next__") tI dq (eP dq tI kO ?_ (lZ _))));show wpAny _ _ (fieldsOf (.ref I) >>= _) _ _ s;refine ao (ou N0 XQ ?_);show wpAny _ _ (setEntries S >>= _) _ _ s;refine ao (wpAny_setEntries_of ho hd hf ?_);have ne:((es.size:Int) != (es.size:Int))=false:=by simp
 dsimp only;rw [ne];rw [ar bG];rcases m with ⟨bt,rfl,HM⟩ | ⟨bt,Pt,ps,po,pn,rfl,Pr,UC,pp,HM⟩ | ⟨bt,Ur,dr,ld,k,rfl,HM,k0,k1⟩
 .dsimp only;simp only [eQ];refine ao (CJ ho hd hf bt _ _ ?_);have e0:(pickOrder (w.params.setOrder S ep) es)[i]?=none:=by
   rw [<-lN];refine mZ ?_;rw [(uH _ _).length_eq,eV];omega
  rw [e0];exact ao (ri hit λh1 b1=>wo (s:={ s with heap:=h1 }) hh λh' k=>q h' λb o nb e=>k b o (b1.extBut b o nb e))
 .dsimp only;simp only [eQ];refine ao (jC Pr UC ?_);dsimp only;have e0:((ps.map λp:Nat=>Value.int p 0).toArray)[i]?=none:=by
   rw [List.getElem?_toArray];refine mZ ?_;rw [aA,pp.length_eq,mU];omega
  rw [e0];exact ao (rm hit _ λh0 b0 i0=>ao (ri (s:={ s with heap:=h0 }) i0 λh1 b1=>wo (s:={ s with heap:=h1 }) hh λh' k=>q h' λb o nb e=>k b o (b1.extBut b o nb (b0.extBut b o nb e))))
 dsimp only;simp only [eQ];refine ao (yw ho hd hf bt dr ld _ _ ?_);have sp:t.place.size=es.size:=by
  have h1:(t.place.size == es.size && decide (t.fill<=t.mask))=true:=hf;simpa using (pJ.mp h1).1
 have e0:es[SetTable.below t.place k]?=none:=by
  by_cases z:es.size=0
  .exact oQ ∅
  have i1:i=1:=by omega
  obtain⟨j,ej,rfl⟩:=k1 i1;obtain⟨j',ej'⟩:∃j,t.place=#[j]:=⟨t.place[0],Array.ext (by simp;omega) λi h1 h2=>by
   have:i=0:=by simp at h2;exact h2
   subst this;rfl⟩
  rw [ej'] at ej ⊢;cases (show some j'=some j from ej);rw [ve,au (jP _)];exact oQ ∅
 rw [e0];exact ao (ri hit λh1 b1=>wo (s:={ s with heap:=h1 }) hh λh' k=>q h' λb o nb e=>k b o (b1.extBut b o nb e))
end
def lS:Slot "set_iterator" "__iter__" "set_iterator.__iter__" := yx "__iter__" _ _ (by rw [typeLookup_type,vI];kernel_rfl) nofun nofun nofun nofun nofun
def sH:entryFor table "set_iterator.__iter__"=some Builtin.«dict_keyiterator.__iter__»:=entryFor_alias (id' := "dict_keyiterator.__iter__") (nofun) rfl nofun (nofun)
def ui (a:Value):argsOk "set_iterator.__iter__" ⟨[a],[]⟩:=by unfold argsOk;kernel_rfl
def KU (I S:Addr):Value->z0p
 | .ref Pt=>[I,S,Pt]
 | _=>[I,S]
structure yf (w:World)(I S:Addr)(o:Obj)(es:Array (Int×Value)) (ep:Nat)(t:SetTable)(vals:z0m)(fp:z0p) (i:Nat)(h:Heap)(fst:Value):Prop where
 it:ma h I S fst i es.size ep
 ho:h.get? S=85
 md:pW w h S es ep t vals fst i
 pt:∀Pt,fst=.ref Pt->Pt∈fp/\Pt≠I
def yf.at {o:Obj}{es:Array (Int×Value)}{t:SetTable}{i:Nat}{h h':Heap}(x:yf w I S o es ep t vals fp i h fst)(hI:I∈fp)(hS:S∈fp)(k:∀b∈fp,∀o,h.get? b=85->h'.get? b=85):yf w I S o es ep t vals fp i h' fst:=by
 obtain⟨⟨oi,a,b⟩,ho,md,pt⟩:=x;refine⟨⟨oi,k I hI _ a,b⟩,k S hS _ ho,?_,pt⟩;rcases md with m | ⟨bt,Pt,ps,po,pn,e,Pr,r⟩ | m
 .exact .inl m
 .exact .inr (.inl ⟨bt,Pt,ps,po,pn,e,k Pt (pt Pt e).1 _ Pr,r⟩)
 exact .inr (.inr m)
section
variable {P:Program}{w:World}{A:Around}{E:z0b}{s:Shared}
def FN {o:Obj}{es:Array (Int×Value)}{t:SetTable}(hh:A.handled=none)(nIS:S≠I)(hI:I∈fp)(hS:S∈fp)(hd:o.data=.set es ep t)(hf:t.fits es.size=true) :
  WalksS P w A I fp [I] (λa b=>b=a) es.size (λi v=>vals[i]?=some v) (λi s=>∃fst,yf w I S o es ep t vals fp i s.heap fst) where
 sub:=λb hb=>by rw [bA.mp hb];exact hI
 grefl:=λ_=>rfl
 gtrans:=λ_ _ _ x y=>by rw [y,x]
 frame:=λi s h' tk ⟨fst,x⟩ _ k=>⟨fst,x.at hI hS k⟩
 item:=λi s Q E hi ⟨fst,x⟩ q=>by
  have lv:vals.length=es.size:=by rw [x.md.perm.length_eq,aA,eV]
  have ev:vals[i]?=some vals[i]:=dA ∅;refine Hn x.it x.ho hd hf x.md (λPt e=>(x.pt Pt e).2) ev λh' Il sb it md ke=>?_;refine q _ _ ev ⟨Il,it,sb.extBut S o nIS x.ho,md,λPt e=>x.pt Pt (ke Pt e)⟩ ⟨λb o hb e=>sb.extBut b o (λz=>hb (by rw [z];exact bP)) e,rfl,rfl,rfl,aH _⟩
 done:=λs Q E ⟨fst,x⟩ q=>by
  refine K0 hh x.it x.ho hd hf x.md rfl λh' k=>q _ ⟨λb o hb e=>k b o (λz=>hb (by rw [z];exact bP)) e,rfl,rfl,rfl,aH _⟩
 self:=λi s Q E ⟨fst,x⟩ q=>by
  obtain⟨oi,N0,Sj,_⟩:=x.it;have tI:s.TypeIs (.ref I) "set_iterator" := ⟨oi,N0,Sj⟩;refine wpAny_pyIter_slot tI lS (eP lS tI sH ?_ (ui _));show wpAny _ _ (ret (.ref I)) _ _ s;exact ax ⟨_,rfl,"set_iterator",_,tI,dq.lookup,q⟩
def Ll {α:Type}{c:Prop} [Decidable c] {a b:Sem α}{Q:α->151}(hc:c)(h:wpAny M A a Q E s):wpAny M A (if c then a else b) Q E s:=by rw [au hc];exact h
abbrev SH:Obj:={ cls:=.type "list",data:=.seq ([]:z0m).toArray }
end
end L2
namespace ST
open PySem PySem.Spec PyProof.Rows L2
def xB {h:Heap}{a:Addr}(l:h.objs.size<=a):h.get? a=none:=by
 cases e:h.get? a with
 | none=>rfl
 | some o=>exact absurd (aP e) (Nat.not_lt.mpr l)
def eX {K:Type} [DecidableEq K] (val:Nat->K):Nat->List K
 | 0=>[]
 | i+1=>if val i∈eX val i then eX val i else eX val i++[val i]
theorem i6 {K:Type} [DecidableEq K] (val:Nat->K):∀i,(eX val i).length<=i
 | 0=>aH _
 | i+1=>by
  have:=i6 val i;show (if val i∈eX val i then eX val i else eX val i++[val i]).length<=i+1
  split
  .omega
  rw [bH,lO];omega
section
variable {P:Program}{w:World}{K:Type} [DecidableEq K] {kd:om P w K}{A:Around}{R:Result->151}{I:Addr}{fp wr:z0p}{G:Array GenState->Array GenState->Prop}{n:Nat}{Pv:Nat->Value->Prop}{St:Nat->151}
def Hv (W:WalksS P w A.in1 I fp wr G n Pv St)(S:Addr)(UQ:S∉fp)(val:Nat->K){h0:Heap}(W9:∀i v,Pv i v->∃b,v=.ref b/\kd.is h0 (val i) b)(hb:n < 76)(led:Bool)(Rm:kd.room A.in1)(h0S:h0.get? S=none)(h0w:∀b∈wr,h0.get? b=none) :
  ∀(k i:Nat)(s:Shared),n - i=k->i<=n->St i s->x8 h0 s.heap->lH kd h0 s.heap S led (eX val i) ->
   (∀s',Moved (S::wr) G s s'->lH kd h0 s'.heap S led (eX val n)->R (.ok (.ret .none)) s') ->
   codeAny 163 A (.builtin "set.update.loop" ⟨[.ref S,.ref I],[]⟩) R s:=by
 have hSw:S∉wr:=λh=>UQ (W.sub _ h);have sub:∀b∈wr,b∈S::wr:=λb hb=>b9 _ hb;intro k
 induction k with
 | zero =>
  intro i s hk hi qy kp hS hR;obtain rfl:i=n:=by omega
  refine jM F.entry_set_update_loop ?_;rw [lM F.plain_set_update_loop _];show wpAny _ A.in1 (pyNext (.ref I) >>= _) _ _ s;refine ao (W.done s _ _ qy λs' hm=>?_);show wpAny _ A.in1 (ret Value.none) _ _ s';exact ax (hR s' (hm.mono sub) (hS.at λo e=>hm.heap S _ hSw e))
 | succ k ih =>
  intro i s hk hi qy kp hS hR;have gR:i < n:=by omega
  refine jM F.entry_set_update_loop ?_;rw [lM F.plain_set_update_loop _];show wpAny _ A.in1 (pyNext (.ref I) >>= _) _ _ s;refine ao (W.item i s _ _ gR qy λv s' hP Xc hm=>?_);obtain⟨vb,rfl,R8⟩:=W9 i v hP;have nw:∀b o,h0.get? b=85->b∉wr:=λb o e z=>by rw [h0w b z] at e;cases e
  have WR:x8 h0 s'.heap:=λb o e=>hm.heap b o (nw b o e) (kp b o e);have Ma:lH kd h0 s'.heap S led (eX val i):=hS.at λo e=>hm.heap S _ hSw e;show wpAny _ A.in1 (holding [Value.ref vb] (setAdd S (.ref vb)) >>= _) _ _ s';refine ao (fJ ?_);unfold setAdd;refine fJ ?_;refine ao (kd.pyHash (k:=val i) Rm (kd.keeps R8 WR) ?_);have room:(eX val i).length < 76:=by have:=i6 val i;omega
  refine Lc (s:={ s' with toks:=s'.toks+kd.draws (val i) }) Rm WR Ma R8 room λb h' Pp Jn=>?_;refine ax ⟨iL F.plain_set_update_loop _,ih (i+1) _ ∅ gR (W.frame _ s' _ _ Xc (Nat.le_add_right _ _) λb hb o e=>?_) ?_ Jn λNd Xy XZ=>?_⟩
  .rw [Pp.2 b (λh:b=S=>UQ (by rw [<-h];exact hb))];exact e
  .intro b o e;show h'.get? b=85;rw [Pp.2 b (λz=>by rw [z,h0S] at e;cases e)];exact WR b o e
  refine hR Nd (Moved.trans W.gtrans ((hm.mono sub).then_heap (Nat.le_add_right _ _) λb o hb e=>?_) Xy) XZ;rw [Pp.2 b (λh:b=S=>hb (by rw [h];exact bP))];exact e
end
section
variable {P:Program}{w:World}{K:Type} [DecidableEq K] {kd:om P w K}{A:Around}{E:z0b}{s:Shared}
def Bn {h0 h:Heap}{a:Addr}(e:h.get? a=some { cls:=.type "set",dict:=none,data:=.set #[] 0 (.fresh 0 0 led) }):lH kd h0 h a led [] :=
 ⟨_,#[],0,_,e,⟨rfl,rfl,rfl⟩,rfl,⟨[],.nil,.refl _⟩,.nil,⟨YR,rfl,.nil,rfl,cY _,λq h=>by cases h⟩,.inl ⟨rfl,cY _⟩,rfl,λz=>absurd z (iV 0)⟩
def wz {items:z0k}{val:Nat->K}{h0:Heap}(hh:A.handled=none)(Rm:∀B:Around,B.units<=A.units+3->kd.room B)(hs:s.heap=h0.push (Kl w))(hS:S=h0.objs.size)(hl:h0.IsList l items)(hi:∀i v,items[i]?=some v->∃b,v=Value.ref b/\kd.is h0 (val i) b)(hb:items.size < 76)
  (q:∀(h':Heap) (tk:Nat),lH kd h0 h' S (yV w) (eX val items.size)->(∀b o,b < h0.objs.size->h0.get? b=85->h'.get? b=85)->Q .none { s with heap:=h',toks:=tk }) :
  codeAny 163 A (.call (.builtin "set.__init__") ⟨[.ref S,.ref l],[]⟩) (wants Q E) s:=by
 have gS:s.heap.get? S=some (Kl w):=by rw [hs,hS];exact bB _ rfl
 have tS:s.TypeIs (.ref S) "set" := ⟨_,gS,rfl⟩;refine jU (vB (R:=wants Q E) jT.init.plain F.entry_set_init (check_set_init_1 tS ?_)) λr s2 h=>h;obtain⟨ol,Pu,mT,nl,Py⟩:=hl;obtain⟨oc,od,oda,wW⟩:=ol;simp only at mT Py;subst mT;subst Py;have hlS:l < h0.objs.size:=aP Pu;have Xp:s.heap.get? l=some { cls:=.type "list",dict:=od,data:=.seq items nl,slots:=wW }:=by rw [hs];exact a0 _ Pu
 have n1:=F.sub_list_set;have n2:=F.sub_list_frozenset;have n3:(Value.type "list" == Value.type "dict")=false:=by decide
 have R6:s.heap.IsList l items:=⟨_,Xp,rfl,nl,rfl⟩;unfold Builtin.«set.__init__» noKeywords Builtin.Frozenset.updateFrom;generalize hPI:pyIter=PI
 wp_walk
 subst hPI;refine mr R6 ?_;refine ao (wpAny_runValue ?_);have h3:A.in1.in1.handled=none:=by simp [hh]
 have sz:s.heap.objs.size=h0.objs.size+1:=by rw [hs,iW]
 have nI:l≠s.heap.objs.size:=by rw [sz];exact aR (mV hlS)
 have UQ:S∉[s.heap.objs.size,l]:=by
  rw [sz,hS];simp only [aX,bA,jY,or_false,not_or];exact⟨aR (jP _),gP hlS⟩
 refine Hv ((Walks.list h3 _ l nI items).toS) S UQ val (h0:=h0) hi hb (yV w) (Rm _ (by simp;try omega)) (by rw [hS];exact xB (aH _)) ?hw (items.size - 0) 0 _ ∅ (cY _) ?qy ?hkp ?hS0 ?hR
 case hw=>intro b hb;rw [bA.mp hb,sz];exact xB (gp _)
 case hkp=>intro b o e;exact a0 _ (show 160 by rw [hs];exact a0 _ e)
 case qy=>exact⟨⟨_,bB _ rfl,rfl,rfl⟩,R6.push _⟩
 case hS0=>exact Bn (a0 _ gS)
 intro s' hm Ma;obtain⟨h',g',d',O4,QZ⟩:=s';have eg:g'=s.gens:=hm.gens;have ed:d'=s.drawn:=hm.drawn;have eo:QZ=s.os:=hm.os;subst eg;subst ed;subst eo;show wpAny _ _ _ _ _ _;refine ax ?_;show wpAny _ _ (ret Value.none) _ _ _;refine ax (q h' O4 Ma λb o hb e=>?_);refine hm.heap b o ?_ (a0 _ (show 160 by rw [hs];exact a0 _ e));rw [sz,hS];simp only [aX,bA,jY,or_false,not_or];exact⟨aR hb,aR (mV hb)⟩
def xO {items:z0k}{val:Nat->K}(hh:A.handled=none)(Rm:∀B:Around,B.units<=A.units+8->kd.room B)(hl:s.heap.IsList l items)(hi:∀i v,items[i]?=some v->∃b,v=Value.ref b/\kd.is s.heap (val i) b)(hb:items.size < 76)
  (q:∀(h':Heap) (tk:Nat),lH kd s.heap h' s.heap.objs.size (yV w) (eX val items.size)->(∀b o,b < s.heap.objs.size->160->h'.get? b=85)->Q 398 { s with heap:=h',toks:=tk }) :
  wpAny 163 A (call (.type "set") [.ref l]) Q E s:=by
 obtain⟨c,tl,aan⟩:=jT.mro;have aab:=jT.made;have RO:=jT.sub;refine jS (codeAny_of_tree ?_);show wpAny _ _ (callAny (.type "set") _) _ _ _;refine ax ⟨Code.quiet_builtin _ nofun,jM F.entry_type_call ?_⟩;rw [Around.under_plain (weight_type_call_type "set" [.ref l] []) rfl];have h1:=jT.notType;have h2:=jT.canCreate;have hct:=F.typeCall_set_1 (.ref l)
 repeat (any_goals (first | assumption | wp_step))
 refine jU (F7 (.ref l) (E:=E) (Q₁:=λv s1=>v=186/\s1={ s with heap:=s.heap.push (Kl w) }) ⟨rfl,rfl⟩) λr s1 hr=>?_;cases r with
 | error e=>exact hr
 | ok fl =>
  cases fl with
  | ret obj =>
   obtain⟨rfl,rfl⟩:=hr;have hT:Shared.TypeIs { s with heap:=s.heap.push (Kl w) } 398 "set" := ⟨_,bB _ rfl,rfl⟩;have hli:=jT.init.lookup;have hbi:=jT.init.bind 398
   repeat (any_goals (first | assumption | wp_step))
   refine jU (wz (h0:=s.heap) (Q:=λv s2=>v=.none/\∃h' tk,s2={ s with heap:=h',toks:=tk }/\lH kd s.heap h' s.heap.objs.size (yV w) (eX val items.size)/\∀b o,b < s.heap.objs.size->160->h'.get? b=85) (E:=E) ?_ ?_ rfl rfl hl hi hb λh' tk a b=>⟨rfl,h',tk,rfl,a,b⟩) λr2 s2 Xn=>?_
   .simp [hh]
   .intro B hB;exact Rm B (by simp at hB;omega)
   cases r2 with
   | error e=>exact Xn
   | ok fl2 =>
    cases fl2 with
    | ret r =>
     obtain⟨rfl,h',tk,rfl,Ma,hk'⟩:=Xn
     repeat (any_goals (first | assumption | wp_step))
     exact q _ _ Ma hk'
    | _=>exact Xn.elim
  | _=>exact hr.elim
def zA {ds:List K}{Q:z0m->151}(hh:A.handled=none)(T:lH kd h0 s.heap S (yV w) ds)(hb:ds.length < scanBound)
  (q:∀(h':Heap)(d:Drawn) (tk:Nat)(vs:z0m),(∀b o,160->h'.get? b=85)->s.heap.objs.size<=h'.objs.size->(∃zs,Paired (λv k=>∃b,v=Value.ref b/\kd.is h0 k b) vs zs/\zs.Perm ds)->s.toks<=tk->Q vs { s with heap:=h',drawn:=d,toks:=tk }):wpAny 163 A (collect (.ref S)) Q E s:=by
 obtain⟨o,es,ep,t,ho,hx,hd,⟨Fp,xy,hp⟩,nd,TO,sz,hl,t_⟩:=T;have hf:t.fits es.size=true:=by have:=TO.fits;simpa using this
 have hsz:es.size=ds.length:=by rw [<-hp.length_eq,<-a9 xy,eV]
 have nS:s.heap.objs.size≠S:=gP (aP ho);unfold collect;refine ao (wpAny_runValue (jM F.entry_proto_collect ?_));rw [lM F.plain_proto_collect _];show wpAny _ A.in1 (newList [] >>= λl=>again (.builtin "list.__iadd__" ⟨[l,.ref S],[]⟩)) _ _ s;refine ao (gh ?_);refine ax ⟨iL F.plain_list_iadd _,jM F.entry_list_iadd ?_⟩;rw [lM F.plain_list_iadd _];have Ft:(s.heap.push SH).get? S=85:=a0 _ ho;show wpAny _ A.in1 (Builtin.List.listExtendWith 398 (.ref S) 398) _ _ _;unfold Builtin.List.listExtendWith;refine ao (iI (T := "set") ⟨o,Ft,hx.1⟩ ?_);have h1:Builtin.List.listSameRef 398 (.ref S)=false:=by simp [Builtin.List.listSameRef,nS]
 have h2:(Value.type "set" == Value.type "list")=false:=by decide
 have h3:(Value.type "set" == Value.type "tuple")=false:=by decide
 simp only [h1,h2,h3,Bool.or_false,cz,if_false];refine ao (HJ (s:={ s with heap:=s.heap.push SH }) Ft hx hd hf hl t_ ∅ λI h2 d vals fst kp leI it md pt=>?_);refine ao (fJ ?_);unfold Builtin.List.listLengthHint;have qz:=kp _ _ Ft;refine ao (mn (T := "set") ⟨o,qz,hx.1⟩ F.slot_set_len.lookup ?_);dsimp only;rw [show splitId "set.__len__"=some ("set","__len__") by decide +kernel];dsimp only;refine ao (jN (T := "set") (b:=true) ⟨o,qz,hx.1⟩ sub_set_self ?_);rw [fk,ar bG];refine Ll nofun ?_;refine ao (iI (T := "set") ⟨o,qz,hx.1⟩ ?_);refine ax ?_;refine Ll nofun ?_;refine ao (gN ?_);have US:h2.get? s.heap.objs.size=some SH:=kp _ _ (bB _ rfl);refine ao ?_;show wpAny _ A.in1 (updateSeq s.heap.objs.size (·.push .none) >>= λ_=>updateSeq s.heap.objs.size (·.pop)) _ _ _;refine ao (wpAny_updateSeq US rfl ?_);have UR:=mY (Obj.mapSeq (·.push Value.none)) US rfl;refine wpAny_updateSeq UR rfl ?_;have hL4:=mY (Obj.mapSeq (·.pop)) UR rfl;have Pg:∀b o,b≠s.heap.objs.size->h2.get? b=85->((h2.update s.heap.objs.size (Obj.mapSeq (·.push Value.none))).update s.heap.objs.size (Obj.mapSeq (·.pop))).get? b=85:=λb o nb e=>(vL _ _ (cV nb)).trans ((vL _ _ (cV nb)).trans e);generalize (h2.update s.heap.objs.size (Obj.mapSeq (·.push Value.none))).update s.heap.objs.size (Obj.mapSeq (·.pop))=h4 at hL4 Pg ⊢;have ND:203<=I:=by
  have:(s.heap.push SH).objs.size<=I:=leI;rw [iW] at this;exact this
 have nLI:s.heap.objs.size≠I:=aR ND;have nSI:S≠I:=aR (iK (aP ho) ND);have Z2:∀Pt,fst=.ref Pt->Pt≠I/\s.heap.objs.size≠Pt:=λPt e=>⟨(pt Pt e).1,by
  have h:=(pt Pt e).2;have h':(s.heap.push SH).objs.size<=Pt:=h;rw [iW] at h';exact aR h'⟩
 have hI:I∈KU I S fst:=by cases fst <;> simp [KU]
 have hS:S∈KU I S fst:=by cases fst <;> simp [KU]
 have hL:s.heap.objs.size∉KU I S fst:=by
  cases fst with
  | ref Pt=>simp only [KU,aX,jY,or_false,not_or];exact⟨nLI,nS,(Z2 Pt rfl).2⟩
  | _=>simp only [KU,aX,jY,or_false,not_or];exact⟨nLI,nS⟩
 have Fm:yf w I S o es ep t vals (KU I S fst) 0 h2 fst:=⟨it,qz,md,λPt e=>⟨by rw [e];simp [KU],(Z2 Pt e).1⟩⟩;have MU:=Fm.at (h':=h4) hI hS λb hb o e=>Pg b o (λz=>hL (by rw [<-z];exact hb)) e;have W:=FN (P:=P) (w:=w) (A:=A.in1) (vals:=vals) (by simp [hh]) nSI hI hS hd hf;refine ax ⟨iL F.plain_extend_loop _,codeAny_extend_loopS W (fits_of_scanBound ∅) _ hL _ es.size 0 _ _ _ rfl (cY _) ⟨fst,MU⟩ hL4 (ItemsOf.nil _) λs' bz c' hm Ma nZ=>?_⟩;show wpAny _ A (load s.heap.objs.size >>= _) _ _ s';refine ao (wpAny_load Ma ?_);obtain⟨h',g',d',O4,QZ⟩:=s';have eg:g'=s.gens:=hm.gens;have ed:d'=d:=hm.drawn;have eo:QZ=s.os:=hm.os;subst eg;subst ed;subst eo;have lv:vals.length=es.size:=by rw [md.perm.length_eq,aA,eV]
 have ea:bz.toList=vals:=by
  refine List.ext_getElem? λj=>?_;by_cases c:j < es.size
  .have h1:bz[j]?=some (bz[j]'(by rw [nZ.1];exact c)):=pK _;rw [lN,h1];exact(nZ.2 j _ h1).symm
  rw [mZ (by rw [eV,nZ.1];omega),mZ ∅]
 refine ax (q h' d' O4 bz.toList (λb o e=>?_) (iJ (aP Ma)) ?_ hm.toks)
 .have lb:=aP e;refine hm.heap b o ?_ (Pg b o (aR lb) (kp b o (a0 _ e)));simp only [aX,jY,or_false,not_or];exact⟨aR lb,aR (iK lb ND)⟩
 rw [ea];have pv:∀{l:List (Int×Value)}{m:List K},Paired (El kd h0) l m->Paired (λv k=>∃b,v=Value.ref b/\kd.is h0 k b) (l.map (·.2)) m:=by
  intro l m h
  induction h with
  | nil=>exact .nil
  | cons a _ ih =>
   obtain⟨b,e,i⟩:=a;exact .cons ⟨b,by rw [e],i⟩ ih
 obtain⟨zs,z1,z2⟩:=kj md.perm (pv xy);exact⟨zs,z1,z2.trans hp⟩
end
abbrev TK:=Int×Str×List aL
section
variable {P:Program}{w:World}
def mR (P:Program)(w:World)(h:Heap)(k:TK)(a:Addr):Prop:=∃o t u b n,h.get? a=85/\o.cls=183 /\ o.data=.seq #[.int k.1 t,.str k.2.1 u,.ref b] n/\IsTupleKey (aI P w) h k.2.2 b
theorem mR.inj {h:Heap}{a:Addr}{x y:TK}(hx:mR P w h x a)(hy:mR P w h y a):x=y:=by
 obtain⟨o,t,u,b,n,h1,h2,h3,h4⟩:=hx;obtain⟨o',t',u',b',n',qA,KR,Md,Mc⟩:=hy;rw [h1] at qA;cases qA;rw [h3] at Md;injection Md with e1 e2;simp only [Array.mk.injEq,List.cons.injEq,Value.int.injEq,Value.str.injEq,Value.ref.injEq,and_true] at e1;obtain⟨⟨e3,_⟩,⟨e4,_⟩,e5⟩:=e1;subst e5;obtain⟨x1,x2,x3⟩:=x;obtain⟨y1,y2,y3⟩:=y;have:=IsTupleKey.inj h4 Mc;simp only at e3 e4 this;rw [e3,e4,this]
def mR.typeIs {s:Shared}{k:TK}{a:Addr}(x:mR P w s.heap k a):s.TypeIs (.ref a) "tuple" := let ⟨o,_,_,_,_,ho,hc,_⟩:=x;⟨o,ho,hc⟩
def wg (P:Program)(w:World)(k:TK):Int:=reduceHash (Builtin.Tuple.tupleHashOf [(aI P w).hash (.inl k.1),(aI P w).hash (.inr k.2.1),tupleKeyHash (aI P w) k.2.2])
variable {A:Around}{E:z0b}{s:Shared}
def Ck {k:TK}{a:Addr}{Q:Int->151}(hu:A.units+4 < cLine)(hk:mR P w s.heap k a)(h:Q (wg P w k) { s with toks:=s.toks+(k.2.2.length+4) }) :
  wpAny 163 A (pyHash (.ref a)) Q E s:=by
 have hT:=hk.typeIs;obtain⟨o,t,u,b,n,ho,_,hd,hi⟩:=hk;unfold pyHash
 first | unfold pyHashByItsType | skip
 first | refine ao (wpAny_cRoomFor_or (.inr ∅) ?_) | skip
 refine ao (mn hT qL.lookup ?_);show wpAny _ _ (if (some (Value.builtin "tuple.__hash__") == some Value.none)=true then _ else _) Q E s;rw [ar (by rw [beq_builtin_none];exact bG)];refine ao (mn hT qL.lookup ?_);show wpAny _ _ (callSpecialIfBoundUnlessNone? (.ref a) "__hash__" _ >>= _) Q E s;refine ao (wpAny_callSpecialIfBoundUnlessNone?_slot hT qL (eP qL hT F.entry_tuple_hash ?_ (F.args_tuple_hash_1 _)));show wpAny _ _ (Builtin.Tuple.tupleItemsOf (.ref a) >>= _) _ _ s;refine ao (qP ho hd ?_);refine ao ?_;rw [<-oH];simp only [jX,jm];refine ao (ao ((aI P w).pyHash (k:=.inl k.1) (kq P w _ _) ?_));refine ax ?_;dsimp only;refine ao (ao ((aI P w).pyHash (k:=.inr k.2.1) (iE P w _ _) ?_));refine ax ?_;dsimp only;refine ao (ao (wpAny_pyHash_tuple (by simp;try omega) hi ?_))
 refine ax ?_;dsimp only;refine ax ?_;show wpAny _ _ (retInt (Builtin.Tuple.tupleHashOf [(aI P w).hash (.inl k.1),(aI P w).hash (.inr k.2.1),tupleKeyHash (aI P w) k.2.2])) _ _ _;refine wpAny_ret_mkInt ?_;unfold wg reduceHash at h;generalize Builtin.Tuple.tupleHashOf [(aI P w).hash (.inl k.1),(aI P w).hash (.inr k.2.1),tupleKeyHash (aI P w) k.2.2]=z at h ⊢;show wpAny _ _ (if (decide (-(2:Int) ^ 63<=z) && decide (z < 2 ^ 63))=true then _ else _) Q E _;by_cases hr:(decide (-(2:Int) ^ 63<=z) && decide (z < 2 ^ 63))=true
 .rw [au hr];rw [au hr] at h;exact ax (by simpa [Nat.add_assoc,Nat.add_comm,Nat.add_left_comm] using h)
 rw [ar hr];rw [ar hr] at h;exact ao (gN (ax (by simpa [Nat.add_assoc,Nat.add_comm,Nat.add_left_comm] using h)))
def FT {x y:TK}{a b:Addr}{Q:Bool->151}(hu:A.units+4 < cLine)(hx:mR P w s.heap x a)(hy:mR P w s.heap y b)(h:Q (decide (x=y)) s):wpAny 163 A (eqBool (.ref a) (.ref b)) Q E s:=by
 by_cases UP:a=b
 .subst UP;obtain rfl:=hx.inj hy;rw [cZ rfl] at h;exact SeqAt.EqAt.same (.ref a) P w E Q h
 obtain⟨o,t,u,c,n,h1,h2,h3,h4⟩:=hx;obtain⟨o',t',u',c',n',qA,KR,Md,Mc⟩:=hy;unfold eqBool
 try with_reducible refine fJ ?_
 show wpAny _ _ (if (Value.ref a == Value.ref b)=true then _ else _) Q E s;rw [ar (by intro z;exact UP (by have:=eq_of_beq z;injection this))];have RH:s.TypeIs (.ref a) "tuple" := ⟨o,h1,h2⟩;have RG:s.TypeIs (.ref b) "tuple" := ⟨o',qA,KR⟩;refine ao (wpAny_richCompare_same_room (op:=.Eq) RH RG F.slot_tuple_eq
   (eP F.slot_tuple_eq RH F.entry_tuple_eq ?_ (F.args_tuple_eq_2 _ _)) ∅)
 show wpAny _ _ (isInstance (.ref b) (183) >>= _) _ _ s;refine ao (jN RG vJ ?_);simp only [fk,cz,if_false];refine ao (qP h1 h3 ?_);refine ao (qP qA Md ?_);refine ao ?_;show wpAny _ _ (forIn [(Value.int x.1 t,Value.int y.1 t'),(Value.str x.2.1 u,Value.str y.2.1 u'),(Value.ref c,Value.ref c')] _ _) _ _ _;obtain⟨x1,x2,x3⟩:=x;obtain⟨y1,y2,y3⟩:=y;have fin:∀v:Bool,v=decide ((x1,x2,x3)=(y1,y2,y3))->Q v s:=λv e=>by rw [e];exact h
 simp only [jX,jm];refine ao (ao (qO x1 t y1 t' P w _ _ ?_));by_cases e1:x1=y1
 .rw [show (x1 == y1)=true by simp [e1]];simp only [fk,cz,if_false];refine ax ?_;dsimp only;refine ao (ao (vq x2 u y2 u' P w _ _ ?_));by_cases e2:x2=y2
  .rw [show (x2 == y2)=true by simp [e2]];simp only [fk,cz,if_false];refine ax ?_;dsimp only;refine ao (ao (wpAny_eqBool_tuple (by simp;try omega) h4 Mc ?_))
   by_cases e3:x3=y3
   .rw [cZ e3];simp only [fk,cz,if_false];refine ax ?_;dsimp only;refine ax ?_;exact ax ⟨_,rfl,(λe=>nomatch e),jr (fin _ (by rw [e1,e2,e3];simp))⟩
   rw [fK e3];simp only [jk,if_true];refine ax ?_;dsimp only;refine ax ?_;exact ax ⟨_,rfl,(λe=>nomatch e),jr (fin _ (by simp [e3]))⟩
  rw [show (x2 == y2)=false by simp [e2]];simp only [jk,if_true];refine ax ?_;dsimp only;refine ax ?_;exact ax ⟨_,rfl,(λe=>nomatch e),jr (fin _ (by simp [e2]))⟩
 rw [show (x1 == y1)=false by simp [e1]];simp only [jk,if_true];refine ax ?_;dsimp only;refine ax ?_;exact ax ⟨_,rfl,(λe=>nomatch e),jr (fin _ (by simp [e1]))⟩
def yl {k:TK}{a:Addr}{Q:Bool->151}(hk:mR P w s.heap k a)(h:Q true s):wpAny 163 A (eqIsQuiet 8 (.ref a)) Q E s:=by
 have hT:=hk.typeIs;obtain⟨o,t,u,b,n,h1,h2,h3,h4⟩:=hk;have WZ:∀Q':Bool->151,Q' true s->wpAny 163 A (eqIsQuiet 7 (.ref b)) Q' E s:=λQ' q'=>by
  have KP:=h4.typeIs;obtain⟨o,items,n,ho,_,hd,hi⟩:=h4;unfold eqIsQuiet;refine ao (mn KP F.slot_tuple_eq.lookup ?_);show wpAny _ _ (isInstance (.ref b) (183) >>= _) _ _ s;refine ao (jN KP vJ ?_);simp only [fk,cz,if_false];refine ao (jC ho hd ?_);refine ao ?_;show wpAny _ _ (forIn items _ _) _ _ s;rw [<-oH];refine wpAny_forIn_list _ (λrest r s'=>r.1=none/\s'=s/\∀v∈rest,carriedByValue v=true) _ ?_ ?_ _ _ ⟨rfl,rfl,hi.byValue⟩
  .rintro v rest r s' ⟨hr,rfl,iR⟩;rw [eqIsQuiet_byValue _ (iR v bP)];refine ao (ax ?_);simp only [fk,cz,if_false];exact ax ⟨rfl,rfl,λu Xa=>iR u (b9 _ Xa)⟩
  rintro⟨r1,r2⟩ s' ⟨hr,rfl,_⟩;simp only at hr;subst hr;exact ax q'
 unfold eqIsQuiet;refine ao (mn hT F.slot_tuple_eq.lookup ?_);show wpAny _ _ (isInstance (.ref a) (183) >>= _) _ _ s;refine ao (jN hT vJ ?_);simp only [fk,cz,if_false];refine ao (jC h1 h3 ?_);refine ao ?_;show wpAny _ _ (forIn (#[.int k.1 t,.str k.2.1 u,.ref b]:z0k) _ _) _ _ s;rw [<-oH];simp only [jX,jm];rw [eqIsQuiet_byValue _ (show carriedByValue (.int k.1 t)=true from rfl),eqIsQuiet_byValue _ (show carriedByValue (.str k.2.1 u)=true from rfl)];refine ao (ao (ax ?_));simp only [fk,cz,if_false];refine ax ?_;dsimp only;refine ao (ao (ax ?_));simp only [fk,cz,if_false];refine ax ?_;dsimp only;refine ao (ao (WZ _ ?_));simp only [fk,cz,if_false];refine ax ?_;dsimp only;refine ax ?_;exact ax h
def kP (n:Nat){v:Value}(h:carriedByValue v=true):ofAClassStatement n v=pure false:=by
 cases v with
 | ref a=>simp [carriedByValue] at h
 | _=>unfold ofAClassStatement;rfl
def FR {k:TK}{a:Addr}{Q:Bool->151}(hk:mR P w s.heap k a)(h:Q false s):wpAny 163 A (ofAClassStatement 8 (.ref a)) Q E s:=by
 have hT:=hk.typeIs;obtain⟨o,t,u,b,n,h1,h2,h3,h4⟩:=hk;have WZ:∀Q':Bool->151,Q' false s->wpAny 163 A (ofAClassStatement 7 (.ref b)) Q' E s:=λQ' q'=>by
  have KP:=h4.typeIs;obtain⟨o,items,n,ho,_,hd,hi⟩:=h4;unfold ofAClassStatement;refine ao (iI KP ?_);dsimp only;simp only [show ("tuple" == "tuple")=true by decide,if_true];refine ao (ax ?_);simp only [fk,cz,if_false];refine ao (jC ho hd ?_);dsimp only;refine ao ?_;rw [<-oH];refine wpAny_forIn_list _ (λrest r s'=>r.1=none/\s'=s/\∀v∈rest,carriedByValue v=true) _ ?_ ?_ _ _ ⟨rfl,rfl,hi.byValue⟩
  .rintro v rest r s' ⟨hr,rfl,iR⟩;rw [kP _ (iR v bP)];refine ao (ax ?_);simp only [cz,if_false];exact ax ⟨rfl,rfl,λu Xa=>iR u (b9 _ Xa)⟩
  rintro⟨r1,r2⟩ s' ⟨hr,rfl,_⟩;simp only at hr;subst hr;exact ax q'
 unfold ofAClassStatement;refine ao (iI hT ?_);dsimp only;simp only [show ("tuple" == "tuple")=true by decide,if_true];refine ao (ax ?_);simp only [fk,cz,if_false];refine ao (jC h1 h3 ?_);dsimp only;refine ao ?_;rw [<-oH];simp only [jX,jm];rw [kP _ (show carriedByValue (.int k.1 t)=true from rfl),kP _ (show carriedByValue (.str k.2.1 u)=true from rfl)];refine ao (ao (ax ?_));simp only [cz,if_false];refine ax ?_;dsimp only;refine ao (ao (ax ?_));simp only [cz,if_false];refine ax ?_;dsimp only;refine ao (ao (WZ _ ?_));simp only [cz,if_false];refine ax ?_;dsimp only;refine ax ?_;exact ax h
def FU {k:TK}{a:Addr}{Q:Bool->151}(hk:mR P w s.heap k a)(h:Q false s):wpAny 163 A (hashByValue 8 (.ref a)) Q E s:=by
 have hT:=hk.typeIs;obtain⟨o,t,u,b,n,h1,h2,h3,h4⟩:=hk;unfold hashByValue;refine ao (mn hT qL.lookup ?_);dsimp only;refine ao (jC h1 h3 ?_);dsimp only [Option.getD];refine ao ?_;rw [<-oH];simp only [jX,jm];rw [show hashByValue 7 (.int k.1 t)=pure true by unfold hashByValue;rfl,show hashByValue 7 (.str k.2.1 u)=pure false by unfold hashByValue;rfl];refine ao (ao (ax ?_));simp only [fk,cz,if_false];refine ax ?_;dsimp only;refine ao (ao (ax ?_));simp only [jk,if_true];refine ax ?_;dsimp only;refine ax ?_;exact ax h
end
end ST
namespace L2
open PySem PySem.Spec PyProof.Rows
section
variable {prog:Program}{w:World}{A:Around}{E:z0b}{s:Shared}
def Au {a:Addr}{vs:z0m}{P:Fin->151}(ho:s.heap.get? a=some (seqObj "list" vs.toArray n))(h1:vs.length < 2)
  (h:P (.done (.ret .none)) { s with heap:=sortedHeap s.heap a vs ((pairsOf vs).map (·.2)) }) :
  wpAny 182 A (Builtin.«list.sort» ⟨[.ref a],[]⟩) P E s:=by
 rw [list_sort_plain];have ha:a < s.heap.objs.size:=aP ho;refine ao (listItems_at ho rfl ?_);refine ao (listUpdate_at ho rfl ?_);obtain⟨e1,Ft⟩:∃e1,(s.heap.update a (Obj.mapSeq λ_=>#[])).get? a=some (seqObj "list" #[] e1):=⟨_,get?_update_seq ho (λ_=>#[])⟩;refine ao (seqEpoch_at Ft rfl ?_);refine ao (wpAny_newTuple ?_);refine ao (wpAny_newList ?_);refine fJ ?_;have ho6:(((s.heap.update a (Obj.mapSeq λ_=>#[])).push (seqObj "tuple" vs.toArray 0)).push (seqObj "list" #[] 0)).get? a=some (seqObj "list" #[] e1):=by
  rw [Heap.get?_push_ne _ _ _ (by rw [size_push',Heap.size_update];exact aR (mV ha)),Heap.get?_push_ne _ _ _ (by rw [Heap.size_update];exact aR ha)];exact Ft
 show wpAny 182 A _ P E { s with heap:=((s.heap.update a (Obj.mapSeq λ_=>#[])).push (seqObj "tuple" vs.toArray 0)).push (seqObj "list" #[] 0) };dsimp only;have h2:vs.toArray.size < 2:=by simpa using h1
 rw [au h2,au h2];refine ao (ax ?_);rw [StateT.run_pure];refine ao (ax ?_);dsimp only;refine ao (seqEpoch_at ho6 rfl ?_);refine ao (listUpdate_at ho6 rfl ?_ (hsz2:=by rw [Array.size_map];show (pairsOf vs).size<=_;rw [pairsOf_size,fO];omega));simp only [bne_self_eq_false,cz,if_false];exact ax h
end
def D_:∀(vs:z0m),((pairsOf vs).map (·.2))=vs.toArray:=λvs=>by
 apply Array.toList_inj.mp;rw [Array.toList_map,pairsOf_toList,List.map_snd_zip (aH _)]
end L2
namespace ST
open PySem PySem.Spec PyProof.Rows L2
structure Fg {α:Type}(lt:α->α->Bool):Prop where
 uh:∀{a b},lt a b=true->lt b a=false
 total:∀{a b},lt a b=false->lt b a=false->a=b
 Uj:∀{a b c},lt b a=false->lt c b=false->lt c a=false
def Fg.yc {α:Type}{lt:α->α->Bool}(h:Fg lt)(a:α):lt a a=false:=by
 cases e:lt a a with
 | false=>rfl
 | true=>rw [h.uh e] at e;cases e
def lex {α β:Type} [DecidableEq α] (l1:α->α->Bool)(l2:β->β->Bool)(a b:α×β):Bool:=if a.1=b.1 then l2 a.2 b.2 else l1 a.1 b.1
theorem Fg.lex {α β:Type} [DecidableEq α] {l1:α->α->Bool}{l2:β->β->Bool}(h1:Fg l1)(h2:Fg l2):Fg (lex l1 l2):=by
 refine⟨λ{a b} h=>?_,λ{a b} h k=>?_,λ{a b c} h k=>?_⟩
 .unfold ST.lex at *;by_cases e:a.1=b.1
  .rw [au e] at h;rw [au e.symm];exact h2.uh h
  rw [ar e] at h;rw [ar (λz=>e z.symm)];exact h1.uh h
 .unfold ST.lex at *;by_cases e:a.1=b.1
  .rw [au e] at h;rw [au e.symm] at k;exact Prod.ext e (h2.total h k)
  rw [ar e] at h;rw [ar (λz=>e z.symm)] at k;exact absurd (h1.total h k) e
 unfold ST.lex at *;by_cases e1:c.1=a.1
 .rw [au e1];by_cases e2:b.1=a.1
  .rw [au e2] at h;rw [au (e1.trans e2.symm)] at k;exact h2.Uj h k
  rw [ar e2] at h;rw [ar (λz=>e2 (z.symm.trans e1)),e1] at k;exact absurd (h1.total h k) e2
 rw [ar e1];by_cases e2:b.1=a.1
 .rw [ar (λz=>e1 (z.trans e2)),e2] at k;exact k
 rw [ar e2] at h;by_cases e3:c.1=b.1
 .rw [e3];exact h
 rw [ar e3] at k;exact h1.Uj h k
def C5:Fg C6:=⟨Ht,Ep,λ{a b c} h k=>by
 cases e:C6 c a with
 | false=>rfl
 | true=>rcases Kn (b:=b) e with z | z <;> simp_all⟩
def RC (a b:Int):Bool:=decide (a < b)
def nW:Fg RC:=by
 refine⟨λ{a b} h=>?_,λ{a b} h k=>?_,λ{a b c} h k=>?_⟩ <;> simp only [RC,decide_eq_true_eq,decide_eq_false_iff_not] at * <;> omega
def oLt:z0n->z0n->Bool
 | none,some _=>true
 | some x,some y=>RC x y
 | _,none=>false
def Kg:Fg oLt:=by
 refine⟨λ{a b} h=>?_,λ{a b} h k=>?_,λ{a b c} h k=>?_⟩
 .cases a <;> cases b <;> simp_all [oLt];exact nW.uh h
 .cases a <;> cases b <;> simp_all [oLt];exact nW.total h k
 cases a <;> cases b <;> cases c <;> simp_all [oLt];exact nW.Uj h k
abbrev DK:=Str×z0n
abbrev D3:=Int×Str×DK
abbrev Mn:DK->DK->Bool:=lex C6 oLt
abbrev yU:D3->D3->Bool:=lex RC (lex C6 Mn)
def Dq:Fg Mn:=C5.lex Kg
def xf:Fg yU:=nW.lex (C5.lex Dq)
def uk {α:Type}(lt:α->α->Bool)(l:List α):Prop:=l.Pairwise λx y=>lt y x=false
theorem mC {α:Type}{lt:α->α->Bool}(o:Fg lt):∀{l m:List α},uk lt l->uk lt m->l.Perm m->l=m
 | [],m,_,_,p=>by rw [List.nil_perm.mp p]
 | x::r,[],_,_,p=>absurd p.length_eq 88
 | x::r,y::t,h,k,p=>by
  have e:x=y:=by
   have h1:=iX.mp h;have k1:=iX.mp k;rcases aX.mp (p.mem_iff.mp (bP (a:=x) (l:=r))) with e | e
   .exact e
   rcases aX.mp (p.mem_iff.mpr (bP (a:=y) (l:=t))) with e2 | e2
   .exact e2.symm
   exact o.total (k1.1 x e) (h1.1 y e2)
  subst e;rw [mC o (iX.mp h).2 (iX.mp k).2 (List.perm_cons x |>.mp p)]
def Ju (d:DK):List aL:=match d.2 with
 | none=>[.inr d.1]
 | some i=>[.inr d.1,.inl i]
def TU (d:DK)(aK:z0m):Prop:=match d.2 with
 | none=>∃t,aK=[.str d.1 t]
 | some i=>∃t u,aK=[.str d.1 t,.int i u]
def tH (h:Heap)(d:DK)(a:Addr):Prop:=∃o aK n,h.get? a=85/\o.cls=183 /\ o.data=.seq (List.toArray aK) n/\TU d aK
def tH.keeps {h h':Heap}{d:DK}{a:Addr}(x:tH h d a)(kp:x8 h h'):tH h' d a:=by
 obtain⟨o,aK,n,h1,r⟩:=x;exact⟨o,aK,n,kp _ _ h1,r⟩
section
variable {P:Program}{w:World}{A:Around}{E:z0b}{s:Shared}
def sL {d:DK}(h:TU d aK):∃t r,aK=.str d.1 t::r/\match d.2 with | none=>r=[] | some i=>∃u,r=[Value.int i u]:=by
 obtain⟨z,o⟩:=d;cases o with
 | none=>obtain⟨t,rfl⟩:=h;exact⟨t,[],rfl,rfl⟩
 | some i=>obtain⟨t,u,rfl⟩:=h;exact⟨t,_,rfl,u,rfl⟩
def Km {x y:Addr}{d e:DK}(hu:A.units < cLine)(hx:tH s.heap d x)(hy:tH s.heap e y)(q:Q (.bool (Mn d e)) s):wpAny 163 A (compareOp .Lt (.ref x) (.ref y)) Q E s:=by
 obtain⟨o,aK,n,h1,h2,h3,h4⟩:=hx;obtain⟨o',tY,n',qA,KR,Md,Mc⟩:=hy;have RH:s.TypeIs (.ref x) "tuple" := ⟨o,h1,h2⟩;have RG:s.TypeIs (.ref y) "tuple" := ⟨o',qA,KR⟩;obtain⟨t,r,rfl,hr⟩:=sL h4;obtain⟨t',r',rfl,NY⟩:=sL Mc;refine wpAny_richCompare_same_room (op:=.Lt) RH RG F.slot_tuple_lt (eP F.slot_tuple_lt RH F.entry_tuple_lt ?_ (F.args_tuple_lt_2 _ _)) hu;show wpAny _ _ (isInstance (.ref y) (183) >>= _) _ _ s;refine ao (jN RG vJ ?_);simp only [fk,cz,if_false];refine ao (qP h1 h3 ?_);refine ao (qP qA Md ?_);refine ao ?_;show wpAny _ _ (forIn ((Value.str d.1 t,Value.str e.1 t')::r.zip r') _ _) _ _ _;simp only [jX];refine ao (ao (vq _ t _ t' P w _ _ ?_));unfold Mn ST.lex at q;by_cases c:d.1=e.1
 .rw [au c] at q;rw [show (d.1 == e.1)=true by simp [c]];simp only [fk,cz,if_false];refine ax ?_;dsimp only;generalize hp:d.2=p at hr q;generalize hq:e.2=p' at NY q;cases p with
  | none =>
   dsimp only at hr;subst hr;cases p' with
   | none =>
    dsimp only at NY;subst NY;simp only [List.zip_nil_left,jm];refine ax ?_;exact ax ⟨_,rfl,(λe=>nomatch e),q⟩
   | some j =>
    obtain⟨u,rfl⟩:=NY;simp only [List.zip_nil_left,jm];refine ax ?_;exact ax ⟨_,rfl,(λe=>nomatch e),q⟩
  | some i =>
   obtain⟨u,rfl⟩:=hr;cases p' with
   | none =>
    dsimp only at NY;subst NY;simp only [List.zip_nil_right,jm];refine ax ?_;exact ax ⟨_,rfl,(λe=>nomatch e),q⟩
   | some j =>
    obtain⟨u',rfl⟩:=NY;simp only [oJ,List.zip_nil_left,jX,jm];refine ao (ao (qO i u j u' P w _ _ ?_));by_cases c2:i=j
    .rw [show (i == j)=true by simp [c2]];simp only [fk,cz,if_false];refine ax ?_;dsimp only;refine ax ?_;have:oLt (some i) (some j)=false:=by show RC i j=false;rw [c2];exact nW.yc j
     rw [this] at q;exact ax ⟨_,rfl,(λe=>nomatch e),q⟩
    rw [show (i == j)=false by simp [c2]];simp only [jk,if_true];refine ao (gN ?_);refine ao (PyProof.Rows.lt_int ?_);refine ao (ax (ax ?_));dsimp only;refine ax ?_;exact ax ⟨_,rfl,(λe=>nomatch e),q⟩
 rw [ar c] at q;rw [show (d.1 == e.1)=false by simp [c]];simp only [jk,if_true];refine ao (gN ?_);refine ao (PyProof.Rows.lt_str ?_);refine ao (ax (ax ?_));dsimp only;refine ax ?_;exact ax ⟨_,rfl,(λe=>nomatch e),q⟩
def tH.key {h:Heap}{d:DK}{a:Addr}(x:tH h d a):IsTupleKey (aI P w) h (Ju d) a:=by
 obtain⟨o,aK,n,h1,h2,h3,h4⟩:=x;refine⟨o,aK.toArray,n,h1,h2,h3,?_⟩;obtain⟨z,p⟩:=d;cases p with
 | none=>obtain⟨t,rfl⟩:=h4;exact .cons (iE P w _ _) .nil
 | some i=>obtain⟨t,u,rfl⟩:=h4;exact .cons (iE P w _ _) (.cons (kq P w _ _) .nil)
def Je (h:Heap)(k:D3)(a:Addr):Prop:=∃o t u b n,h.get? a=85/\o.cls=183 /\ o.data=.seq #[.int k.1 t,.str k.2.1 u,.ref b] n/\tH h k.2.2 b
def DN (k:D3):TK:=(k.1,k.2.1,Ju k.2.2)
def nh {a b:D3}(h:DN a=DN b):a=b:=by
 obtain⟨a1,a2,a3,a4⟩:=a;obtain⟨b1,b2,b3,b4⟩:=b;simp only [DN,jV] at h;obtain⟨h1,h2,h3⟩:=h;cases a4 <;> cases b4 <;> simp_all [Ju]
def Je.tk {h:Heap}{k:D3}{a:Addr}(x:Je h k a):mR P w h (DN k) a:=by
 obtain⟨o,t,u,b,n,h1,h2,h3,h4⟩:=x;exact⟨o,t,u,b,n,h1,h2,h3,h4.key⟩
theorem Je.keeps {h h':Heap}{k:D3}{a:Addr}(x:Je h k a)(kp:x8 h h'):Je h' k a:=by
 obtain⟨o,t,u,b,n,h1,h2,h3,h4⟩:=x;exact⟨o,t,u,b,n,kp _ _ h1,h2,h3,h4.keeps kp⟩
def wj (a b:D3):decide (DN a=DN b)=decide (a=b):=by
 by_cases h:a=b
 .rw [cZ h,cZ (by rw [h])]
 rw [fK h,fK λz=>h (nh z)]
def IH (P:Program)(w:World):om P w D3 where
 is:=Je
 hash:=λk=>wg P w (DN k)
 draws:=λk=>(DN k).2.2.length+4
 room:=λA=>A.units+4 < cLine
 inj:=λhx hy=>nh (mR.inj (P:=P) (w:=w) hx.tk hy.tk)
 keeps:=λx k=>x.keeps k
 pyHash:=λhu hk h=>Ck hu hk.tk h
 eqBool:=λhu hx hy h=>FT hu hx.tk hy.tk (by rw [wj];exact h)
 quiet:=λhk h=>yl (P:=P) (w:=w) hk.tk h
 yP:=λhk h=>FR (P:=P) (w:=w) hk.tk h
 Dt:=λhk h=>FU (P:=P) (w:=w) hk.tk h
def Tn {x y:Addr}{d e:D3}{Q:Bool->151}(hu:A.units+2 < cLine)(hx:Je s.heap d x)(hy:Je s.heap e y)(q:Q (yU d e) s):wpAny 163 A (keyLt' (tuples' true) (.ref x) (.ref y)) Q (λ_ _=>False) s:=by
 obtain⟨o,t,u,b,n,h1,h2,h3,h4⟩:=hx;obtain⟨o',t',u',b',n',qA,KR,Md,Mc⟩:=hy;refine PySem.W.kat_lt h1 h3 qA Md ?_;show PySem.W.KatLex P w A true _ Q [(.int d.1 t,.int e.1 t'),(.str d.2.1 u,.str e.2.1 u'),(.ref b,.ref b')] 0 s;refine PySem.W.kat_cons (qO _ t _ t' P w _ _ ?_);unfold yU ST.lex at q;by_cases c:d.1=e.1
 .rw [au c] at q;rw [show (d.1 == e.1)=true by simp [c]];refine PySem.W.kat_yes (PySem.W.kat_cons (vq _ u _ u' P w _ _ ?_));by_cases c2:d.2.1=e.2.1
  .rw [au c2] at q;rw [show (d.2.1 == e.2.1)=true by simp [c2]];refine PySem.W.kat_yes (PySem.W.kat_cons (wpAny_eqBool_tuple (knd:=aI P w) ∅ h4.key Mc.key ?_));by_cases c3:Ju d.2.2=Ju e.2.2
   .rw [cZ c3];refine PySem.W.kat_yes (PySem.W.kat_nil ?_);have e3:d.2.2=e.2.2:=by
     have:=nh (a:=d) (b:=e) (by unfold DN;rw [c,c2,c3]);rw [this]
    have:Mn d.2.2 e.2.2=false:=by rw [e3];exact Dq.yc _
    rw [this] at q;exact q
   rw [fK c3];exact PySem.W.kat_no (PySem.W.kat_one _ _ (Km ∅ h4 Mc q))
  rw [ar c2] at q;rw [show (d.2.1 == e.2.1)=false by simp [c2]];exact PySem.W.kat_no (PySem.W.kat_one _ _ (lt_str q))
 rw [ar c] at q;rw [show (d.1 == e.1)=false by simp [c]];exact PySem.W.kat_no (oneLt_int q)
structure tE (P:Program)(w:World)(K:Type) where
 is:Heap->K->Addr->Prop
 lt:K->K->Bool
 ord:Fg lt
 room:Around->Prop
 keeps:∀{h h':Heap}{k:K}{a:Addr},is h k a->(∀b o xs n,o.cls=183 -> o.data=.seq xs n->h.get? b=85->h'.get? b=85)->is h' k a
 ask:∀{A:Around}{s:Shared}{x y:Addr}{d e:K}{Q:Bool->151},room A->is s.heap d x->is s.heap e y->Q (lt d e) s->wpAny 163 A (keyLt' (tuples' true) (.ref x) (.ref y)) Q (λ_ _=>False) s
 ty:String
 Ui:(Value.type ty != Value.type "tuple")=true
 first:∀{h:Heap}{k:K}{a:Addr},is h k a->∃o xs n f,h.get? a=85/\o.cls=183 /\ o.data=.seq xs n/\xs[0]?=some f/\PySem.W.Looks 163 h (typeOf f) (.type ty)
variable {K:Type}{sk:tE P w K}
theorem uV {h:Heap}:∀{ts:z0p}{zs:List K},Paired (λt z=>sk.is h z t) ts zs->∃fs,PySem.W.KatTups h (218) fs/\fs.length=ts.length/\∀v∈fs,PySem.W.Looks 163 h (typeOf v) (.type sk.ty)
 | _,_,.nil=>⟨[],trivial,rfl,λv h=>by cases h⟩
 | _,_,.cons a b=>by
  obtain⟨fs,h1,h2,h3⟩:=uV b;obtain⟨o,xs,n,f,g1,g2,g3,g4,g5⟩:=sk.first a;refine⟨f::fs,⟨⟨_,o,xs,n,rfl,g1,g2,g3,g4⟩,h1⟩,by simp [h2],λv hv=>?_⟩;rcases aX.mp hv with e | e
  .rw [e];exact g5
  exact h3 v e
def oV {a L:Addr}{m:z0c}{ts:z0p}{zs:List K}(R:sk.room A)(mN:s.heap.Ns L m)(ho:s.heap.get? a=some (seqObj "list" (218).toArray n))(rel:Paired (λt z=>sk.is s.heap z t) ts zs)(Jq:ts.length < 64)
  (q:∀(h2:Heap) (c:Nat)(fE:z0p)(cf:List K),(∀b u,b≠L->b≠a->s.heap.get? b=some u->h2.get? b=some u)->h2.Ns L m->h2.get? a=some (seqObj "list" (fE.map Value.ref).toArray c)->(∀t' z',(t',z')∈fE.zip cf->(t',z')∈ts.zip zs)->fE.length=cf.length->cf.Perm zs->uk sk.lt cf->P' (.done (.ret .none)) { s with heap:=h2 }) :
  wpAny 163 A (Builtin.«list.sort» ⟨[.ref a],[]⟩) P' E s:=by
 have lp:=a9 rel;have XW:a≠L:=λz=>by
  obtain⟨o,es,ep,Bu,qc,_⟩:=mN;rw [<-z,ho] at Bu;cases Bu;cases qc
 by_cases h2:ts.length < 2
 .refine Au ho (by simpa using h2) ?_;rw [D_];obtain⟨e,he⟩:=sortedHeap_at (out:=(218).toArray) ho;have keep:∀b u,b≠a->s.heap.get? b=some u->(sortedHeap s.heap a (218) (218).toArray).get? b=some u:=λb u nb hb=>by
   have lb:=aP hb;rw [sortedHeap_old nb lb];exact hb
  refine q _ e ts zs (λb u _ nb hb=>keep b u nb hb) ?_ he (λ_ _ h=>h) lp (.refl _) ?_
  .obtain⟨o,es,ep,h1,h2⟩:=mN;exact⟨o,es,ep,keep L o (cV XW) h1,h2⟩
  match zs,lp with
  | [],_=>exact .nil
  | [_],_=>exact List.pairwise_singleton _ _
  | _::_::_,z=>simp at z;omega
 refine PySem.W.kat_list_sort (h₀:=vm.o6 s.heap) (L:=L) (m:=m) (news:=vm.ledger s.heap L a) (vs:=218) (vm.Im mN) (λp hp=>(vm.pO XW ho) p (b9 _ hp)) ho XW (vm.jy _ _) (λp hp=>?_) (by rw [aA];omega) (by rw [aA];exact Jq) λe1 h' F' N'=>?_
 .obtain⟨b,u⟩:=p;exact(vm.eI.mp hp).2.1
 have keep:∀b u,b≠L->b≠a->s.heap.get? b=some u->h'.get? b=some u:=λb u nb na hb=>(N' (b,u) (b9 _ (vm.eI.mpr ⟨nb,na,hb⟩))).1;have WO:∀b o xs n,o.cls=183 -> o.data=.seq xs n->160->h'.get? b=85:=λb o xs n c d hb=>by
  refine keep b o ?_ ?_ hb
  .rintro rfl;obtain⟨o',es,ep,Bu,qc,hc,_⟩:=mN;rw [hb] at Bu;cases Bu;rw [d] at qc;cases qc
  rintro rfl;rw [ho] at hb;cases hb;exact absurd (show Value.type "list"=Value.type "tuple" from c) nofun
 have QQ:Paired (λt z=>sk.is h' z t) ts zs:=aD (λt z i=>sk.keeps i WO) rel;obtain⟨fs,k1,k2,k3⟩:=uV QQ;refine PySem.W.kat_kind (T:=.type sk.ty) k1 ∅ (λv hv=>k3 v hv) 88 ?_;rw [sk.Ui,aA];have Ms:∀i,i < ts.length->∃t z,ts[i]?=some t/\zs[i]?=some z/\sk.is h' z t:=λi hi=>by
  have e:zs[i]?=some (zs[i]'∅):=dA ∅;obtain⟨t,e1,e2⟩:=Paired.at_ QQ i _ e;exact⟨t,_,e1,e,e2⟩
 have ne:ts≠[]:=λz=>by rw [z] at h2;simp at h2
 obtain⟨z0,hz0⟩:∃z0,zs[0]?=some z0:=by
  obtain⟨_,z,_,e,_⟩:=Ms 0 ∅;exact⟨z,e⟩
 refine JE (n:=ts.length) (lt:=λi j=>sk.lt (zs.getD i z0) (zs.getD j z0)) ⟨λa b c _ _ _ h1 h2=>sk.ord.Uj h1 h2,λa b _ _ h=>sk.ord.uh h⟩ (λi j C hi hj hC=>?_) ∅ λp PP S=>?_
 .obtain⟨ti,zi,g1,g2,g3⟩:=Ms i hi;obtain⟨tj,zj,g4,g5,g6⟩:=Ms j hj;show wpAny _ _ (keyLt' _ ((218).getD i Value.none) ((218).getD j Value.none)) C _ _;have e1:(218).getD i Value.none=.ref ti:=by rw [List.getD,aS,g1];rfl
  have e2:(218).getD j Value.none=.ref tj:=by rw [List.getD,aS,g4];rfl
  rw [e1,e2];dsimp only at hC;rw [show zs.getD i z0=zi by rw [List.getD,g2];rfl,show zs.getD j z0=zj by rw [List.getD,g5];rfl] at hC;exact sk.ask R g3 g6 hC
 have LW:=PP.size;have pin:∀i∈p.toList,i < ts.length:=λi hi=>by
  have:i∈(List.range ts.length).toArray:=PP.pm.mem_iff.mp (by simpa using hi);simpa using this
 refine⟨(a,seqObj "list" #[] e1)::vm.ledger s.heap L a,λo'=>(a,o')::vm.ledger s.heap L a,F',N',.head λq hq=>?_,λh2 c F2 N2=>?_⟩
 .obtain⟨b,u⟩:=q;exact(vm.eI.mp hq).2.1
 have Ys:(p.toList.map λi=>(218).getD i Value.none)=(p.toList.map λi=>ts.getD i 0).map Value.ref:=by
  rw [fj];exact vG λi hi=>Ii ts i (pin i hi)
 rw [Ys] at N2;refine q h2 c (p.toList.map λi=>ts.getD i 0) (p.toList.map λi=>zs.getD i z0) (λb u nb na hb=>(N2 (b,u) (b9 _ (vm.eI.mpr ⟨nb,na,hb⟩))).1) F2.ns (N2 (a,_) bP).1 (λt' z' hz=>?_) 88 ?_ ?_
 .rw [List.zip_map',bD] at hz;obtain⟨i,hi,e⟩:=hz;have KJ:=pin i hi;obtain⟨t,z,g1,g2,_⟩:=Ms i KJ;cases e;rw [qF];refine⟨i,?_⟩;rw [Ad];exact⟨by show ts[i]?=some (ts.getD i 0);rw [List.getD,g1];rfl,by show zs[i]?=some (zs.getD i z0);rw [List.getD,g2];rfl⟩
 .have e:zs=(List.range ts.length).map λi=>zs.getD i z0:=by
   refine List.ext_getElem (by simp [lp]) λi h1 h2=>?_;simp [List.getD,h1]
  have pp:p.toList.Perm (List.range ts.length):=by
   have:=PP.pm.toList;simpa using this
  exact(pp.map _).trans (by rw [<-e])
 unfold uk;rw [j3,Ae];intro i j hi hj yZ;have:=S i j ∅ (by simpa [LW] using hj);have e1:at_ p i=p.toList[i]:=by simp [at_,Array.getD,show i < p.size by simpa using hi]
 have e2:at_ p j=p.toList[j]:=by simp [at_,Array.getD,show j < p.size by simpa using hj]
 rw [e1,e2] at this;exact this
end
section
variable {P:Program}{w:World}{A:Around}{E:z0b}{s:Shared}
def Qi {h h':Heap}(k:∀b o xs n,o.cls=Value.type "tuple" -> o.data=.seq xs n->h.get? b=85->h'.get? b=85){d:DK}{a:Addr}(x:tH h d a):tH h' d a:=by
 obtain⟨o,aK,n,h1,h2,h3,h4⟩:=x;exact⟨o,aK,n,k _ _ _ _ h2 h3 h1,h2,h3,h4⟩
def sO (P:Program)(w:World):tE P w D3 where
 is:=Je
 lt:=yU
 ord:=xf
 room:=λA=>A.units+2 < cLine
 keeps:=λx k=>by
  obtain⟨o,t,u,b,n,h1,h2,h3,h4⟩:=x;exact⟨o,t,u,b,n,k _ _ _ _ h2 h3 h1,h2,h3,Qi k h4⟩
 ask:=λhu hx hy q=>Tn hu hx hy q
 ty := "int"
 Ui:=by decide
 first:=λ{h k a} x=>by
  obtain⟨o,t,u,b,n,h1,h2,h3,h4⟩:=x;exact⟨o,_,n,_,h1,h2,h3,rfl,λA Q E s _ q=>ax q⟩
def As {K:Type} [DecidableEq K] {kd:om P w K}{sk:tE P w K}(same:kd.is=sk.is){m:z0c}{ds:List K}(hh:A.handled=none)(R:sk.room A.in1.in1)(mN:s.heap.Ns L m)(kp0:x8 h0 s.heap)(T:lH kd h0 s.heap S (yV w) ds)(Jq:ds.length < 64)
  (q:∀(h':Heap)(d:Drawn) (tk:Nat)(l:Addr) (e:Nat)(ts:z0p)(zs:List K),(∀b o,b≠L->160->h'.get? b=85)->h'.Ns L m->s.heap.objs.size<=l->h'.get? l=some (seqObj "list" (218).toArray e)->Paired (λt z=>sk.is h0 z t) ts zs->zs.Perm ds->uk sk.lt zs->s.toks<=tk->Q (.ref l) { s with heap:=h',drawn:=d,toks:=tk }) :
  wpAny 163 A (call (.builtin "sorted") [.ref S]) Q E s:=by
 refine z7 kind_sorted plain_sorted entry_sorted (args_sorted1 _) ?_;unfold Builtin.«sorted»;refine ao (m:=checkCount "sorted" 1 1 _) (ax ?_);refine ao (zA (by simp [hh]) T (by unfold scanBound;omega) λh1 d tk vs kp le hz tk1=>?_);obtain⟨zs,hS,pz⟩:=hz;obtain⟨ts,rfl,rel⟩:∃ts:z0p,vs=218/\Paired (λt z=>sk.is h0 z t) ts zs:=by
  rw [same] at hS;clear pz
  induction hS with
  | nil=>exact⟨[],rfl,.nil⟩
  | cons a _ ih =>
   obtain⟨b,rfl,i⟩:=a;obtain⟨ts,rfl,r⟩:=ih;exact⟨b::ts,rfl,.cons i r⟩
 have lz:ts.length=ds.length:=by rw [<-pz.length_eq,a9 rel]
 refine ao (wpAny_newList ?_);have HV:(h1.push 443).get? h1.objs.size=some 443:=bB _ rfl;have EC:(h1.push 443).Ns L m:=by
  obtain⟨o,es,ep,g1,g2⟩:=mN;exact⟨o,es,ep,a0 _ (kp _ _ g1),g2⟩
 have LN:∀b o,h0.get? b=85->(h1.push 443).get? b=85:=λb o g=>a0 _ (kp _ _ (kp0 _ _ g));have QP:Paired (λt z=>sk.is (h1.push 443) z t) ts zs:=aD (λt z i=>sk.keeps i λb o xs n _ _ g=>LN b o g) rel;refine ao (fJ (eP slot_list_sort ⟨_,HV,rfl⟩ entry_list_sort (oV (s:={ s with heap:=h1.push 443,drawn:=d,toks:=tk }) R EC HV QP ∅ λh2 c fE cf k2 Kh g2 sub len pm tN=>⟨_,rfl,?_⟩) (args_list_sort _)));refine ax ⟨_,rfl,q h2 d tk h1.objs.size c fE cf (λb o nb hb=>?_) Kh le g2 ?_ (pm.trans pz) tN tk1⟩
 .have So:=kp b o hb;exact k2 b o nb (aR (aP So)) (a0 _ So)
 have all:∀p∈ts.zip zs,sk.is h0 p.2 p.1:=by
  clear hS sub q k2 QP lz HV EC LN pm pz
  induction rel with
  | nil=>intro p hp;cases hp
  | cons a _ ih =>
   intro p hp;rw [oJ] at hp;rcases aX.mp hp with e | e
   .rw [e];exact a
   exact ih p e
 have mk:∀(l:z0p)(m:List K),l.length=m.length->(∀p∈l.zip m,sk.is h0 p.2 p.1)->Paired (λt z=>sk.is h0 z t) l m:=by
  intro l
  induction l with
  | nil=>intro m e _;cases m with | nil=>exact .nil | cons _ _=>cases e
  | cons x r ih =>
   intro m e h;cases m with
   | nil=>cases e
   | cons y t =>
    rw [oJ] at h;exact .cons (h (x,y) bP) (ih t (by simpa using e) λp hp=>h p (b9 _ hp))
 exact mk fE cf len λp hp=>all p (sub p.1 p.2 hp)
end
end ST
namespace L2
open PySem PySem.Spec PyProof.Rows
section
variable {P:Program}{w:World}{A:Around}{E:z0b}{s:Shared}
end
def E9:bootBuiltins "set"=some (.type "set"):=by decide +kernel
theorem Inv.drawn {σ:List (149)}(d:Drawn)(I:141):Inv X ah σ H { s with drawn:=d }:=⟨I.ok,I.os,I.bare,I.base,I.loc,I.cell,I.free,I.kK,I.pin,I.bI,I.len⟩
end L2
namespace ST
open PySem PySem.Spec PyProof.Rows L2
section
variable {P:Program}{w:World}{A:Around}{E:z0b}{s:Shared}
def om.wi {K:Type} [DecidableEq K] (kd:om P w K)(G:K->Addr->Prop):om P w K where
 is:=λh k a=>kd.is h k a/\G k a
 hash:=kd.hash
 draws:=kd.draws
 room:=kd.room
 inj:=λhx hy=>kd.inj hx.1 hy.1
 keeps:=λx k=>⟨kd.keeps x.1 k,x.2⟩
 pyHash:=λhu hk h=>kd.pyHash hu hk.1 h
 eqBool:=λhu hx hy h=>kd.eqBool hu hx.1 hy.1 h
 quiet:=λhk h=>kd.quiet hk.1 h
 yP:=λhk h=>kd.yP hk.1 h
 Dt:=λhk h=>kd.Dt hk.1 h
def tE.wi {K:Type}(sk:tE P w K)(G:K->Addr->Prop):tE P w K where
 is:=λh k a=>sk.is h k a/\G k a
 lt:=sk.lt
 ord:=sk.ord
 room:=sk.room
 keeps:=λx k=>⟨sk.keeps x.1 k,x.2⟩
 ask:=λhu hx hy q=>sk.ask hu hx.1 hy.1 q
 ty:=sk.ty
 Ui:=sk.Ui
 first:=λx=>sk.first x.1
theorem mw {α β:Type}{R:α->β->Prop}:∀{l:List α}{m:List β},Paired R l m->∀p∈l.zip m,R p.1 p.2
 | _,_,.nil,p,hp=>by cases hp
 | _,_,.cons a b,p,hp=>by
  rw [oJ] at hp;rcases aX.mp hp with e | e
  .rw [e];exact a
  exact mw b p e
theorem ip {α β:Type}{R:α->β->Prop}:∀{l:List α}{m:List β},l.length=m.length->(∀p∈l.zip m,R p.1 p.2)->Paired R l m
 | [],[],_,_=>.nil
 | [],_::_,e,_=>by cases e
 | _::_,[],e,_=>by cases e
 | x::l,y::m,e,h=>by
  rw [oJ] at h;exact .cons (h (x,y) bP) (ip (by simpa using e) λp hp=>h p (b9 _ hp))
def yu {K:Type}{sk:tE P w K}{m:z0c}{ts:z0p}{zs:List K}(R:sk.room A.in1.in1)(mN:s.heap.Ns L m)(hl:s.heap.IsList l (218).toArray)(rel:Paired (λt z=>sk.is s.heap z t) ts zs)(Jq:ts.length < 64)
  (q:∀(h':Heap) (c:Nat)(fE:z0p)(cf:List K),(∀b o,b≠L->160->h'.get? b=85)->h'.Ns L m->h'.get? 255=some (seqObj "list" (fE.map Value.ref).toArray c)->Paired (λt z=>sk.is s.heap z t) fE cf->cf.Perm zs->uk sk.lt cf->Q (.ref 255) 221) :
  wpAny 163 A (call (.builtin "sorted") [.ref l]) Q E s:=by
 refine z7 kind_sorted plain_sorted entry_sorted (args_sorted1 _) ?_;unfold Builtin.«sorted»;refine ao (m:=checkCount "sorted" 1 1 _) (ax ?_);refine ao (collect_list hl ?_ (by rw [fO,aA];omega));refine ao (wpAny_newList ?_ (by rw [fO,aA];omega));have hsz:((s.heap.push (seqObj "list" #[] 0)).update s.heap.objs.size (Obj.mapSeq (·++(218).toArray))).objs.size=203:=by
  rw [Heap.size_update,size_push']
 have HV:(((s.heap.push (seqObj "list" #[] 0)).update s.heap.objs.size (Obj.mapSeq (·++(218).toArray))).push 443).get? 255=some 443:=by
  rw [<-hsz];exact bB _ rfl
 have keep:∀b o,160->(((s.heap.push (seqObj "list" #[] 0)).update s.heap.objs.size (Obj.mapSeq (·++(218).toArray))).push 443).get? b=85:=λb o q=>by
  have gR:b < s.heap.objs.size:=aP q;rw [Heap.get?_push_ne _ _ _ (by rw [hsz];exact aR (mV gR)),Heap.get?_update_ne _ _ _ _ (aR gR),Heap.get?_push_ne _ _ _ (aR gR)];exact q
 show wpAny _ _ _ _ _ { s with heap:=((s.heap.push (seqObj "list" #[] 0)).update s.heap.objs.size (Obj.mapSeq (·++(218).toArray))).push 443 };rw [hsz];generalize ((s.heap.push (seqObj "list" #[] 0)).update s.heap.objs.size (Obj.mapSeq (·++(218).toArray))).push 443=h1 at *;have EC:h1.Ns L m:=by
  obtain⟨o,es,ep,g1,g2⟩:=mN;exact⟨o,es,ep,keep _ _ g1,g2⟩
 refine ao (fJ (eP slot_list_sort ⟨_,HV,rfl⟩ entry_list_sort (oV (s:={ s with heap:=h1 }) R EC HV (aD (λt z i=>sk.keeps i λb o xs n _ _ g=>keep b o g) rel) Jq λh2 c fE cf k2 Kh g2 sub len pm tN=>⟨_,rfl,?_⟩) (args_list_sort _)));refine ax ⟨_,rfl,q h2 c fE cf (λb o nb hb=>k2 b o nb (aR (mV (aP hb))) (keep b o hb)) Kh g2 (ip len λp hp=>mw rel p (sub p.1 p.2 hp)) pm tN⟩
end
abbrev dR (K:aU)(H:Hp)(t:Addr)(d:DK):Prop:=aQ K H t ((Ju d).map kV)
abbrev cJ (K:aU)(H:Hp)(t:Addr)(k:D3):Prop:=∃b,aQ K H t [.int k.1,.str k.2.1,.ref b]/\dR K H b k.2.2
section
variable {X:Cx}{ah:z0e}{σ:L2.St}{H:Hp}{s:Shared}
def dR.is (I:141){t:Addr}{d:DK}(h:dR X.K H t d):tH s.heap d t:=by
 obtain⟨aK,rv,⟨o,h1,h2,n,h3⟩,hz⟩:=I.tuple h;refine⟨o,aK,n,h1,h2,h3,?_⟩;obtain⟨z,p⟩:=d;cases p with
 | none =>
  obtain⟨u,e,r⟩:=vals1 rv;obtain⟨t,rfl⟩:=r;exact⟨t,e⟩
 | some i =>
  obtain⟨u1,u2,e,r1,r2⟩:=vals2 rv;obtain⟨t,rfl⟩:=r1;obtain⟨u,rfl⟩:=r2;exact⟨t,u,e⟩
def Vs {a b c:V}(h:bh [a,b,c] aK):∃u1 u2 u3,aK=[u1,u2,u3]/\RelV a u1/\RelV b u2/\RelV c u3:=by
 cases h with
 | cons r1 h =>
  cases h with
  | cons r2 h =>
   cases h with
   | cons r3 h=>cases h;exact⟨_,_,_,rfl,r1,r2,r3⟩
theorem cJ.is (I:141){t:Addr}{k:D3}(h:cJ X.K H t k):Je s.heap k t:=by
 obtain⟨b,h1,h2⟩:=h;obtain⟨aK,rv,⟨o,g1,g2,n,g3⟩,hz⟩:=I.tuple h1;obtain⟨u1,u2,u3,e,r1,r2,r3⟩:=Vs rv;obtain⟨t,rfl⟩:=r1;obtain⟨u,rfl⟩:=r2;cases (show u3=Value.ref b from r3);subst e;exact⟨o,t,u,b,n,g1,g2,g3,h2.is I⟩
end
def xK {K:Type} [DecidableEq K] (d:K)(zs:List K):List K:=eX (λi=>zs.getD i d) zs.length
theorem kr {K:Type} [DecidableEq K] (val:Nat->K)(z:K):∀n,z∈eX val n↔∃i,i < n/\val i=z
 | 0=>by simp [eX]
 | n+1=>by
  have ih:=kr val z n;show z∈(if val n∈eX val n then eX val n else eX val n++[val n])↔_;have key:z∈(if val n∈eX val n then eX val n else eX val n++[val n])↔z∈eX val n\/z=val n:=by
   split
   .rename_i h
    exact⟨λa=>.inl a,λa=>a.elim id λe=>e ▸ h⟩
   rw [cD,bA]
  rw [key,ih];constructor
  .rintro(⟨i,a,b⟩ | e)
   .exact⟨i,∅,b⟩
   exact⟨n,∅,e.symm⟩
  rintro⟨i,a,b⟩;by_cases c:i=n
  .subst c;exact .inr b.symm
  exact .inl ⟨i,∅,b⟩
theorem w_ {K:Type} [DecidableEq K] (val:Nat->K):∀n,(eX val n).Nodup
 | 0=>.nil
 | n+1=>by
  have ih:=w_ val n;show (if val n∈eX val n then eX val n else eX val n++[val n]).Nodup
  split
  .exact ih
  rename_i h
  rw [fM];refine⟨ih,by simp,λa ha b hb=>?_⟩;rw [bA] at hb;subst hb;rintro rfl;exact h ha
def zo {K:Type} [DecidableEq K] (d:K)(zs:List K)(z:K):z∈xK d zs↔z∈zs:=by
 unfold xK;rw [kr];constructor
 .rintro⟨i,h,rfl⟩;simp [List.getD,h]
 intro h;obtain⟨i,hi,e⟩:=jF.mp h;exact⟨i,hi,by simp [List.getD,hi,e]⟩
def Dk {K:Type} [DecidableEq K] (d:K)(zs:List K):(xK d zs).Nodup:=w_ _ _
def sN {K:Type} [DecidableEq K] (d:K)(zs:List K):(xK d zs).length<=zs.length:=i6 _ _
abbrev Jv:D3:=(0,"","",none)
def wR {ts:z0p}{i:Nat}{v:Value}(h:(218)[i]?=some v):∃t,ts[i]?=some t/\v=.ref t:=by
 rw [aS] at h;cases e:ts[i]? with
 | none=>rw [e] at h;cases h
 | some t=>rw [e] at h;cases h;exact⟨t,rfl,rfl⟩
inductive Tv (K:aU)(H1:Hp)(Q:V->143):V->Prop where
 | mk (a:Addr)(ts:z0p)(zs:List D3)(h1:aJ K H1 a (155))(h2:Paired (cJ K H1) ts zs)(h3:zs.length < 64)(q:∀l fE cf,H1 l=none->Paired (cJ K H1) fE cf->cf.Perm (xK Jv zs)->uk yU cf->Q (.ref l) (upd H1 l (.lst (fE.map V.ref)))):Tv K H1 Q (.ref a)
def iO {X:Cx}{e:Expr}(hc:X.calm=true)(hu:X.A.units+20 < cLine)(hg:Gl X "sorted")(hm:X.mg "sorted"=none)(LZ:Gl X "set")(Xx:X.mg "set"=none)(he:PE X e te)
  (h1:starEach [.Call (.Name "set" p2) [e] [] q2] X.env=(false,eval (.Call (.Name "set" p2) [e] [] q2) X.env)::starEach [] X.env:=by rfl)(h2:starEach [e] X.env=(false,eval e X.env)::starEach [] X.env:=by rfl) :
  PE X (.Call (.Name "sorted" p1) [.Call (.Name "set" p2) [e] [] q2] [] q1) (λσ H Q=>te σ H λx H1=>Tv X.K H1 Q x):=by
 intro ah s σ H Q I h;have hh:=I.ok.hd hc;refine mW (ir I hg hm boot_sorted ?_);refine PyProof.Rows.callWith_builtin1 ?_ h1 rfl;rw [h1];show wpAny _ _ (spliced ((false,eval (.Call (.Name "set" p2) [e] [] q2) X.env)::backTo q1 (starEach [] X.env))) _ _ s;refine jQ ?_;refine mW (ir I LZ Xx E9 ?_);refine qY ?_ h2 rfl;rw [h2];show wpAny _ _ (spliced ((false,eval e X.env)::backTo q2 (starEach [] X.env))) _ _ s;refine jQ (cM (he ah s σ H _ I h) λu s1 aW=>?_);obtain⟨x,H1,I1,r1,q1⟩:=aW;obtain⟨a,ts,zs,hq,rel,Jq,q1⟩:=q1;cases (show u=Value.ref a from r1);refine jZ ?_;obtain⟨aK,rv,pl,hz⟩:=I1.list hq;have ei:=kZ rv;subst ei;have lp:=a9 rel
 let G:D3->Addr->Prop:=λk t=>cJ X.K H1 t k
 refine xO (kd:=(IH X.prog X.w).wi G) (val:=λi=>zs.getD i Jv) hh (λB hB=>show B.units+4 < cLine by omega) pl.isList (λi v hv=>?_) (by simp;omega) λh' tk T kp=>?_
 .have hv2:(218)[i]?=some v:=by rw [List.getElem?_toArray] at hv;exact hv
  obtain⟨t,e1,rfl⟩:=wR hv2;have hi:i < ts.length:=(bw.mp e1).1;have e2:zs[i]?=some (zs.getD i Jv):=by rw [List.getD,dA ∅];rfl
  obtain⟨t',e3,e4⟩:=Paired.at_ rel i _ e2;rw [e1] at e3;cases e3;exact⟨t,rfl,cJ.is I1 e4,e4⟩
 refine jZ ?_;have eds:eX (λi=>zs.getD i Jv) (218).toArray.size=xK Jv zs:=by unfold xK;simp [lp]
 rw [eds] at T;have ldd:=sN Jv zs;obtain⟨m,mN,_⟩:=id I1.loc;have Xs:h'.Ns X.env.locals m:=by
  obtain⟨o,es,ep,g1,g2⟩:=mN;exact⟨o,es,ep,kp _ _ (aP g1) g1,g2⟩
 have LN:x8 s1.heap h':=λb o g=>kp b o (aP g) g;refine As (kd:=(IH X.prog X.w).wi G) (sk:=(sO X.prog X.w).wi G) (s:={ s1 with heap:=h',toks:=tk }) rfl hh (show X.A.in1.in1.units+2 < cLine by simp;omega) Xs LN T ∅ λh2 d tk2 l ee fE cf Fo Kh le2 N9 Gn pm tN DN=>?_;have WV:∀b u,b≠X.env.locals->s1.heap.get? b=some u->h2.get? b=some u:=λb u nb hb=>Fo b u nb (LN b u hb);have NC:s1.heap.objs.size<=l:=by
  obtain⟨oT,_,_,_,hoT,_⟩:=T;exact dU (iJ (aP hoT)) le2
 have l2:fE.length=cf.length:=a9 Gn;have l3:=pm.length_eq;refine⟨.ref l,_,(I1.C8 (a:=l) (o:=.lst (fE.map V.ref)) (t':=tk2) WV (λm' hm=>?_) (xB NC) (I1.bI.fresh NC) (show bO X.prog X.w _ _ _ (.lst (fE.map V.ref)) from ⟨?_,fE.map Value.ref,ee,kS _,N9⟩)).drawn d,rfl,q1 l fE cf (I1.bI.fresh NC) (aD (λt z i=>i.2) Gn) pm tN⟩
 .have e:m'=m:=by
   obtain⟨o,es,ep,ho,qc,_,hf⟩:=hm;obtain⟨o2,SF,PU,qz,r9,_,H_⟩:=mN;rw [ho] at qz;cases qz;rw [qc] at r9;cases r9
   funext x
   rw [<-hf x,<-H_ x]
  rw [e];exact Kh
 rw [aA];exact fits ∅
end ST
namespace L2
open PySem PySem.Spec PyProof.Rows
section
variable {prog:Program}{w:World}{A:Around}{E:z0b}{s:Shared}
def yW {v d:Addr}{o:Obj}{es:Array DictEntry}(hv:s.heap.IsItemsView v d)(ho:s.heap.get? d=85)(Ib:o.data=.dict es ep)
  (hQ:Q 398 { s with heap:=s.heap.push { cls:=.type "dict_itemiterator",data:=.fields #[.none,.bool false,.ref d,.int 0 0,.int es.size 0,.int ep 0,.none,.none] } }) :
  wpAny 182 A (pyIter (.ref v)) Q E s:=by
 obtain⟨ov,hov,hcv,hdv⟩:=id hv;refine wpAny_pyIter_slot hv.typeIs F.slot_dict_items_iter (eP F.slot_dict_items_iter hv.typeIs F.entry_dict_items_iter ?_ (F.args_dict_items_iter_1 _));unfold Builtin.«dict_items.__iter__»;refine ao (ax ?_);refine ao ?_;unfold Builtin.Dict_items.dictOf;refine ao (fP hov hdv (x:=.ref d) rfl (ax ?_));refine ao ?_;unfold Builtin.Dict_items.newIterator;refine ao (mq ho Ib ?_);refine ao (oz ho Ib ?_);have xw:Builtin.Dict_items.ownsTuple "dict_itemiterator"=true:=by decide
 simp only [xw,if_true];refine gh (ax ⟨_,rfl,"dict_itemiterator",_,⟨_,bB _ rfl,rfl⟩,qZ.lookup,?_⟩)
  (by simp only [sizeOk,Builtin.Dict_items.ownedTupleFields,cu,bH,dW,jD,fO];omega)
 simpa [rawInt,Builtin.Dict_items.ownedTupleFields] using hQ
def yQ {it d:Addr}{i ep:Nat}{od:Obj}{es:Array DictEntry}{e:DictEntry}{ok ov:Value}{Q:z0j->151}(hit:IsItemIter s.heap it d i es.size ep ok ov)
  (HU:s.heap.get? d=some od)(EF:od.data=.dict es ep)(hx:es[i]?=some e)
  (hQ:∀h',IsItemIterOut h' it d (i+1) es.size ep e.key e.val s.heap.objs.size ->
   h'.get? s.heap.objs.size=some { cls:=183,data:=.seq #[e.key,e.val] }->h'.objs.size=203 ->
   (∀b o,b≠it->160->h'.get? b=85)->Q (some 398) 221) :
  wpAny 182 A (pyNext (.ref it)) Q E s:=by
 obtain⟨hp,g,dr,tk,os⟩:=s;have hT:Shared.TypeIs ⟨hp,g,dr,tk,os⟩ (.ref it) "dict_itemiterator" := ⟨_,hit,rfl⟩;unfold pyNext;refine ao (iM (lP (name:=Str.ofString "__next__") hT qZ
  (eP qZ hT F.entry_dict_itemiterator_next ?_ (F.args_dict_itemiterator_next_1 _))))
 refine ao (ax ?_);refine ao ?_;refine ao ?_
 first | refine ao (v3 hT (ax ?_)) | refine ao (vV hT (ax ?_))
 refine ao (ou hit rfl ?_);have xw:Builtin.Dict_items.ownsTuple "dict_itemiterator"=true:=by decide
 simp only [xw,if_true];show wpAny _ _ (if (Value.ref d == Value.none)=true then _ else _) _ _ _;rw [ar (show ¬((Value.ref d == Value.none)=true) from bG)];refine ao (ax ?_);refine ao (mq HU EF ?_);rw [ar 88];refine ao (ax ?_);refine ao (oz HU EF ?_);rw [ar 88];refine ax ?_;have N3:i < es.size:=(qG.mp hx).1;have N8:es[i]=e:=(qG.mp hx).2;simp only [show ¬((i:Int) < 0) from by omega,if_false,eQ,pK N3];refine ao ?_
 first | refine ao (v3 hT (ax ?_)) | refine ao (vV hT (ax ?_))
 refine ao (wpAny_isOneOf_itemiter hT ?_);show wpAny _ _ (setField (.ref it) 3 (rawInt ((i:Int)+1)) >>= _) _ _ ⟨hp,g,dr,tk,os⟩;refine ao (lL hit 88 λh₁ KN HQ=>?_);replace HQ:Heap.SameBut it hp h₁:=HQ;replace KN:IsItemIter h₁ it d (i+1) es.size ep ok ov:=by
  have e:((i+1:Nat):Int)=(i:Int)+1:=by omega
  unfold IsItemIter;rw [e];simpa [rawInt] using KN
 have XX:Shared.TypeIs ⟨h₁,g,dr,tk,os⟩ (.ref it) "dict_itemiterator" := ⟨_,KN,rfl⟩;refine ao (fJ ?_);refine ao (wpAny_isOneOf_itemiter XX ?_);refine ao (wpAny_isOneOf_itemiter XX ?_);show wpAny _ _ (Builtin.Dict_items.pairFromOwner (.ref it) 6 es[i].key es[i].val) _ _ ⟨h₁,g,dr,tk,os⟩;unfold Builtin.Dict_items.pairFromOwner;refine ao (wpAny_newTuple ?_);have N7:IsItemIter (h₁.push { cls:=183,data:=.seq #[es[i].key,es[i].val] }) it d (i+1) es.size ep ok ov:=a0 _ KN;generalize UK:h₁.push { cls:=183,data:=.seq #[es[i].key,es[i].val] }=h₂ at N7;have Uw:h₁.objs.size=hp.objs.size:=HQ.1;have UJ:it < hp.objs.size:=aP hit;have ht₂:h₂.get? hp.objs.size=some { cls:=183,data:=.seq #[es[i].key,es[i].val] }:=by rw [<-UK,<-Uw];exact bB _ rfl
 have hz₂:h₂.objs.size=hp.objs.size+1:=by rw [<-UK,iW,Uw]
 have hk₂:∀b o,b≠it->hp.get? b=85->h₂.get? b=85:=λb o hb e=>by rw [<-UK];exact a0 _ (HQ.extBut b o hb e)
 show wpAny _ _ (Builtin.Dict_items.ownedTupleIsFree (.ref it) >>= _) _ _ ⟨h₂,g,dr,tk,os⟩;rw [Uw];clear UK KN HQ XX Uw h₁;refine ao ?_;unfold Builtin.Dict_items.ownedTupleIsFree;refine ao (fP N7 rfl (x:=.none) rfl (ax ?_));simp only [if_true];refine ao (fP N7 rfl (x:=ok) rfl ?_);refine ao (fP N7 rfl (x:=ov) rfl ?_);refine ao (lL N7 88 λh₃ Sa NW=>?_);replace NW:Heap.SameBut it h₂ h₃:=NW;replace Sa:IsItemIter h₃ it d (i+1) es.size ep es[i].key ov:=Sa;refine ao (lL Sa 88 λh₄ L_ RN=>?_);replace RN:Heap.SameBut it h₃ h₄:=RN;replace L_:IsItemIter h₄ it d (i+1) es.size ep es[i].key es[i].val:=L_;refine ao (lL L_ 88 λh₅ R_ NV=>?_);replace NV:Heap.SameBut it h₄ h₅:=NV;replace R_:IsItemIterOut h₅ it d (i+1) es.size ep es[i].key es[i].val hp.objs.size:=R_;refine ao (lL R_ 88 λh₆ R9 NU=>?_);replace NU:Heap.SameBut it h₅ h₆:=NU;replace R9:IsItemIterOut h₆ it d (i+1) es.size ep es[i].key es[i].val hp.objs.size:=R9;refine ao (wpAny_letGo (ax (ax ⟨_,rfl,ax (hQ h₆ (N8 ▸ R9) ?_ ?_ ?_)⟩)))
 .rw [<-N8];exact NU.extBut _ _ (gP UJ) (NV.extBut _ _ (gP UJ) (RN.extBut _ _ (gP UJ) (NW.extBut _ _ (gP UJ) ht₂)))
 .show h₆.objs.size=hp.objs.size+1;rw [NU.1,NV.1,RN.1,NW.1,hz₂]
 exact λb o hb e=>NU.extBut b o hb (NV.extBut b o hb (RN.extBut b o hb (NW.extBut b o hb (hk₂ b o hb e))))
def BP {it d:Addr}{i ep:Nat}{od:Obj}{es:Array DictEntry}{ok ov:Value}{Q:z0j->151}(hh:A.handled=none)(hit:IsItemIter s.heap it d i es.size ep ok ov)
  (HU:s.heap.get? d=some od)(EF:od.data=.dict es ep)(hx:es.size<=i)
  (hQ:∀h',Heap.ExtBut it s.heap h'->Q none 221):wpAny 182 A (pyNext (.ref it)) Q E s:=by
 have hT:s.TypeIs (.ref it) "dict_itemiterator" := ⟨_,hit,rfl⟩;unfold pyNext;refine ao (iM (lP (name:=Str.ofString "__next__") hT qZ
  (eP qZ hT F.entry_dict_itemiterator_next ?_ (F.args_dict_itemiterator_next_1 _))))
 refine ao (ax ?_);refine ao ?_;refine ao ?_
 first | refine ao (v3 hT (ax ?_)) | refine ao (vV hT (ax ?_))
 refine ao (ou hit rfl ?_);have xw:Builtin.Dict_items.ownsTuple "dict_itemiterator"=true:=by decide
 simp only [xw,if_true];show wpAny _ _ (if (Value.ref d == Value.none)=true then _ else _) _ _ s;rw [ar (show ¬((Value.ref d == Value.none)=true) from bG)];refine ao (ax ?_);refine ao (mq HU EF ?_);rw [ar 88];refine ao (ax ?_);refine ao (oz HU EF ?_);rw [ar 88];refine ax ?_;have Dd:es.size<=i:=hx;simp only [show ¬((i:Int) < 0) from by omega,if_false,eQ,oQ Dd];refine ao ?_
 first | refine ao (v3 hT (ax ?_)) | refine ao (vV hT (ax ?_))
 show wpAny _ _ (setField (.ref it) 2 .none >>= _) _ _ s;refine ao (jW hit rfl 88 ?_);show wpAny _ _ (newExc (.type "StopIteration") [] >>= _) _ _ _;refine ao ?_;simp only [newExc,newTuple];refine ao (gh ?_ (by size_fits));refine ao (m:=firstArgMember _ _) (wpAny_of_eq (a:=Value.none) (by first | rfl | (simp only [firstArgMember];rfl)) ?_)
 refine gh ?_ (by size_fits);simp only [raiseNew];refine ao (wpAny_handled ?_);rw [show A.in1.handled=none from hh];refine ao (ax (wpAny_throw ?_));refine ao (jN (T := "StopIteration") (b:=true) ⟨_,bB _ rfl,rfl⟩ isSubtype_stop ?_);exact ax (hQ _ (((iY ..).extBut.push _).push _))
def yy {K:Type} [DecidableEq K] {knd:HeapKind prog w K}{d a:Addr}{xs:List (K×Addr×Value)}{k:K}{v:Value}(hu:knd.room A)(Bx:knd.is s.heap k a)(hm:s.heap.DictOfH knd d xs)(hsz:xs.length<=sizeLine)
  (q1:∀p,atKey xs k=some p->Q p.2 { s with toks:=s.toks+knd.draws k })(q2:atKey xs k=none->∀h',h'.DictOfH knd d (storedH xs k a v)->Heap.SameBut d s.heap h'->Q v { s with heap:=h',toks:=s.toks+knd.draws k }) :
  wpAny 182 A (dictSetDefault d (.ref a) v) Q E s:=by
 obtain⟨o,es,ep,ho,hc,hd,he,R8,hn⟩:=hm;unfold dictSetDefault
 try with_reducible refine fJ ?_
 refine ao (knd.pyHash hu Bx ?_);refine ao (wpAny_dictFind_heap (s:={ s with toks:=s.toks+knd.draws k }) hu Bx ho hd he R8 hn ?_ ?_)
 .intro RX;have Xu:k∉xs.map 84:=not_mem_keys_of_get RX;refine ao (gN (ao (wpAny_updateDictKeys (hz:=by have e:=size_of_entries he;omega) (s:={ s with toks:=s.toks+knd.draws k }) ho hd (ax (q2 (atKey_none_of_get RX) _ ⟨_,_,ep+1,mY _ ho (Obj.isFreed_of_dict (Obj.data_mapDictKeys hd _)),
   hc.mapDictKeys _,Obj.data_mapDictKeys hd _,?_,?_,?_⟩ (iY ..))))))
  .rw [storedH_new (atKey_none_of_get RX)];simp [he,entryOfKey]
  .rw [storedH_new (atKey_none_of_get RX)];intro x hx;rcases cD.mp hx with hx | hx
   .exact knd.keeps (R8 x hx) ho hd (iY ..)
   simp only [bA] at hx;subst hx;exact knd.keeps Bx ho hd (iY ..)
  rw [storedH_new (atKey_none_of_get RX)];rw [bC,fM];refine⟨hn,by simp,?_⟩;intro x hx y hy;simp only [bY,jj,bA] at hy;subst hy;exact λe=>Xu (e ▸ hx)
 intro j p hj;dsimp only;refine ao (mq ho hd ?_);rw [entry_at he j,hj];dsimp only [Option.map];exact ao (gN (ax (q1 p (atKey_of_get hn hj))))
def pE {K:Type} [DecidableEq K] {knd:HeapKind prog w K}{d a:Addr}{xs:List (K×Addr×Value)}{k:K}{v:Value}(hd:(d == sysModules)=false)(hu:knd.room A.in1)(Bx:knd.is s.heap k a)(hm:s.heap.DictOfH knd d xs)(hsz:xs.length<=sizeLine)
  (q1:∀p,atKey xs k=some p->Q p.2 { s with toks:=s.toks+knd.draws k })(q2:atKey xs k=none->∀h',h'.DictOfH knd d (storedH xs k a v)->Heap.SameBut d s.heap h'->Q v { s with heap:=h',toks:=s.toks+knd.draws k }) :
  wpAny 182 A (call (.builtin "dict.setdefault") [.ref d,.ref a,v]) Q E s:=by
 refine eP vZ hm.typeIs PySem.F.entry_dict_setdefault ?_ (PySem.F.args_dict_setdefault_3 _ _ _);unfold Builtin.«dict.setdefault»;refine ao ?_;unfold Builtin.Dict.keyAndDefault;refine ao (oN hm.typeIs ?_);show wpAny _ _ (pure (d,Value.ref a,some v)) _ _ s;refine ax ?_;show wpAny _ _ (if (d == sysModules)=true then _ else (dictSetDefault d (.ref a) v >>= _)) _ _ s;rw [ar (by rw [hd];exact bG)];exact ao (yy hu Bx hm hsz (λp hp=>ax ⟨_,rfl,q1 p hp⟩) λhn h' hm' HR=>ax ⟨_,rfl,q2 hn h' hm' HR⟩)
end
section
variable {X:Cx}{ah:z0e}{σ:L2.St}{H:Hp}{s:Shared}{a b:Addr}{kvs:List (List aL×V)}{k:List aL}{A:Around}{E:z0b}
def K3 {r:Value}(hu:A.units+1 < cLine)(I:141)(e:H a=some (.dT kvs))(hl:kvs.length < sizeLine)(eb:H b=some (.tup (k.map kV)))(rz:RelV z r)
  (h1:∀v w' s',aT kvs k=some v->Inv X ah σ H s'->RelV v w'->Q w' s')(h2:aT kvs k=none->∀s',Inv X ah σ (upd H a (.dT (bx kvs k z))) s'->Q r s') :
  wpAny 154 A (call (.builtin "dict.setdefault") [.ref a,.ref b,r]) Q E s:=by
 obtain⟨zl,hd,xs,rel,dd⟩:=Mj I.bI e;have hz:xs.length<=sizeLine:=by rw [<-a9 rel];exact zl
 refine pE hd (j5 hu) (jA I.bI eb) dd hz (λp hp=>?_) λhn h' BV hs=>?_
 .have rv:=rel.val k;rw [hp] at rv;cases e2:aT kvs k with
  | none=>rw [e2] at rv;cases rv
  | some x=>rw [e2] at rv;exact h1 x p.2 _ e2 (I.tok _) rv
 have LX:aT kvs k=none:=by
  have rv:=rel.val k;rw [hn] at rv;cases e2:aT kvs k with
  | none=>rfl
  | some x=>rw [e2] at rv;cases rv
 have rY:(bx kvs k z).length<=sizeLine:=by have:=di kvs k z;omega
 obtain⟨q,es,ep,hq,KR,h3,h4,_,h5⟩:=BV;refine h2 LX _ (og I (by rw [e];exact True.intro) hs ⟨q,hq⟩ ⟨rY,hd,_,(rel.put k eb rz).keeps λc ys ec=>?_,q,es,ep,hq,KR,h3,h4,h5⟩);rw [ai (Ho ec e (λz=>nomatch z))];exact ec
end
section
variable {X:Cx}{o e f:Expr}{apos eD:Pos}{td ty tx:TE}
inductive Tr (H3:Hp)(a:Addr)(Q:V->143)(z:V):V->Prop where
 | mk (kvs:List (List aL×V))(k:List aL)(b:Addr)(h1:H3 a=some (.dT kvs))(h2:H3 b=some (.tup (k.map kV)))(h3:kvs.length < sizeLine)(q1:∀v,aT kvs k=some v->Q v H3)(q2:aT kvs k=none->Q z (upd H3 a (.dT (bx kvs k z)))):Tr H3 a Q z (.ref b)
def DZ (hu:X.A.units+1 < cLine)(ho:PE X o td)(he:PE X e ty)(hf:PE X f tx)(m:M2 X o "setdefault" apos e f eD):PE X (.Call (.Attribute o "setdefault" apos) [e,f] [] eD) (λσ H Q=>td σ H λx H1=>∃a,x=.ref a/\Qa H1 a/\ty σ H1 λy H2=>tx σ H2 λz H3=>Tr H3 a Q z y):=by
 intro ah s σ H Q I h;refine oE m.base m.Iu m.line qV vZ PySem.F.type_dict_setdefault (cM (ho ah s σ H _ I h) λu s1 aW=>?_);obtain⟨x,H1,I1,rx,a,ex,d,q1⟩:=aW;subst ex;obtain rfl:u=Value.ref a:=rx;obtain⟨t1,t2,_⟩:=rX I1 d;refine⟨t1,t2,?_⟩;rw [m.trees];refine qE rfl (oK (jQ (cM (he ah s1 σ H1 _ I1 q1) λiv s2 ⟨y,H2,I2,ry,q2⟩ =>
  jQ (cM (hf ah s2 σ H2 _ I2 q2) λfv s3 ⟨z,H3,I3,rz,q3⟩=>jZ ?_))))
 obtain⟨kvs,k,b,ea,eb,hl,q3,q4⟩:=q3;cases (show iv=Value.ref b from ry);exact K3 hu I3 ea hl eb rz (λv w' s4 l I4 wM=>⟨v,_,I4,wM,q3 v l⟩) λl s4 I4=>⟨z,_,I4,rz,q4 l⟩
end
def TH (d:Addr)(o:Obj)(kvs:List (List aL×V)):It :=
 ⟨λi H=>H d=some (.g9 o (.dT kvs))/\i < kvs.length,λi H x H'=>∃t b kv,x=.ref t/\H t=none/\kvs[i]?=some kv/\H b=some (.tup (kv.1.map kV))/\H'=upd H t (.tup [.ref b,kv.2]),λi H=>H d=some (.g9 o (.dT kvs))/\kvs.length<=i⟩
def Dg {X:Cx}{σ:L2.St}{s:Shared}{d:Addr}{o:Obj}{kvs:List (List aL×V)}(I:141)(e:H d=some (.g9 o (.dT kvs))) :
  (d == sysModules)=false/\∃xs es,KT H kvs xs/\s.heap.get? d=85/\o.data=.dict es (zf o)/\es.toList=xs.map (entryOfKey (tupleKind (aI X.prog X.w))):=by
 obtain⟨ho,hz,hs,xs,r,o',es,ep,h1,h2,h3,h4,h5⟩:=(show bO X.prog X.w H s.heap d (.g9 o (.dT kvs)) from I.bI d _ e);rw [ho] at h1;cases h1;refine⟨hs,xs,es,r,ho,?_,h4⟩;unfold zf;rw [h3]
def Al {K:aU}{k:Nat}(d it:Addr)(o:Obj)(kvs:List (List aL×V)):Turn P w K (.Tuple elts k An) (TH d o kvs) [it] it (λi h=>∃ok ov,IsItemIter h it d i kvs.length (zf o) ok ov) where
 mem:=by simp
 obj:=λi h st b hb=>by
  have e:b=it:=by simpa using hb
  subst e;obtain⟨ok,ov,e⟩:=st;exact⟨_,e,λv z=>by cases z⟩
 keep:=λi h h' st k=>let ⟨ok,ov,e⟩:=st;⟨ok,ov,k it 88 _ e⟩
 item:=by
  intro X hP hw hK hc i ah s σ H E I hf st hg;subst hP hw hK;obtain⟨hq,hi⟩:=hg;obtain⟨hs,xs,es,r,ho,hd,he⟩:=Dg I hq;have l:kvs.length=xs.length:=a9 r;have sz:=size_of_entries he;obtain⟨kv,IB⟩:∃kv,kvs[i]?=some kv:=⟨kvs[i],dA hi⟩;have ex0:xs[i]?=some (xs[i]'∅):=dA ∅;obtain⟨Ut,e1,e2,e3,e4⟩:=Paired.at_ r i _ ex0;rw [IB] at e1;cases e1;have ee:=entry_at he i;rw [ex0] at ee;obtain⟨ok,ov,st⟩:=st;rw [show kvs.length=es.size by omega] at st;obtain⟨f0,f1,f2,f3,f4,f5⟩:=hf it 88;refine yQ st ho hd ee λh' so ht hz kk=>⟨_,rfl,?_⟩;refine wpAny_letOwnedTupleGo_items (s:=221) so λh3 MV sb=>?_;have ltz:∀b o,160->b≠s.heap.objs.size:=λb o q=>aR (aP q);have Q6:s.heap.objs.size≠it:=(ltz it _ st).symm;have k3:∀b o,b∉[it]->160->h3.get? b=85:=λb o nb q=>by
   simp only [aX,jY,or_false] at nb;exact(sb.2 b nb).trans (kk b o nb q)
  have T2:IsPair h3 s.heap.objs.size (.ref (xs[i]'∅).2.1) (xs[i]'∅).2.2:=(sb.2 _ Q6).trans ht;have I2:Inv X ah σ (upd H s.heap.objs.size (.tup [.ref (xs[i]'∅).2.1,kv.2])) { s with heap:=h3,toks:=s.toks }:=Inv.JA I hf k3 T2 rfl e4;refine⟨186,_,I2,rfl,⟨_,_,kv,rfl,I.bI.fresh (aH _),IB,e3,rfl⟩,⟨_,_,by rw [show kvs.length=es.size by omega];exact MV⟩,λb hb=>?_⟩;have e:b=it:=by simpa using hb
  subst e;rw [ai (cV Q6)];exact f0
 done:=by
  intro X hP hw hK hc i ah s σ H E I hf st hg;subst hP hw hK;obtain⟨hq,hi⟩:=hg;obtain⟨hs,xs,es,r,ho,hd,he⟩:=Dg I hq;have l:kvs.length=xs.length:=a9 r;have sz:=size_of_entries he;obtain⟨ok,ov,st⟩:=st;rw [show kvs.length=es.size by omega] at st;obtain⟨f0,f1,f2,f3,f4,f5⟩:=hf it 88;exact BP (I.ok.hd hc) st ho hd ∅ 465
 self:=λ_ _ _ _ _ st h=>by
  obtain⟨ok,ov,e⟩:=st;exact PySem.W.kcp_self e h
structure M0i (X:Cx)(o:Expr)(apos eD:Pos):Prop where
 base:attributeBase o "items" X.env (eval o X.env)=eval o X.env
 line:(apos.endLine == eD.line)=true
def NQ (tl:TE):TI:=λσ H R=>tl σ H λx H1=>∃d kvs,x=.ref d/\H1 d=some (.dT kvs)/\∀o,R (TH d o kvs) (upd H1 d (.g9 o (.dT kvs)))
def Gx {k:Nat}{l:Expr}{tl:TE}(hl:PE X l tl)(m:M0i X l apos eD):PI X (.Tuple elts k An) (.Call (.Attribute l "items" apos) [] [] eD) (NQ tl):=by
 intro ah s σ H R I h;refine oE (T := "dict") (id := "dict.items") m.base rfl m.line F.plainAttrs_dict F.slot_dict_items F.type_dict_items (cM (hl ah s σ H _ I h) λv s1 aW=>?_);obtain⟨x,H1,I1,r1,q1⟩:=aW;obtain⟨d,kvs,e,hd,q⟩:=q1;subst e;cases (show v=Value.ref d from r1);obtain⟨hz,hs,xs,r,o,es,ep,h1,h2,h3,h4,h5⟩:=(show bO X.prog X.w H1 s1.heap d (.dT kvs) from I1.bI d _ hd);have tI:s1.TypeIs (.ref d) "dict" := ⟨o,h1,h2.1⟩;refine⟨tI,λb e=>?_,?_⟩
 .cases e;exact⟨o,h1,h2.2.1⟩
 have I2:Inv X ah σ (upd H1 d (.g9 o (.dT kvs))) { s1 with heap:=s1.heap,toks:=s1.toks }:=I1.write (x:=d) (e:=d) (by rw [hd];exact True.intro) (.inl rfl) (λb u _ e=>e) ⟨o,h1⟩ ⟨h1,hz,hs,xs,KT.keeps r λc ys ec=>(by rw [ai (Ho ec hd (λz=>nomatch z))];exact ec),o,es,ep,h1,h2,h3,h4,h5⟩;have e2:upd H1 d (.g9 o (.dT kvs)) d=some (.g9 o (.dT kvs)):=ae;have q2:=q o;generalize upd H1 d (.g9 o (.dT kvs))=H2 at I2 e2 q2;show wpAny _ _ (callWith eD (.builtin "dict.items") [.ref d] [] []) _ _ s1;refine qE rfl (PySem.evalArgs_none ?_);refine eP F.slot_dict_items tI F.entry_dict_items ?_ (F.args_dict_items_1 _);unfold Builtin.«dict.items»;refine ao ?_;unfold Builtin.Dict.noArgs;refine ao (oN tI ?_);show wpAny _ _ (pure d) _ _ s1;refine ax ?_;show wpAny _ _ (Builtin.Dict.showsAll d >>= _) _ _ s1;unfold Builtin.Dict.showsAll;rw [ar (by rw [hs];exact bG)];refine ao (ax ?_);refine ao (gh (ax ⟨_,rfl,?_⟩));have ho:(s1.heap.push { cls:=.type "dict_items",data:=.fields #[.ref d] }).get? d=85:=a0 _ h1;refine yW (s:={ s1 with heap:=s1.heap.push { cls:=.type "dict_items",data:=.fields #[.ref d] } }) ⟨_,bB _ rfl,rfl,rfl⟩ ho h3 ?_;have sz:=size_of_entries h4;have l2:kvs.length=xs.length:=a9 r;have k2:∀b u,s1.heap.get? b=some u->((s1.heap.push { cls:=.type "dict_items",data:=.fields #[.ref d] }).push { cls:=.type "dict_itemiterator",data:=.fields #[.none,.bool false,.ref d,.int 0 0,.int es.size 0,.int ep 0,.none,.none] }).get? b=some u:=λb u e=>a0 _ (a0 _ e);have szp:(s1.heap.push { cls:=.type "dict_items",data:=.fields #[.ref d] }).objs.size=s1.heap.objs.size+1:=iW _ _;refine⟨_,[_],_,_,H2,rfl,I2.kept (t':=s1.toks) k2,Al d _ o kvs,⟨.none,.none,?_⟩,λb hb=>?_,q2⟩
 .have ee:zf o=ep:=by unfold zf;rw [h3]
  rw [ee,show kvs.length=es.size by omega];exact bB _ rfl
 have e:b=(s1.heap.push { cls:=.type "dict_items",data:=.fields #[.ref d] }).objs.size:=by simpa using hb
 subst e;rw [szp];exact I2.ue (gp _) (I2.bI.fresh (gp _))
section
variable {d D:Addr}{o:Obj}{kvs:List (List aL×V)}{ts:z0s}{js:z0i}{g:TG}{tif:TT}{te:TE}{R:143}{σ:L2.St}{H:Hp}
def zy (Pv:Nat->List V->L2.St->143)(h0:Pv 0 [] (eF ts js σ) 237)(hl:∀i ys σ H,i<=kvs.length->Pv i ys σ H->H d=some (.g9 o (.dT kvs)))
  (hs:∀i kv ys σ H t b,kvs[i]?=some kv->Pv i ys σ H->H t=none->H b=some (.tup (kv.1.map kV))->g (.ref t) σ (upd H t (.tup [.ref b,kv.2])) 468)
  (hd:∀ys σ H,Pv kvs.length ys σ H->R H) :
  ∃W:Nat->Nat->List V->L2.St->143,(∃m,W 0 m [] (eF ts js σ) 237) /\
 ∀i m ys σ' H,W i m ys σ' H->((TH d o kvs).stop i H/\R H)\/((TH d o kvs).go i H/\∃m',m' < m/\∀x H',(TH d o kvs).oR i H x H'->g x σ' H' λσ2 H2=>tif σ2 H2 λb H3 =>
  if b=true then te σ2 H3 323 else W (i+1) m' ys σ2 H3):=by
 refine⟨λi m ys σ H=>m=kvs.length - i/\i<=kvs.length/\Pv i ys σ H,⟨kvs.length,by simp,cY _,h0⟩,?_⟩;rintro i m ys σ' H ⟨rfl,hi,p⟩;have q:=hl i ys σ' H hi p;by_cases gR:i < kvs.length
 .refine .inr ⟨⟨q,gR⟩,kvs.length - (i+1),∅,λx H' y=>?_⟩;obtain⟨t,b,kv,rfl,ht,IB,hb,rfl⟩:=y;have z:=hs i kv ys σ' _ t b IB p ht hb;have h1:(i+1<=kvs.length)=True:=eq_true gR;simp only [h1,true_and];exact z
 have e:i=kvs.length:=by omega
 subst e;exact .inl ⟨⟨q,aH _⟩,hd ys σ' H p⟩
end
section
variable {prog:Program}{w:World}{A:Around}{E:z0b}{s:Shared}
def Br {d:Addr}{o:Obj}{es:Array DictEntry}(hd:(d == sysModules)=false)(hT:s.TypeIs (.ref d) "dict")(ho:s.heap.get? d=85)(Ib:o.data=.dict es ep)
  (hQ:Q 398 { s with heap:=s.heap.push { cls:=.type "dict_keyiterator",data:=.fields #[.ref d,.int 0 0,.int es.size 0,.int ep 0] } }) :
  wpAny 182 A (pyIter (.ref d)) Q E s:=by
 refine wpAny_pyIter_slot hT F.slot_dict_iter (eP F.slot_dict_iter hT F.entry_dict_iter ?_ (F.args_dict_iter_1 _));unfold Builtin.«dict.__iter__»;refine ao ?_;unfold Builtin.Dict.dictSlotNone;refine ao (oN hT ?_);show wpAny _ _ (pure (Value.ref d)) _ _ s;refine ax ?_;show wpAny _ _ (Builtin.Dict.showsAll d >>= _) _ _ s;unfold Builtin.Dict.showsAll;rw [ar (by rw [hd];exact bG)];refine ao (ax ?_);refine ao (mq ho Ib ?_);refine ao (oz ho Ib ?_);refine ao (gh (ax ⟨_,rfl,"dict_keyiterator",_,⟨_,bB _ rfl,rfl⟩,qX.lookup,?_⟩));simpa [rawInt] using hQ
def Ej {it d:Addr}{i ep:Nat}{od:Obj}{es:Array DictEntry}{e:DictEntry}{Q:z0j->151}(hit:s.heap.IsKeyIter it d i es.size ep)
  (HU:s.heap.get? d=some od)(EF:od.data=.dict es ep)(hx:es[i]?=some e)
  (hQ:∀h',h'.IsKeyIter it d (i+1) es.size ep->Heap.SameBut it s.heap h'->Q (some e.key) 221) :
  wpAny 182 A (pyNext (.ref it)) Q E s:=by
 obtain⟨o,ho,hc,hd⟩:=id hit;unfold pyNext;refine ao (iM (lP (name:=Str.ofString "__next__") hit.typeIs qX
  (eP qX hit.typeIs F.entry_dict_keyiterator_next ?_ (F.args_dict_keyiterator_next_1 _))))
 refine ao (ax ?_);refine ao ?_;refine ao ?_
 first | refine ao (vY hit.typeIs (ax ?_)) | refine ao (vT hit.typeIs (ax ?_))
 refine ao (ou ho hd ?_);have xw:Builtin.Dict_items.ownsTuple "dict_keyiterator"=false:=by decide
 simp only [xw,cz,if_false];show wpAny _ _ (if (Value.ref d == Value.none)=true then _ else _) _ _ s;rw [ar (show ¬((Value.ref d == Value.none)=true) from bG)];refine ao (ax ?_);refine ao (mq HU EF ?_);rw [ar 88];refine ao (ax ?_);refine ao (oz HU EF ?_);rw [ar 88];refine ax ?_;have N3:i < es.size:=(qG.mp hx).1;have N8:es[i]=e:=(qG.mp hx).2;simp only [show ¬((i:Int) < 0) from by omega,if_false,eQ,pK N3];refine ao ?_
 first | refine ao (vY hit.typeIs (ax ?_)) | refine ao (vT hit.typeIs (ax ?_))
 refine ao (wpAny_isOneOf_keyiter hit.typeIs ?_);show wpAny _ _ (setField (.ref it) 1 (rawInt ((i:Int)+1)) >>= _) _ _ s;refine ao (jW ho hd 88 ?_);have KH:(s.heap.update it (Obj.mapFields (·.setIfInBounds 1 (rawInt ((i:Int)+1))))).IsKeyIter it d (i+1) es.size ep :=
  ⟨_,mY _ ho (vH (j4 hd _)),(Obj.cls_mapFields ..).trans hc,by rw [j4 hd];simp [rawInt]⟩
 refine ao (fJ ?_);refine ao (wpAny_isOneOf_keyiter (s:={ s with heap:=s.heap.update it (Obj.mapFields (·.setIfInBounds 1 (rawInt ((i:Int)+1)))) }) KH.typeIs ?_);show wpAny _ _ (pure es[i].key) _ _ _;exact ax (ax ⟨_,rfl,ax (by rw [N8];exact hQ _ KH (iY ..))⟩)
def Iz {it d:Addr}{i ep:Nat}{od:Obj}{es:Array DictEntry}{Q:z0j->151}(hh:A.handled=none)(hit:s.heap.IsKeyIter it d i es.size ep)
  (HU:s.heap.get? d=some od)(EF:od.data=.dict es ep)(hx:es.size<=i)
  (hQ:∀h',Heap.ExtBut it s.heap h'->Q none 221):wpAny 182 A (pyNext (.ref it)) Q E s:=by
 obtain⟨o,ho,hc,hd⟩:=id hit;unfold pyNext;refine ao (iM (lP (name:=Str.ofString "__next__") hit.typeIs qX
  (eP qX hit.typeIs F.entry_dict_keyiterator_next ?_ (F.args_dict_keyiterator_next_1 _))))
 refine ao (ax ?_);refine ao ?_;refine ao ?_
 first | refine ao (vY hit.typeIs (ax ?_)) | refine ao (vT hit.typeIs (ax ?_))
 refine ao (ou ho hd ?_);have xw:Builtin.Dict_items.ownsTuple "dict_keyiterator"=false:=by decide
 simp only [xw,cz,if_false];show wpAny _ _ (if (Value.ref d == Value.none)=true then _ else _) _ _ s;rw [ar (show ¬((Value.ref d == Value.none)=true) from bG)];refine ao (ax ?_);refine ao (mq HU EF ?_);rw [ar 88];refine ao (ax ?_);refine ao (oz HU EF ?_);rw [ar 88];refine ax ?_;have Dd:es.size<=i:=hx;simp only [show ¬((i:Int) < 0) from by omega,if_false,eQ,oQ Dd];refine ao ?_
 first | refine ao (vY hit.typeIs (ax ?_)) | refine ao (vT hit.typeIs (ax ?_))
 show wpAny _ _ (setField (.ref it) 0 .none >>= _) _ _ s;refine ao (jW ho hd 88 ?_);show wpAny _ _ (newExc (.type "StopIteration") [] >>= _) _ _ _;refine ao ?_;simp only [newExc,newTuple];refine ao (gh ?_ (by size_fits));refine ao (m:=firstArgMember _ _) (wpAny_of_eq (a:=Value.none) (by first | rfl | (simp only [firstArgMember];rfl)) ?_)
 refine gh ?_ (by size_fits);simp only [raiseNew];refine ao (wpAny_handled ?_);rw [show A.in1.handled=none from hh];refine ao (ax (wpAny_throw ?_));refine ao (jN (T := "StopIteration") (b:=true) ⟨_,bB _ rfl,rfl⟩ isSubtype_stop ?_);exact ax (hQ _ (((iY ..).extBut.push _).push _))
structure xX (h:Heap)(d:Addr)(es:Array DictEntry) (ep:Nat):Prop where
 ex:∃o,h.get? d=85/\o.ExactDict/\o.data=.dict es ep
def xX.at {h h':Heap}{d:Addr}{es:Array DictEntry}(x:xX h d es ep)(k:∀o,h.get? d=85->h'.get? d=85):xX h' d es ep:=let ⟨o,a,b⟩:=x.ex;⟨o,k o a,b⟩
def xX.lt {h:Heap}{d:Addr}{es:Array DictEntry}(x:xX h d es ep):d < h.objs.size:=let ⟨_,a,_⟩:=x.ex;aP a
def xX.typeIs {s:Shared}{d:Addr}{es:Array DictEntry}(x:xX s.heap d es ep):s.TypeIs (.ref d) "dict" := let ⟨o,a,b,_⟩:=x.ex;⟨o,a,b.1⟩
def yi (hh:A.handled=none)(I d:Addr)(Fu:d≠I)(es:Array DictEntry) (ep:Nat):Walks prog w A I [I,d] [I] es.size (λi v=>∃e,es[i]?=some e/\v=e.key) (λi h=>h.IsKeyIter I d i es.size ep/\xX h d es ep) where
 sub:=λb hb=>by simp at hb;simp [hb]
 frame:=λ_ _ _ st hk=>⟨st.1.at λo e=>hk I 88 o e,st.2.at λo e=>hk d 88 o e⟩
 item:=λi s Q E hi st hQ=>by
  have hx:es[i]?=some es[i]:=pK hi;obtain⟨o,h1,_,h3⟩:=st.2.ex;refine Ej st.1 h1 h3 hx λh' KH HR=>?_;exact hQ _ h' s.toks ⟨_,hx,rfl⟩ ⟨KH,st.2.at λo e=>HR.extBut d o Fu e⟩ λb o hb e=>HR.extBut b o (λh=>hb (by simp [h])) e
 done:=λs Q E st hQ=>by
  obtain⟨o,h1,_,h3⟩:=st.2.ex;exact Iz hh st.1 h1 h3 (aH _) λh' KO=>hQ h' s.toks λb o hb e=>KO b o (λh=>hb (by simp [h])) e
 self:=λ_ _ _ _ st hQ=>wpAny_pyIter_keyiter st.1 hQ
def Kw {d:Addr}{es:Array DictEntry}(lo:(d == sysModules)=false):PySem.W.KdlSrc prog w "dict" d d es.size (λi v=>∃e,es[i]?=some e/\v=e.key) (λh=>xX h d es ep) where
 type:=λ_ hm=>hm.typeIs
 there:=λ_ hm=>⟨hm.lt,hm.lt⟩
 keep:=λ_ _ hm hk=>hm.at λo e=>hk d (.inl rfl) o e
 notList:=by decide
 notTuple:=by decide
 hint:=λ_ _ _ _ hm hq=>PySem.W.kdl_hint_dict hm.typeIs hq
 iter:=λ_ s hh hm=>⟨_,_,(λ_ _ hq=>by obtain⟨o,h1,_,h3⟩:=hm.ex;exact Br lo hm.typeIs h1 h3 hq),yi hh _ d (aR hm.lt) es ep,⟨⟨_,bB _ rfl,rfl,rfl⟩,hm.at λo e=>a0 _ e⟩⟩
end
end L2
namespace ST
open PySem PySem.Spec PyProof.Rows L2
def UI (P:Program)(w:World):HeapKind P w D3 where
 is:=Je
 hash:=λk=>wg P w (DN k)
 draws:=λk=>(DN k).2.2.length+4
 room:=λA=>A.units+4 < cLine
 inj:=λhx hy=>nh (mR.inj (P:=P) (w:=w) hx.tk hy.tk)
 keeps:=λ{h h' k a d o es ep} x ho hd hs=>by
  obtain⟨o1,t,u,b,n,h1,h2,h3,o2,aK,n2,h4,h5,h6,h7⟩:=x;have k1:∀c oc xs m,h.get? c=some oc->oc.data=.seq xs m->h'.get? c=some oc:=λc oc xs m e ed=>by
   rw [hs.2 c]
   .exact e
   rintro rfl;rw [ho] at e;cases e;rw [hd] at ed;cases ed
  exact⟨o1,t,u,b,n,k1 _ _ _ _ h1 h3,h2,h3,o2,aK,n2,k1 _ _ _ _ h4 h6,h5,h6,h7⟩
 pyHash:=λhu hk h=>Ck hu hk.tk h
 eqBool:=λhu hx hy h=>FT hu hx.tk hy.tk (by rw [wj];exact h)
 quiet:=λhk h=>yl (P:=P) (w:=w) hk.tk h
abbrev E3:=D3×Addr
def KZ (P:Program)(w:World)(x:E3):DictEntry:=entryOfKey (UI P w) (x.1,x.2,.bool true)
def vi (P:Program)(w:World)(a:Addr)(xs:List E3):HO:=.ext λh=>(a == sysModules)=false/\∃o es ep,h.get? a=85/\o.ExactDict/\o.data=.dict es ep/\es.toList=xs.map (KZ P w)/\(xs.map 84).Nodup
def IQ {h:Heap}{a:Addr}{xs:List E3}(hs:(a == sysModules)=false){o:Obj}{es:Array DictEntry}(h1:h.get? a=85)(h2:o.ExactDict)(h3:o.data=.dict es ep)(h4:es.toList=xs.map (KZ P w))(h5:(xs.map 84).Nodup):bO P w H h a (vi P w a xs) :=
 ⟨⟨hs,o,es,ep,h1,h2,h3,h4,h5⟩,⟨o,h1⟩,λha hb ⟨c1,o,es,ep,c2,c3⟩ k=>⟨c1,o,es,ep,k o c2,c3⟩⟩
def Eu (xs:List E3):List (D3×Addr×Value):=xs.map λx=>(x.1,x.2,.bool true)
section
variable {X:Cx}{ah:z0e}{σ:L2.St}{H:Hp}{s:Shared}{a:Addr}{xs:List E3}
def xR (I:141)(e:H a=some (vi X.prog X.w a xs)):(a == sysModules)=false/\∃o es ep,s.heap.get? a=85/\o.ExactDict/\o.data=.dict es ep/\es.toList=xs.map (KZ X.prog X.w)/\(xs.map 84).Nodup :=
 (show bO X.prog X.w H s.heap a (vi X.prog X.w a xs) from I.bI a _ e).1
def zJ (I:141)(e:H a=some (vi X.prog X.w a xs))(r:∀x∈xs,cJ X.K H x.2 x.1):s.heap.DictOfH (UI X.prog X.w) a (Eu xs):=by
 obtain⟨_,o,es,ep,h1,h2,h3,h4,h5⟩:=xR I e;refine⟨o,es,ep,h1,h2,h3,by rw [h4];unfold Eu;rw [fj];rfl,λx hx=>?_,by unfold Eu;rw [fj];exact h5⟩;obtain⟨y,hy,rfl⟩:=bD.mp hx;exact cJ.is I (r y hy)
end
def GQ {X:Cx}:PE X (.Dict [] [] pos) (λ_ H Q=>∀p,H p=none->Q (.ref p) (upd H p (vi X.prog X.w p []))):=λah s σ H Q I h =>
 wpAny_Dict_empty ⟨186,_,I.laid (a:=s.heap.objs.size) (o:=vi X.prog X.w s.heap.objs.size []) (t':=s.toks) (λ_ _ q=>a0 _ q) (aH _) (IQ (iZ.mpr (cV (aR I.big))) (bB _ rfl) ⟨rfl,rfl,rfl⟩ rfl rfl .nil),rfl,h _ (I.bI.fresh (aH _))⟩
def put3 (xs:List E3)(k:D3)(b:Addr):List E3:=if k∈xs.map 84 then xs else xs++[(k,b)]
def rS (xs:List E3)(k:D3):(atKey (Eu xs) k).isSome=decide (k∈xs.map 84):=by
 unfold atKey Eu;rw [mv,hV,decide_eq_true_iff,List.find?_isSome];constructor
 .rintro⟨x,hx,e⟩;obtain⟨y,hy,rfl⟩:=bD.mp hx;exact bD.mpr ⟨y,hy,dC e⟩
 intro h;obtain⟨y,hy,rfl⟩:=bD.mp h;exact⟨_,bD.mpr ⟨y,hy,rfl⟩,cZ rfl⟩
def Ku (xs:List E3)(k:D3)(b:Addr):storedH (Eu xs) k b (.bool true)=Eu (put3 xs k b):=by
 unfold storedH put3;by_cases c:k∈xs.map 84
 .rw [au (by rw [rS];exact cZ c),au c];unfold Eu;rw [fj];refine vG λx _=>?_;show putAt k (.bool true) (x.1,x.2,Value.bool true)=_;unfold putAt
  split <;> rfl
 rw [ar (by rw [rS];simpa using c),ar c];unfold Eu;rw [bC];rfl
section
variable {X:Cx}{o i value:Expr}{pos pos':Pos}{td ty tv:TE}
inductive Mu (P:Program)(w:World)(K:aU)(H:Hp)(Q:143):V->V->V->Prop where
 | mk (a b:Addr)(xs:List E3)(k:D3)(h1:H a=some (vi P w a xs))(h2:∀x∈xs,cJ K H x.2 x.1)(h3:cJ K H b k)(h4:xs.length < 1000)(q:Q (upd H a (vi P w a (put3 xs k b)))):Mu P w K H Q (.bl true) (.ref a) (.ref b)
def QK (P:Program)(w:World)(K:aU)(td ty tv:TE):TS:=λD σ H=>tv σ H λv H1=>td σ H1 λx H2=>ty σ H2 λy H3=>Mu P w K H3 (λH4=>D.nx σ H4) v x y
def Gs (hu:X.A.units+8 < cLine)(ho:PE X o td)(hi:PE X i ty)(hv:PE X value tv)(hs:swapsWith value (some (.Subscript o i pos')) pos.line X.env=pure false) :
  PS X (.Assign [.Subscript o i pos'] value pos) (QK X.prog X.w X.K td ty tv):=by
 intro ah s σ H D I h;refine wpAny_Assign_Subscript (cM (hv ah s σ H _ I h) λr s1 aW=>?_) hs;obtain⟨v,H1,I1,rv,q1⟩:=aW;refine cM (ho ah s1 σ H1 _ I1 q1) λu s2 aW=>?_;obtain⟨x,H2,I2,rx,q2⟩:=aW;refine cM (hi ah s2 σ H2 _ I2 q2) λiv s3 aW=>?_;obtain⟨y,H3,I3,ry,q3⟩:=aW;obtain⟨a,b,xs,k,h1,h2,h3,h4,q⟩:=q3;obtain rfl:u=Value.ref a:=rx;obtain rfl:iv=Value.ref b:=ry;obtain rfl:r=Value.bool true:=rv;have dd:=zJ I3 h1 h2;have sm:=(xR I3 h1).1;have lz:(Eu xs).length<=sizeLine:=by unfold Eu;rw [aA];exact fits ∅
 refine wpAny_setItem_heap (hsz:=lz) (knd:=UI X.prog X.w) (show X.A.in1.units+4 < cLine by rw [jq];omega) (cJ.is I3 h3) dd λh' BV sb=>?_;rw [Ku] at BV;obtain⟨ob,es,ep,g1,g2,g3,g4,_,g5⟩:=BV;have e4:es.toList=(put3 xs k b).map (KZ X.prog X.w):=by rw [g4];unfold Eu;rw [fj];rfl
 have e5:((put3 xs k b).map 84).Nodup:=by unfold Eu at g5;rw [fj] at g5;exact g5
 exact⟨σ,_,I3.write (x:=a) (e:=a) (by rw [h1];exact True.intro) (.inl rfl) (λc q hb z=>(sb.2 c hb).trans z) ⟨ob,g1⟩ (IQ sm g1 g2 g3 e4 e5),q⟩
inductive Mw (P:Program)(w:World)(K:aU)(H:Hp)(Q:Bool->Prop):V->V->Prop where
 | mk (a b:Addr)(xs:List E3)(k:D3)(h1:H a=some (vi P w a xs))(h2:∀x∈xs,cJ K H x.2 x.1)(h3:cJ K H b k)(q:Q (!decide (k∈xs.map 84))):Mw P w K H Q (.ref b) (.ref a)
def AY {K:aU}(hP:X.prog=P)(hw:X.w=w)(hK:X.K=K)(hu:X.A.units+8 < cLine):oj X (compareOp .NotIn) (λx y H Q=>Mw P w K H (λb=>Q (.bl b) H) x y):=by
 subst hP hw hK;intro ah s σ H x y v u Q I rx ry h;obtain⟨a,b,xs,k,h1,h2,h3,q⟩:=h;cases rx;cases ry;refine wpAny_notIn_heap (knd:=UI X.prog X.w) (show X.A.in1.units+4 < cLine by rw [jq];omega) (cJ.is I h3) (xR I h1).1 (zJ I h1 h2) ?_;rw [rS];exact⟨.bl _,H,I.tok _,rfl,q⟩
end
def BZ {X:Cx}(hc:X.calm=true)(hu:X.A.units+8 < cLine):gk X (.builtin "sorted") (λxs H Q=>∃a es,xs=[.ref a]/\H a=some (vi X.prog X.w a es)/\(∀x∈es,cJ X.K H x.2 x.1)/\es.length < 64/\∀l fE cf,H l=none->Paired (cJ X.K H) fE cf->cf.Perm (es.map 84)->uk yU cf->Q (.ref l) (upd H l (.lst (fE.map V.ref)))):=by
 intro ah s σ H xs us Q I r h;obtain⟨a,xs,rfl,h1,h2,Jq,q⟩:=h;obtain⟨u,rfl,rx⟩:=vals1 r;cases (show u=Value.ref a from rx);obtain⟨sm,o,es,ep,g1,g2,g3,g4,g5⟩:=xR I h1;have sz:es.size=xs.length:=by rw [<-eV,g4,aA]
 obtain⟨m,mN,_⟩:=id I.loc
 let G:D3->Addr->Prop:=λd t=>cJ X.K H t d
 refine z7 kind_sorted plain_sorted entry_sorted (args_sorted1 _) ?_;unfold Builtin.«sorted»;refine ao (m:=checkCount "sorted" 1 1 _) (ax ?_);refine ao (PySem.W.kdu_collect (Kw (es:=es) (ep:=ep) sm) (I.ok.hd hc) ⟨o,g1,g2,g3⟩ (by rw [sz];exact fits ∅) λqA tk bz kp nZ=>?_);have ea:bz.toList=(xs.map (·.2)).map Value.ref:=by
  refine List.ext_getElem? λj=>?_;by_cases c:j < es.size
  .have e1:bz[j]?=some (bz[j]'(by rw [nZ.1];exact c)):=pK _;obtain⟨e,e2,e3⟩:=nZ.2 j _ e1;rw [lN,e1,e3,aS,aS];rw [<-lN,g4,aS] at e2;obtain⟨y,ey,e4⟩:=bQ.mp e2;rw [ey,<-e4];rfl
  rw [mZ (by rw [eV,nZ.1];omega),mZ (by rw [aA,aA];omega)]
 rw [ea];have JQ:Paired (λt z=>((sO X.prog X.w).wi G).is s.heap z t) (xs.map (·.2)) (xs.map 84):=by
  refine ip 88 λp hp=>?_;rw [List.zip_map',bD] at hp;obtain⟨y,hy,rfl⟩:=hp;exact⟨cJ.is I (h2 y hy),h2 y hy⟩
 refine ao (wpAny_newList ?_ (by rw [fO];simp;omega));generalize xs.map (·.2)=ts at JQ;have lt:ts.length=xs.length:=by rw [a9 JQ,aA]
 have HV:(qA.push 443).get? qA.objs.size=some 443:=bB _ rfl;have keep:∀b o,160->(qA.push 443).get? b=85:=λb o q=>a0 _ (kp _ _ q);have EC:(qA.push 443).Ns X.env.locals m:=by
  obtain⟨o,es,ep,g1,g2⟩:=mN;exact⟨o,es,ep,keep _ _ g1,g2⟩
 have hD:s.heap.get? qA.objs.size=none:=by
  cases e:s.heap.get? qA.objs.size with
  | none=>rfl
  | some ob=>exact absurd (aP (kp _ _ e)) (iV _)
 have fD:H qA.objs.size=none:=by
  cases e:H qA.objs.size with
  | none=>rfl
  | some u =>
   obtain⟨ob,g⟩:=yI (I.bI _ u e);rw [hD] at g;cases g
 refine ao (fJ (eP slot_list_sort ⟨_,HV,rfl⟩ entry_list_sort (oV (sk:=(sO X.prog X.w).wi G) (s:={ s with heap:=qA.push 443,toks:=tk }) (show X.A.in1.in1.units+2 < cLine by simp;omega) EC HV (aD (λt z i=>((sO X.prog X.w).wi G).keeps i λb o xs n _ _ g=>keep b o g) JQ) ∅ λh2 c fE cf k2 Kh g2 sub len pm tN=>⟨_,rfl,?_⟩) (args_list_sort _)));have l3:=pm.length_eq;rw [aA] at l3;refine ax ⟨_,rfl,.ref qA.objs.size,_,I.C8 (a:=qA.objs.size) (o:=.lst (fE.map V.ref)) (t':=tk) (λb u nb hb=>k2 b u nb (aR (aP (kp b u hb))) (keep b u hb)) (λm' hm=>?_) hD fD (show bO X.prog X.w _ _ _ (.lst (fE.map V.ref)) from ⟨?_,fE.map Value.ref,c,kS _,g2⟩),rfl,q _ fE cf fD (ip len λp hp=>(mw JQ p (sub p.1 p.2 hp)).2) pm tN⟩
 .have e:m'=m:=by
   obtain⟨o,es,ep,ho,qc,_,hf⟩:=hm;obtain⟨o2,SF,PU,qz,r9,_,H_⟩:=mN;rw [ho] at qz;cases qz;rw [qc] at r9;cases r9
   funext x
   rw [<-hf x,<-H_ x]
  rw [e];exact Kh
 rw [aA];exact fits ∅
end ST
namespace L2
open PySem PySem.Spec PyProof.Rows
end L2
namespace ST
open PySem PySem.Spec PyProof.Rows L2
def B2 {X:Cx}(hu:X.A.units+8 < cLine):gk X (.builtin "sorted") (λxs H Q=>∃a ts ds,xs=[.ref a]/\aJ X.K H a (155)/\Paired (cJ X.K H) ts ds/\ts.length < 64/\∀l fE BS,H l=none->Paired (cJ X.K H) fE BS->BS.Perm ds->uk yU BS->Q (.ref l) (upd H l (.lst (fE.map V.ref)))):=by
 intro ah s σ H xs us Q I r h;obtain⟨a,ts,ds,rfl,hq,hr,Jq,q⟩:=h;obtain⟨u,rfl,rx⟩:=vals1 r;cases (show u=Value.ref a from rx);obtain⟨aK,r',pl,hz⟩:=I.list hq;have ei:=kZ r';subst ei;obtain⟨m,mN,_⟩:=id I.loc
 let G:D3->Addr->Prop:=λd t=>cJ X.K H t d
 refine yu (sk:=(sO X.prog X.w).wi G) (show X.A.in1.in1.units+2 < cLine by simp;omega) mN pl.isList (aD (λt d h=>⟨cJ.is I h,h⟩) hr) Jq λh2 c fE BS kp Kh N9 Gn pm tN=>?_;have NC:s.heap.objs.size<=203:=gp _;have l2:fE.length=BS.length:=a9 Gn;have l3:=pm.length_eq;have l4:=a9 hr;refine⟨.ref 255,_,I.C8 (a:=203) (o:=.lst (fE.map V.ref)) (t':=s.toks) kp (λm' hm=>?_) (xB NC) (I.bI.fresh NC) (show bO X.prog X.w _ _ _ (.lst (fE.map V.ref)) from ⟨?_,fE.map Value.ref,c,kS _,N9⟩),rfl,q _ fE BS (I.bI.fresh NC) (aD (λt z i=>i.2) Gn) pm tN⟩
 .have e:m'=m:=by
   obtain⟨o,es,ep,ho,qc,_,hf⟩:=hm;obtain⟨o2,SF,PU,qz,r9,_,H_⟩:=mN;rw [ho] at qz;cases qz;rw [qc] at r9;cases r9
   funext x
   rw [<-hf x,<-H_ x]
  rw [e];exact Kh
 rw [aA];exact fits ∅
def Oq {X:Cx}{σ:L2.St}(A:Around)(hu:A.units+4 < cLine)(I:141){t a:Addr}{x y:D3}(hx:cJ X.K H t x)(hy:cJ X.K H a y):SeqAt.EqAt A s (.ref t) (.ref a) (decide (x=y)):=λP w E Q q=>FT (P:=P) (w:=w) hu (cJ.is I hx).tk (cJ.is I hy).tk (by rw [wj];exact q)
def IG {X:Cx}{σ:L2.St}(I:141){t:Addr}{x y:D3}(hx:cJ X.K H t x)(hy:cJ X.K H t y):x=y:=nh (mR.inj (P:=X.prog) (w:=X.w) (cJ.is I hx).tk (cJ.is I hy).tk)
inductive Mv (K:aU)(H:Hp)(Q:Bool->Prop):V->V->Prop where
 | mk (a b:Addr)(ts:z0p)(zs:List D3)(k:D3)(h1:aJ K H a (155))(h2:Paired (cJ K H) ts zs)(h3:cJ K H b k)(q:Q (!decide (k∈zs))):Mv K H Q (.ref b) (.ref a)
open Classical in
def AX {X:Cx}{K:aU}(hK:X.K=K)(hu:X.A.units+8 < cLine):oj X (compareOp .NotIn) (λx y H Q=>Mv K H (λb=>Q (.bl b) H) x y):=by
 subst hK;intro ah s σ H x y v u Q I rx ry h;obtain⟨p,a,ts,zs,k,hp,hpr,ha,q⟩:=h;cases rx;cases ry;obtain⟨aK,r,pl,hz⟩:=I.list hp;have ei:=kZ r;subst ei
 let g:Value->Bool:=λy=>match y with | .ref t=>decide (cJ X.K H t k) | _=>false
 have any:((218).any g)=decide (k∈zs):=by
  clear hp r pl hz q
  induction hpr with
  | nil=>simp
  | @cons t z ts zs h _ ih =>
   rw [bY,mi,ih,hV,Bool.or_eq_true_iff];show decide (cJ X.K H t k)=true\/_↔_;rw [decide_eq_true_iff,decide_eq_true_iff,decide_eq_true_iff,aX];refine or_congr_left ⟨λz'=>IG I z' h,λe=>by rw [e];exact h⟩
 refine SeqAt.notIn_listAt g pl.isList (λy hy=>?_) ⟨.bl _,H,I,rfl,?_⟩
 .obtain⟨t,ht,rfl⟩:=bD.mp (show y∈218 by simpa using hy);obtain⟨z,hz',hr⟩:=fh hpr t ht;have e:decide (cJ X.K H t k)=decide (z=k):=by
   rw [hV,decide_eq_true_iff,decide_eq_true_iff];exact⟨λh=>IG I hr h,λh=>by rw [<-h];exact hr⟩
  show SeqAt.EqAt X.A.in1 s (.ref t) (.ref a) (decide (cJ X.K H t k));rw [e];exact Oq X.A.in1 (by rw [jq];omega) I hr ha
 rw [show (218).toArray.any g=(218).any g by simp,any];exact q
def Gq (K:aU)(b:Bool) (n:Nat):V->V->Hp->VK->Prop:=λx y H Q=>∃p q xs ys,x=.ref p/\y=.ref q/\aQ K H p xs/\aQ K H q ys/\Paired (Cc K H n) xs ys/\Q (.bl b) H
def yH {X:Cx}(n:Nat)(hu:X.A.units+(n+1) < cLine):oj X (compareOp .Eq) (Gq X.K true n):=by
 intro ah s σ H x y v u Q I rx ry h;obtain⟨a,b,xs,ys,rfl,rfl,ha,hb,p,q⟩:=h;cases rx;cases ry;obtain⟨aK,r,pl,hz⟩:=I.tuple ha;obtain⟨cX,r2,tW,Po⟩:=I.tuple hb;have l1:=r.length;have l2:=r2.length;have lp:=a9 p;refine SeqAt.RcAt.tuples (e:=λ_=>true) pl tW ∅ (λj h1 h2=>je r r2 p (λx y u v d r1 r2=>sM I n X.A.in1 x y u v d r1 r2 (by rw [jq];omega)) j h1 h2) X.prog X.w X.xe _ ?_;have e:((List.range (min aK.toArray.size cX.toArray.size)).all (λ_=>true) && aK.toArray.size == cX.toArray.size)=true:=by
  have:aK.toArray.size=cX.toArray.size:=by simp only [cu];omega
  simp [this]
 rw [e];exact⟨.bl true,H,I,rfl,q⟩
def yF {X:Cx}(n:Nat)(hu:X.A.units+(n+1) < cLine):oj X (compareOp .NotEq) (Gq X.K false n):=by
 intro ah s σ H x y v u Q I rx ry h;obtain⟨a,b,xs,ys,rfl,rfl,ha,hb,p,q⟩:=h;cases rx;cases ry;obtain⟨aK,r,pl,hz⟩:=I.tuple ha;obtain⟨cX,r2,tW,Po⟩:=I.tuple hb;have l1:=r.length;have l2:=r2.length;have lp:=a9 p;refine SeqAt.RcNeAt.tuples (e:=λ_=>true) pl tW ∅ (λj h1 h2=>je r r2 p (λx y u v d r1 r2=>sM I n X.A.in1 x y u v d r1 r2 (by rw [jq];omega)) j h1 h2) X.prog X.w X.xe _ ?_;have e:((List.range (min aK.toArray.size cX.toArray.size)).all (λ_=>true) && aK.toArray.size == cX.toArray.size)=true:=by
  have:aK.toArray.size=cX.toArray.size:=by simp only [cu];omega
  simp [this]
 rw [e];exact⟨.bl false,H,I,rfl,q⟩
end ST
namespace gM
open PySem L2 ST
abbrev wK:Stmt:=top 7
abbrev Ga:Stmt:=top 9
abbrev wG:Stmt:=top 10
abbrev AK:Stmt:=top 11
abbrev rp:Stmt:=top 12
abbrev Gg:Stmt:=top 46
abbrev AE:Stmt:=top 47
abbrev M6:Stmt:=top 48
abbrev wJ:Stmt:=top 49
abbrev i4:Stmt:=top 50
abbrev wH:Stmt:=top 51
abbrev DS:Stmt:=top 52
abbrev PK:=Int×Str
def CU (p:PK):List aL:=[.inl p.1,.inr p.2]
def CS {p q:PK}(h:CU p=CU q):p=q:=by
 obtain⟨a,b⟩:=p;obtain⟨c,d⟩:=q;simp only [CU,List.cons.injEq,Sum.inl.injEq,Sum.inr.injEq,and_true] at h;rw [h.1,h.2]
def keyOf (z:D3):PK:=(z.1,z.2.1)
def cx (zs:List D3)(p:PK):List DK:=(zs.filter λz=>decide (keyOf z=p)).map (·.2.2)
def Rw (zs:List D3) (i:Nat):PK:=keyOf (zs.getD i Jv)
def cy (zs:List D3) (n:Nat):List PK:=eX (Rw zs) n
abbrev Cl:=PK×List DK
def iS (zs:List D3):List Cl:=((cy zs zs.length).map λp=>(p,cx zs p)).filter λc=>decide (1 < c.2.length)
def jx (zs:List D3)(z:D3)(p:PK):cx (zs++[z]) p=if keyOf z=p then cx zs p++[z.2.2] else cx zs p:=by
 unfold cx;rw [jR,bC];by_cases h:keyOf z=p
 .rw [au h];simp [h]
 rw [ar h];simp [h]
def uM {zs:List D3}{p:PK}(h:∀z∈zs,keyOf z≠p):cx zs p=[]:=by
 unfold cx;rw [List.filter_eq_nil_iff.mpr λz hz=>by simpa using h z hz];rfl
def take_snoc {α:Type}{zs:List α}{i:Nat}{z:α}(e:zs[i]?=some z):zs.take (i+1)=zs.take i++[z]:=by
 rw [d7,e];rfl
def xq {zs:List D3}{i:Nat}(e:zs[i]?=some z):Rw zs i=keyOf z:=by
 unfold Rw;rw [List.getD,e];rfl
def Bp {zs:List D3}{i:Nat}(e:zs[i]?=some z):cy zs (i+1)=if keyOf z∈cy zs i then cy zs i else cy zs i++[keyOf z]:=by
 unfold cy;rw [eX,xq e];by_cases h:keyOf z∈eX (Rw zs) i
 .rw [au h,au h]
 rw [ar h,ar h]
def Ew {zs:List D3}{i:Nat}{p:PK}(h:p∉cy zs i)(hi:i<=zs.length):cx (zs.take i) p=[]:=by
 refine uM λz hz e=>h ((kr _ _ _).mpr ?_);obtain⟨j,hj,e2⟩:=jF.mp hz;rw [dB] at hj;rw [List.getElem_take] at e2;refine⟨j,∅,?_⟩;rw [xq (z:=z) (by rw [<-e2];exact dA ∅)];exact e
def Eh {zs:List D3}(h:uk yU zs)(p:PK):uk Mn (cx zs p):=by
 unfold uk cx;rw [j3];refine z_ ?_ (h.sublist vF);intro a b ha hb hl;have ea:keyOf a=p:=by simpa using (d6.mp ha).2
 have eb:keyOf b=p:=by simpa using (d6.mp hb).2
 have e:keyOf b=keyOf a:=eb.trans ea.symm;simp only [keyOf,jV] at e;unfold yU ST.lex at hl;rw [au e.1] at hl;rw [au e.2] at hl;exact hl
def lB (zs:List D3)(p:PK):(cx zs p).length<=zs.length:=by
 unfold cx;rw [aA];exact iz _ _
def rL {zs cf:List D3}(h:uk yU zs)(nd:zs.Nodup)(p:cf.Perm (xK Jv zs))(h':uk yU cf):cf=zs :=
 mC xf h' h (p.trans ((Af (Dk _ _) nd).mpr λz=>zo _ _ z))
def gC:List PK->z0p->List (List aL×V)
 | p::ps,b::bs=>(CU p,.ref b)::gC ps bs
 | _,_=>[]
theorem rR:∀{ps:List PK}{bs:z0p}{p:PK},p∉ps->aT (gC ps bs) (CU p)=none
 | [],_,_,_=>rfl
 | _::_,[],_,_=>rfl
 | q::ps,b::bs,p,h=>by
  show aT ((CU q,V.ref b)::gC ps bs) (CU p)=none;rw [de (λz=>h (by rw [CS z];exact bP))];exact rR λz=>h (b9 _ z)
theorem xo:∀{ps:List PK}{bs:z0p}{p:PK},bs.length=ps.length->p∈ps->∃(j:Nat)(b:Addr),ps[j]?=some p/\bs[j]?=some b/\aT (gC ps bs) (CU p)=some (.ref b)
 | [],_,_,_,h=>by cases h
 | _::_,[],_,e,_=>by cases e
 | q::ps,b::bs,p,e,h=>by
  by_cases c:q=p
  .subst c;exact⟨0,b,rfl,rfl,dD rfl⟩
  obtain⟨j,b',h1,h2,h3⟩:=xo (ps:=ps) (bs:=bs) (p:=p) (by simpa using e) (by rcases aX.mp h with z | z;exact absurd z.symm c;exact z)
  exact⟨j+1,b',h1,h2,(de (λz=>c (CS z))).trans h3⟩
theorem C9:∀{ps:List PK}{bs:z0p}(p:PK)(b:Addr),bs.length=ps.length->gC (ps++[p]) (bs++[b])=gC ps bs++[(CU p,.ref b)]
 | [],[],_,_,_=>rfl
 | [],_::_,_,_,e=>by cases e
 | _::_,[],_,_,e=>by cases e
 | q::ps,c::bs,p,b,e=>by
  show (CU q,V.ref c)::gC (ps++[p]) (bs++[b])=_;rw [C9 p b (by simpa using e)];rfl
def Kt {ps:List PK}{bs:z0p}{p:PK}(b:Addr)(e:bs.length=ps.length)(h:p∉ps):bx (gC ps bs) (CU p) (.ref b)=gC (ps++[p]) (bs++[b]):=by
 unfold bx;rw [hZ,rR h,C9 p b e];rfl
theorem xn:∀{ps:List PK}{bs:z0p},bs.length=ps.length->(gC ps bs).length=ps.length
 | [],[],_=>rfl
 | [],_::_,e=>by cases e
 | _::_,[],e=>by cases e
 | q::ps,c::bs,e=>by
  show (gC ps bs).length+1=_;rw [xn (by simpa using e)];rfl
theorem HA:∀{ps:List PK}{bs:z0p}{i:Nat}{kv:List aL×V},(gC ps bs)[i]?=some kv->∃p b,ps[i]?=some p/\bs[i]?=some b/\kv=(CU p,.ref b)
 | [],_,i,kv,h=>by cases h
 | _::_,[],i,kv,h=>by cases h
 | q::ps,c::bs,0,kv,h=>by cases h;exact⟨q,c,rfl,rfl,rfl⟩
 | q::ps,c::bs,i+1,kv,h=>HA (ps:=ps) (bs:=bs) h
abbrev Zv (K:aU)(H0 H:Hp)(BS:PK->List DK)(b:Addr)(p:PK):Prop:=∃ds:z0p,H b=some (.lst (ds.map V.ref))/\Paired (dR K H0) ds (BS p)
structure GI (K:aU)(H0 H:Hp)(zs:List D3) (i:Nat)(bs:z0p):Prop where
 nd:bs.Nodup
 fr:∀b∈bs,H0 b=none
 gr:Paired (Zv K H0 H (cx (zs.take i))) bs (cy zs i)
def CR (K:aU)(D:Addr)(H0 H:Hp)(t:Addr)(c:Cl):Prop:=∃(b:Addr)(ds:z0p),b≠D/\H t=some (.tup [.int c.1.1,.str c.1.2,.ref b])/\H b=some (.lst (ds.map V.ref))/\Paired (dR K H0) ds c.2/\H0 b=none
def yp {K:aU}{d t:Addr}{xs:List V}(h:aQ K (upd H d (.dT [])) t xs):aQ K H t xs:=by
 rcases h with (h | ⟨o,h⟩) | h
 .by_cases e:t=d
  .rw [e,ae] at h;cases h
  rw [ai e] at h;exact .inl (.inl h)
 .by_cases e:t=d
  .rw [e,ae] at h;cases h
  rw [ai e] at h;exact .inl (.inr ⟨o,h⟩)
 exact .inr h
def b_ {b:Addr}{o:HO}(s:aF H0 H)(n:H0 b=none):aF H0 (upd H b o):=λc u h=>by
 rw [ai (λz=>by rw [z,n] at h;cases h)];exact s c u h
def b8 {α β:Type}{R:α->β->Prop}{l:List α}{m:List β}(p:Paired R l m){i:Nat}{a:α}(e:l[i]?=some a):∃b,m[i]?=some b/\R a b:=by
 have li:=(bw.mp e).1;have ll:=a9 p;obtain⟨a',e1,r⟩:=Paired.at_ p i _ (dA (show i < m.length by omega));rw [e] at e1;cases e1;exact⟨_,dA ∅,r⟩
def gy {α β:Type}{R R':α->β->Prop}{l:List α}{m:List β}(p:Paired R l m)(f:∀(i:Nat) a b,l[i]?=some a->m[i]?=some b->R a b->R' a b):Paired R' l m:=by
 have ll:=a9 p;refine ip ll λq hq=>?_;obtain⟨i,e⟩:=qF.mp hq;obtain⟨e1,e2⟩:=Ad.mp e;obtain⟨b,e3,r⟩:=b8 p e1;rw [e2] at e3;cases e3;exact f i _ _ e1 e2 r
def yN {α:Type}{l:List α}(h:l.Nodup){i j:Nat}{a:α}(e1:l[i]?=some a)(e2:l[j]?=some a):i=j:=(List.getElem?_inj (bw.mp e1).1 h).mp (e1.trans e2.symm)
section
def CG (K:aU):Sp:=λvs H Q _=>∃(a:Addr)(ts:z0p)(zs:List D3),vs=[.ref a]/\aJ K H a (155)/\Paired (cJ K H) ts zs/\zs.length < 64/\∀(cf:List D3)(l:Addr)(us:z0p)(H':Hp),cf.Perm (xK Jv zs)->uk yU cf->aF H H'->H l=none->H' l=some (.lst (us.map V.ref))->Paired (CR K l H H') us (iS cf)->Q (.ref l) H'
def nv:aN ["deeds","told","room","word","deed"] ["deeds"] (az wK):=185
def Hf (F:iU K "clashes_of" "clashes_of" wK f fd)(T:Txt mg)(c_:mg "sorted"=none)(v8:mg "set"=none):bS P w K mg base fC 1 f fd ["deeds"] (CG K):=by
 refine F.ok nv 198 217
 .obtain⟨a,ts,zs,rfl,_⟩:=h;rfl
 obtain⟨a,ts,zs,rfl,hS,cU,hn,q⟩:=h;have hu:=eJ hr;have HP:(A.deeper (PyProof.Rows.envOfC ("clashes_of":Str) (az wK) s.heap.objs.size f dP)).units+20 < cLine:=iu ∅ hr.un;refine⟨_,aj (aG (i:=1) nv.nd rfl 86 GO)
  (aj (bJ cq rfl (aV (iO rfl HP rfl c_ rfl v8 (pv 0))) (dZ rfl (aE (aw (i:=2) nv.nd rfl 86) (aE (aw (i:=3) nv.nd rfl 86) (aE (aw (i:=4) nv.nd rfl 86) bV))))
   (av (df (il hX jG jH cN (DZ hu (pv 1) (bq (af (pv 2) (af (pv 3) aq))) (bc aq) ⟨rfl,rfl,rfl,rfl⟩) (af (pv 4) aq)))))
  (av (bp (bK ["pair","found"] [] rfl (Gx (pv 1) ⟨rfl,rfl⟩) (bf rfl rfl) nofun rfl nofun
   (λ_ _ _ _ _=>iD (n:=2) K rfl (aE (aw (i:=0) (show (["pair","found"]:z0s).Nodup by decide +kernel) rfl 86) (aE (aw (i:=1) (show (["pair","found"]:z0s).Nodup by decide +kernel) rfl 86) bV)))
   (λ_ _ _ _ _=>eA (bj yG (bL (E6 K) rfl T.len hU (af (pv 1) aq)) aC (cv _)))
   (λ_ _ _ _ _=>bq (af (aY (qx K) (pv 0) aC 152) (af (aY (qx K) (pv 0) aC 152) (af (pv 1) aq)))))))),?_⟩
 intro d hd;have k1:=ag hd (.dT []);have e1:upd H d (.dT []) d=some (.dT []):=ae;have back:∀{t:Addr}{z:D3},cJ K (upd H d (.dT [])) t z->cJ K H t z:=λ⟨b,h1,h2⟩=>⟨b,yp h1,yp h2⟩;generalize upd H d (.dT [])=H1 at k1 e1 back;refine⟨_,rfl,.mk a ts zs (k1.seq hS) (aD (λt z aW=>?_) cU) hn λl fE cf hl KA pm tN=>?_⟩;obtain⟨b,h1,h2⟩:=aW;exact⟨b,k1.tup h1,k1.tup h2⟩;have RT:Paired (cJ K H) fE cf:=aD (λt z h=>back h) KA;have ll:=a9 RT;have KG:cf.length < 64:=by rw [pm.length_eq];exact iu (sN _ _) hn
 have k2:=ag hl (.lst (fE.map V.ref));have e2:upd H1 l (.lst (fE.map V.ref)) l=some (.lst (fE.map V.ref)):=ae;generalize upd H1 l (.lst (fE.map V.ref))=H2 at k2 e2;have fl:H l=none:=k1.free hl;refine⟨l,rfl,⟨_,aJ.of e2⟩,?_⟩;refine cO (xs:=fE.map V.ref) (λi σ H3=>∃(bs:z0p)(y2 y3 y4:149),σ=[a7 a,a7 d,y2,y3,y4]/\aF H H3/\H3 l=some (.lst (fE.map V.ref))/\H3 d=some (.dT (gC (cy cf i) bs))/\GI K H H3 cf i bs/\l∉bs)
  ⟨[],none,none,none,rfl,k1.trans k2,e2,k2 _ _ e1,⟨.nil,λb hb=>(by cases hb),.nil⟩,λz=>(by cases z)⟩ ?_ ?_ ?_
 .rintro i σ H3 _ ⟨bs,y2,y3,y4,rfl,s3,el,_⟩;exact aJ.of el
 .rintro i x σ H3 ex ⟨bs,y2,y3,y4,rfl,s3,el,ed,G,nl⟩;rw [aS] at ex;obtain⟨t,et,rfl⟩:=bQ.mp ex;obtain⟨z,ez,b0,v1,v2⟩:=b8 RT et;have li:=(bw.mp ez).1;have lk:=a9 G.gr;have lki:(cy cf i).length<=i:=i6 _ _;refine⟨t,_,rfl,s3.tup v1,rfl,_,_,rfl,_,_,rfl,_,_,rfl,rfl,?_⟩;refine⟨_,rfl,d,rfl,.inr ⟨_,.inl ed⟩,_,rfl,_,rfl,kR,λu1 W_=>?_⟩;have k4:=ag W_ (.tup [V.int z.1,V.str z.2.1]);have eu1:upd H3 u1 (.tup [V.int z.1,V.str z.2.1]) u1=some (.tup ((CU (keyOf z)).map kV)):=ae;generalize upd H3 u1 (.tup [V.int z.1,V.str z.2.1])=H4 at k4 eu1;refine⟨qi,λn0 RZ=>?_⟩;have k5:=ag RZ 142;have e5:upd H4 n0 142 n0=some 142:=ae;have gone:H3 n0=none:=k4.free RZ;generalize upd H4 n0 142=H5 at k5 e5;have Bq:=k4.trans k5;have s5:=s3.trans Bq;have fn0:H n0=none:=s3.free gone;have Ul:n0≠l:=λz=>by rw [z,el] at gone;cases gone
  have Q8:n0≠d:=λz=>by rw [z,ed] at gone;cases gone
  have Fx:=Bq _ _ ed;have U4:=Bq _ _ el;have nld:l≠d:=λz=>by rw [z,Fx] at U4;cases U4
  have szk:(gC (cy cf i) bs).length < sizeLine:=by rw [xn lk];exact bF ∅
  have app:∀(H6:Hp)(b:Addr)(Tg ds:z0p),aF H H6->H6 l=some (.lst (fE.map V.ref))->H6 d=some (.dT (gC (cy cf (i+1)) Tg))->H6 b=some (.lst (ds.map V.ref))->H b=none->b≠l->b≠d->ds.length < 64->l∉Tg->GI K H (upd H6 b (.lst (ds.map V.ref++[V.ref b0]))) cf (i+1) Tg ->
    ∃(OR:z0p)(y2 y3 y4:149),[a7 a,a7 d,some (.int z.1),some (.str z.2.1),a7 b0]=[a7 a,a7 d,y2,y3,y4]/\aF H (upd H6 b (.lst (ds.map V.ref++[V.ref b0])))/\upd H6 b (.lst (ds.map V.ref++[V.ref b0])) l=some (.lst (fE.map V.ref))/\upd H6 b (.lst (ds.map V.ref++[V.ref b0])) d=some (.dT (gC (cy cf (i+1)) OR))/\GI K H (upd H6 b (.lst (ds.map V.ref++[V.ref b0]))) cf (i+1) OR/\l∉OR :=
   λH6 b Tg ds h1 h2 h3 h4 h5 h6 h7 h8 h9 Yb=>⟨Tg,_,_,_,rfl,b_ h1 h5,by rw [ai (cV h6)];exact h2,by rw [ai (cV h7)];exact h3,Yb,h9⟩
  have tk:cf.take (i+1)=cf.take i++[z]:=take_snoc ez;have O5:=Bp ez;refine .mk _ (CU (keyOf z)) u1 Fx (k5 _ _ eu1) szk (λv hv=>?_) (λhv=>?_)
  .
   have mem:keyOf z∈cy cf i:=pL λno=>by rw [rR no] at hv;cases hv
   rw [au mem] at O5;obtain⟨j,b,g1,g2,g3⟩:=xo (bs:=bs) lk mem;rw [g3] at hv;cases hv;obtain⟨p,g4,ds,g5,g6⟩:=b8 G.gr g2;rw [g1] at g4;cases g4;have mb:b∈bs:=bE g2;have Su:=Bq _ _ g5;have ld:ds.length < 64:=by
    have:=a9 g6;have:=lB (cf.take i) (keyOf z);rw [dB] at this;omega
   refine⟨.inl ⟨rfl,_,aJ.of Su⟩,_,rfl,b,_,_,rfl,rfl,Su,220,?_⟩;refine app H5 b bs ds s5 U4 (by rw [O5];exact Fx) Su (G.fr b mb) (λe=>nl (e ▸ mb)) (λe=>by rw [e,Fx] at Su;cases Su) ld nl ⟨G.nd,G.fr,?_⟩;rw [O5,tk];refine gy G.gr λj' b' p' h1 h2 aW=>?_;obtain⟨BS,h3,h4⟩:=aW;show ∃ds:z0p,_/\Paired (dR K H) ds (cx (cf.take i++[z]) p');rw [jx];by_cases c:b'=b
   .subst c;have:j'=j:=yN G.nd h1 g2;subst this;rw [g1] at h2;cases h2;rw [au rfl];exact⟨ds++[b0],by rw [ae,bC];rfl,cw v2 g6⟩
   have np:¬keyOf z=p':=λe=>by
    subst e;have:j'=j:=yN (w_ _ _) h2 g1;subst this;rw [g2] at h1;cases h1;exact c rfl
   rw [ar np];exact⟨BS,by rw [ai c];exact Bq _ _ h3,h4⟩
  
  have Kk:keyOf z∉cy cf i:=λmem=>by
   obtain⟨j,b,_,_,g3⟩:=xo (bs:=bs) lk mem;rw [g3] at hv;cases hv
  rw [ar Kk] at O5;have nb:n0∉bs:=λhb=>by
   obtain⟨j,ej⟩:=qF.mp hb;obtain⟨p,_,ds,g5,_⟩:=b8 G.gr ej;rw [gone] at g5;cases g5
  rw [Kt n0 lk Kk,<-O5];have e6:upd H5 d (.dT (gC (cy cf (i+1)) (bs++[n0]))) n0=some (.lst (([]:z0p).map V.ref)):=by rw [ai Q8];exact e5
  have xD:H d=none:=hd;have el6:upd H5 d (.dT (gC (cy cf (i+1)) (bs++[n0]))) l=some (.lst (fE.map V.ref)):=by rw [ai nld];exact U4
  have s6:aF H (upd H5 d (.dT (gC (cy cf (i+1)) (bs++[n0])))):=b_ s5 xD;have PZ:upd H5 d (.dT (gC (cy cf (i+1)) (bs++[n0]))) d=some (.dT (gC (cy cf (i+1)) (bs++[n0]))):=ae;have Pg:∀b ds,b≠d->H3 b=some (.lst ds)->upd H5 d (.dT (gC (cy cf (i+1)) (bs++[n0]))) b=some (.lst ds):=λb ds nb h=>by rw [ai nb];exact Bq _ _ h
  generalize upd H5 d (.dT (gC (cy cf (i+1)) (bs++[n0])))=H6 at e6 el6 s6 PZ Pg;refine⟨.inl ⟨rfl,_,aJ.of e6⟩,_,rfl,n0,_,_,rfl,rfl,e6,(by show 0 < sizeLine;decide),?_⟩;refine app H6 n0 (bs++[n0]) [] s6 el6 PZ e6 fn0 Ul Q8 (by show 0 < 64;decide) (λhh=>?_) ⟨?_,λb hb=>?_,?_⟩
  .rcases cD.mp hh with h | h
   .exact nl h
   exact Ul (bA.mp h).symm
  .rw [fM];refine⟨G.nd,by simp,λx hx y hy=>?_⟩;rw [bA.mp hy];rintro rfl;exact nb hx
  .rcases cD.mp hb with h | h
   .exact G.fr b h
   rw [bA.mp h];exact fn0
  rw [O5,tk];refine cw (show ∃ds:z0p,_/\Paired (dR K H) ds (cx (cf.take i++[z]) (keyOf z)) from ⟨[b0],by rw [ae];rfl,by rw [jx,au rfl,Ew Kk ∅];exact .cons v2 .nil⟩) (gy G.gr λj' b' p' h1 h2 aW=>?_);obtain⟨BS,h3,h4⟩:=aW;have mb':b'∈bs:=bE h1;have np:¬keyOf z=p':=λe=>Kk (e ▸ bE h2);show ∃ds:z0p,_/\Paired (dR K H) ds (cx (cf.take i++[z]) p');rw [jx,ar np];exact⟨BS,by rw [ai (λe:b'=n0=>nb (by rw [<-e];exact mb'))];exact Pg _ _ (λe=>by rw [e,ed] at h3;cases h3) h3,h4⟩
 rintro σ H3 ⟨bs,y2,y3,y4,rfl,s3,el,ed,G,nl⟩;rw [aA,ll] at ed G;have lk:=a9 G.gr;refine⟨_,rfl,d,_,rfl,ed,λo D hD=>?_⟩;have nbd:∀b∈bs,b≠d:=λb hb e=>by
  obtain⟨j,ej⟩:=qF.mp hb;obtain⟨p,_,ds,g5,_⟩:=b8 G.gr ej;rw [e,ed] at g5;cases g5
 have s4:aF H (upd H3 d (.g9 o (.dT (gC (cy cf cf.length) bs)))):=b_ s3 hd;have YA:upd H3 d (.g9 o (.dT (gC (cy cf cf.length) bs))) d=some (.g9 o (.dT (gC (cy cf cf.length) bs))):=ae;have Yc:Paired (Zv K H (upd H3 d (.g9 o (.dT (gC (cy cf cf.length) bs)))) (cx cf)) bs (cy cf cf.length):=by
  have g:=G.gr;rw [cE] at g;refine gy g λj b p h1 h2 aW=>?_;obtain⟨ds,h3,h4⟩:=aW;exact⟨ds,by rw [ai (nbd b (bE h1))];exact h3,h4⟩
 generalize upd H3 d (.g9 o (.dT (gC (cy cf cf.length) bs)))=H4 at s4 YA Yc hD;have fD:H D=none:=s4.free hD;have Rb:D≠d:=λe=>by rw [e,YA] at hD;cases hD
 have Q_:∀b∈bs,b≠D:=λb hb e=>by
  obtain⟨j,ej⟩:=qF.mp hb;obtain⟨p,_,ds,g5,_⟩:=b8 Yc ej;rw [e,hD] at g5;cases g5
 have lkz:(cy cf cf.length).length<=cf.length:=i6 _ _
 let cl:Nat->List Cl:=λi=>(((cy cf cf.length).take i).map λp=>(p,cx cf p)).filter λc=>decide (1 < c.2.length)
 have cll:∀i,(cl i).length < 64:=λi=>by
  have h1:(cl i).length<=(((cy cf cf.length).take i).map λp=>(p,cx cf p)).length:=iz _ _;rw [aA,dB] at h1;omega
 have YU:∀i p,(cy cf cf.length)[i]?=some p->cl (i+1)=if 1 < (cx cf p).length then cl i++[(p,cx cf p)] else cl i:=λi p e=>by
  show (((cy cf cf.length).take (i+1)).map _).filter _=_;rw [take_snoc e,bC,jR];by_cases c:1 < (cx cf p).length
  .rw [au c];simp [cl,c]
  rw [ar c];simp [cl,c]
 let CT:Hp->Addr->Cl->Prop:=λH5 t c=>∃(b:Addr)(ds:z0p),b∈bs/\H5 t=some (.tup [.int c.1.1,.str c.1.2,.ref b])/\H5 b=some (.lst (ds.map V.ref))/\Paired (dR K H) ds c.2
 have CTs:∀{H5 H6:Hp}{us:z0p}{cs:List Cl},aF H5 H6->Paired (CT H5) us cs->Paired (CT H6) us cs:=λs p=>aD (λt c ⟨b,ds,h1,h2,h3,h4⟩=>⟨b,ds,h1,s _ _ h2,s _ _ h3,h4⟩) p;have CTD:∀{H5:Hp}{us:z0p}{cs:List Cl}{xs ys:List V},H5 D=some (.lst xs)->Paired (CT H5) us cs->Paired (CT (upd H5 D (.lst ys))) us cs:=λe p=>aD (λt c ⟨b,ds,h1,h2,h3,h4⟩=>⟨b,ds,h1,by rw [ai (λz=>by rw [z,e] at h2;cases h2)];exact h2,by rw [ai (Q_ b h1)];exact h3,h4⟩) p;refine zy (λi ys σ5 H5=>∃(us:z0p)(y0 y1:149),ys=us.map V.ref/\σ5=[y0,y1]/\aF H H5/\H5 d=some (.g9 o (.dT (gC (cy cf cf.length) bs)))/\H5 D=some (.lst ys)/\Paired (Zv K H H5 (cx cf)) bs (cy cf cf.length)/\Paired (CT H5) us (cl i))
  ⟨[],none,none,rfl,rfl,s4.trans (ag hD _),by rw [ai (cV Rb)];exact YA,ae,gy Yc λj b p h1 h2 ⟨ds,h3,h4⟩=>⟨ds,by rw [ai (Q_ b (bE h1))];exact h3,h4⟩,.nil⟩ ?_ ?_ ?_
 .rintro i ys σ5 H5 _ ⟨us,y0,y1,rfl,rfl,s5,Fx,_⟩;exact Fx
 .rintro i kv ys σ5 H5 t b' IB ⟨us,y0,y1,rfl,rfl,s5,Fx,U_,UT,Td⟩ ht Fw;obtain⟨p,b,ep,eb,rfl⟩:=HA IB;have mb:b∈bs:=bE eb;obtain⟨p',PV,ds,hb5,pd⟩:=b8 UT eb;rw [ep] at PV;cases PV;have k6:=ag ht (.tup [V.ref b',V.ref b]);have et6:upd H5 t (.tup [V.ref b',V.ref b]) t=some (.tup [V.ref b',V.ref b]):=ae;show BE K 2 _ _ _ (upd H5 t (.tup [V.ref b',V.ref b])) _;generalize upd H5 t (.tup [V.ref b',V.ref b])=H6 at k6 et6;refine⟨t,_,rfl,aQ.of et6,rfl,_,_,rfl,_,_,rfl,rfl,?_⟩;have hb6:=k6 _ _ hb5;have e6:aQ K H6 b' [.int p.1,.str p.2]:=aQ.of (k6 _ _ Fw);refine⟨_,rfl,b,_,rfl,.inl (aJ.of hb6),_,_,rfl,rfl,_,rfl,?_⟩;have Up:us.length=(cl i).length:=a9 Td;have ldl:ds.length=(cx cf p).length:=a9 pd;have st:=YU i p ep;refine dj (λc=>?_) (λc=>?_)
  .have c':1 < (cx cf p).length:=by have:=dC c;rw [aA] at this;omega
   rw [au c'] at st;refine⟨_,rfl,b',_,_,_,rfl,rfl,e6,aZ (j:=0) rfl,_,rfl,b',_,_,_,rfl,rfl,e6,aZ (j:=1) rfl,_,rfl,O1,λt2 ji=>?_⟩;have k7:=ag ji (.tup [V.int p.1,V.str p.2,V.ref b]);have PQ:upd H6 t2 (.tup [V.int p.1,V.str p.2,V.ref b]) t2=some (.tup [V.int p.1,V.str p.2,V.ref b]):=ae;generalize upd H6 t2 (.tup [V.int p.1,V.str p.2,V.ref b])=H7 at k7 PQ;have Pm:=k6.trans k7;have YH:=Pm _ _ U_;have nt2:t2≠D:=λz=>by rw [z,YH] at PQ;cases PQ
   refine⟨YH,bF (by rw [aA,Up];have:=cll i;omega),us++[t2],_,_,by rw [bC];rfl,rfl,b_ (s5.trans Pm) fD,by rw [ai (cV Rb)];exact Pm _ _ Fx,ae,gy UT λj b p h1 h2 aW=>?_,?_⟩;obtain⟨ds,h3,h4⟩:=aW;exact⟨ds,by rw [ai (Q_ b (bE h1))];exact Pm _ _ h3,h4⟩;rw [st];exact cw ⟨b,ds,mb,by rw [ai nt2];exact PQ,by rw [ai (Q_ b mb)];exact Pm _ _ hb5,pd⟩ (CTD YH (CTs Pm Td))
  have c':¬1 < (cx cf p).length:=λz=>c (cZ (by rw [aA];omega));rw [ar c'] at st;refine⟨us,_,_,rfl,rfl,s5.trans k6,k6 _ _ Fx,k6 _ _ U_,gy UT λj b p h1 h2 aW=>?_,?_⟩;obtain⟨ds,h3,h4⟩:=aW;exact⟨ds,k6 _ _ h3,h4⟩;rw [st];exact CTs k6 Td
 rintro ys σ5 H5 ⟨us,y0,y1,rfl,rfl,s5,Fx,U_,UT,Td⟩;refine q cf D us H5 pm tN s5 fD U_ ?_;have e9:cl (gC (cy cf cf.length) bs).length=iS cf:=by
  show (((cy cf cf.length).take _).map _).filter _=_;rw [xn lk,cE];rfl
 rw [<-e9];refine aD (λt c aW=>?_) Td;obtain⟨b,ds,h1,h2,h3,h4⟩:=aW;exact⟨b,ds,Q_ b h1,h2,h3,h4,G.fr b h1⟩
end
open PySem L2 M11 ST
def Hs (str:87):Nat->Str->z0o
 | 0,_=>none
 | n+1,z=>if (match str[n]? with | some ru=>decide (z∈ru.2) | none=>false)=true then some n else Hs str n z
def lvl (str:87)(z:Str):z0o:=Hs str str.length z
def rO {ru:aB}(e:str[n]?=some ru)(z:Str):Hs str (n+1) z=if z∈ru.2 then some n else Hs str n z:=by
 show (if (match str[n]? with | some ru=>decide (z∈ru.2) | none=>false)=true then some n else Hs str n z)=_
 rw [e];by_cases c:z∈ru.2
 .rw [au c,au (cZ c)]
 rw [ar c,ar (by simpa using c)]
theorem Bh:∀{n:Nat}{z:Str}{k:Nat},Hs str n z=some k->k < n
 | 0,_,_,h=>by cases h
 | n+1,z,k,h=>by
  have h:(if (match str[n]? with | some ru=>decide (z∈ru.2) | none=>false)=true then some n else Hs str n z)=some k:=h
  by_cases c:(match str[n]? with | some ru=>decide (z∈ru.2) | none=>false)=true
  .rw [au c] at h;cases h;omega
  rw [ar c] at h;have:=Bh h;omega
def wN (str:87) (ps:z0s):z0o:=(ps.filterMap (lvl str)).getLast?
def rM:z0o->V
 | none=>.dY
 | some n=>.int (n:Int)
section
def Zo (str:87)(kvs:139):Prop:=∀z:Str,aT kvs 153=(lvl str z).map λn=>V.int (n:Int)
def yr (K:aU):Sp:=λvs H Q _=>∃(S:Addr)(ss:z0p)(str:87),vs=[.ref S]/\aJ K H S (ss.map V.ref)/\bu K H ss str/\str.length<=8/\(∀ru∈str,ru.2.length<=8)/\∀(d:Addr)(kvs:139)(H':Hp),aF H H'->H d=none->H' d=184->Zo str kvs->Q (.ref d) H'
def j_:aN ["strengths","levels","level","strength","word"] ["strengths"] (az wG):=185
def Ee (F:iU K "levels_of" "levels_of" wG f fd)(T:Txt mg):bS P w K mg base fC 1 f fd ["strengths"] (yr K):=by
 refine F.ok j_ 198 217
 .obtain⟨S,ss,str,rfl,_⟩:=h;rfl
 obtain⟨S,ss,str,rfl,hS,cU,hl,h8,q⟩:=h;have hu:=eJ hr;refine⟨_,aj (aG (i:=1) j_.nd rfl 86 fV)
  (aj (bJ cq rfl (lg rfl T.Jt (af (pv 0) aq)) (dZ rfl (aE (aw (i:=2) j_.nd rfl 86) (aE (aw (i:=3) j_.nd rfl 86) bV)))
   (av (bJ cq rfl (gO (aY bR (pv 3) aC 152)) (aw (i:=4) j_.nd rfl 86) (av (gW hu (pv 1) (pv 4) (pv 2) rfl)))))
  (av (bp (pv 1)))),?_⟩
 dsimp only [lF];intro d hd;have s1:=ag hd (.dK []);have e1:upd H d (.dK []) d=some (.dK []):=ae;generalize upd H d (.dK [])=H1 at s1 e1;refine⟨_,rfl,S,_,rfl,s1.seq hS,?_⟩;have ll:=a9 cU
 let zO:zP:=λi σ H2=>∃(y2 y3 y4:149)(kvs:139),σ=[a7 S,a7 d,y2,y3,y4]/\aF H H2/\H2 d=184/\(∀z:Str,aT kvs 153=(Hs str i z).map λn=>V.int (n:Int))/\kvs.length<=8 * i
 refine jc (xs:=ss.map V.ref) zO ⟨none,none,none,[],rfl,s1,e1,λz=>rfl,cY _⟩ ?_ ?_ ?_
 .rintro i σ H2 _ ⟨y2,y3,y4,kvs,rfl,s2,_⟩;exact s2.seq hS
 .rintro i x σ H2 t ex ⟨y2,y3,y4,kvs,rfl,s2,e2,v2,l2⟩ ht;rw [aS] at ex;obtain⟨r,er,rfl⟩:=bQ.mp ex;obtain⟨ru,pq,p,w1,w2⟩:=cU.get er;have li:=(bw.mp pq).1;have Jp:=h8 ru (bE pq);have k3:=ag ht 397;have Kz:aQ K (upd H2 t 397) t [161,.ref r]:=aQ.of ae;generalize upd H2 t 397=H3 at k3 Kz;have s3:=s2.trans k3;refine⟨t,_,rfl,Kz,rfl,_,_,rfl,_,_,rfl,rfl,?_⟩;refine⟨_,rfl,r,_,_,_,rfl,rfl,s3.tup w1,aZ (j:=1) rfl,p,rfl,⟨_,s3.tup w2⟩,?_⟩
  let Jd:zP:=λj σ H4=>∃(y4:149)(kvs:139),σ=[a7 S,a7 d,some (161),a7 r,y4]/\aF H H4/\H4 d=184/\(∀z:Str,aT kvs 153=(if z∈ru.2.take j then some i else Hs str i z).map λn=>V.int (n:Int))/\kvs.length<=8 * i+j
  refine qC (xs:=ru.2.map V.str) Jd ⟨_,kvs,rfl,s3,k3 _ _ e2,λz=>(by rw [List.take_zero,ar 88];exact v2 z),l2⟩ ?_ ?_ ?_
  .rintro j σ H4 _ ⟨y4,kvs,rfl,s4,_⟩;exact s4.tup w2
  .rintro j x σ H4 ex ⟨y4,kvs,rfl,s4,e4,v4,l4⟩;rw [aS] at ex;obtain⟨z,ez,rfl⟩:=bQ.mp ex;have lj:=(bw.mp ez).1;refine⟨_,rfl,_,rfl,_,rfl,d,_,rfl,.inl ⟨kvs,136,e4,rfl,bF ∅,rfl⟩,?_⟩;refine⟨_,_,rfl,b_ s4 hd,ae,λz'=>?_,by have:=di kvs 153 (V.int (i:Int));omega⟩;rw [take_snoc ez];by_cases c:z'=z
   .subst c;rw [m_,au rfl,au (gi _ bP)];rfl
   rw [m_,ar (λh=>c (by injection h)),v4];by_cases c2:z'∈ru.2.take j
   .rw [au c2,au (mX _ c2)]
   rw [ar c2,ar];intro h;rcases cD.mp h with h | h
   .exact c2 h
   exact c (bA.mp h)
  rintro σ H4 ⟨y4,kvs,rfl,s4,e4,v4,l4⟩;rw [aA] at v4 l4;refine⟨_,_,_,kvs,rfl,s4,e4,λz=>?_,∅⟩;rw [v4,cE,rO pq]
 rintro σ H2 ⟨y2,y3,y4,kvs,rfl,s2,e2,v2,l2⟩;rw [aA,ll] at v2;exact⟨_,rfl,q d kvs H2 s2 hd e2 v2⟩
def uA (K:aU):Sp:=λvs H Q _=>∃(d r:Addr)(kvs:139)(str:87)(ru:aB),vs=[.ref d,.ref r]/\H d=184/\Zo str kvs/\zN K H r ru/\ru.2.length<=8/\∀H',aF H H'->Q (rM (wN str ru.2)) H'
def uF:aN ["levels","rule","told"] ["levels","rule"] (az rp):=185
def xC {ns:z0u}(h:ns.getLast?=some n):tq (ns.map λk:Nat=>V.int (k:Int)) (-1)=some (.int (n:Int)):=by
 obtain⟨ms,rfl⟩:∃ms,ns=ms++[n]:=by
  rw [List.getLast?_eq_some_iff] at h;exact h
 rw [bC];show tq ((ms.map λk:Nat=>V.int (k:Int))++[V.int (n:Int)]) (-1)=_;unfold tq NO;rw [ar nofun,au (by simp;omega)];simp;rw [show (-1+((ms.length:Int)+1)).toNat=ms.length by omega,qW 88];simp
def A8 (F:iU K "level_of_rule" "level_of_rule" rp f fd)(T:Txt mg):bS P w K mg base fC 1 f fd ["levels","rule"] (uA K):=by
 refine F.ok uF 198 217
 .obtain⟨d,r,kvs,str,ru,rfl,_⟩:=h;rfl
 obtain⟨d,r,kvs,str,ru,rfl,hd,lv,⟨p,w1,w2⟩,h8,q⟩:=h;have hu:=eJ hr;refine⟨_,aj (gE (iy:=2) ["part"] [(0,"levels")] uF.nd rfl rfl rfl (gO (aY bR (pv 1) aC 152)) (bf rfl rfl) nofun rfl nofun
   (λ_ _ _ _ _=>aw (i:=0) (show (["part","levels"]:z0s).Nodup by decide +kernel) rfl 86) (λ_ _ _ _ _=>eA (dG (mD hu (pv 0) (pv 1)))) (λ_ _ _ _ _=>dO hu (pv 1) (pv 0) 152))
  (av (bp (ki (ig (pv 2) (λ_=>rfl)) (aY bW (pv 2) (Gy Ai aC) 152) AV))),?_⟩
 dsimp only [lF];refine⟨_,rfl,r,_,_,_,rfl,rfl,w1,aZ (j:=1) rfl,p,rfl,⟨_,w2⟩,λD hD=>?_⟩;refine hJ (xs:=ru.2.map V.str) (λi ys σ2 H2=>ys=((ru.2.take i).filterMap (lvl str)).map (λk:Nat=>V.int (k:Int))/\(∃y0,σ2=[y0,a7 d])/\449) ⟨rfl,⟨none,rfl⟩,ag hD _,ae⟩ ?_ ?_ ?_
 .rintro i ys σ2 H2 _ ⟨_,_,s2,_⟩;exact s2.tup w2
 .rintro i x ys σ2 H2 ex ⟨rfl,⟨y0,rfl⟩,s2,e2⟩;rw [aS] at ex;obtain⟨z,ez,rfl⟩:=bQ.mp ex;have li:=(bw.mp ez).1;have hg:cb H2 d (.str z) ((lvl str z).map λn=>V.int (n:Int)):=by
   have:=cb.k (k:=136) (s2 _ _ hd);rw [lv] at this;exact this
  have tk:(ru.2.take (i+1)).filterMap (lvl str)=(ru.2.take i).filterMap (lvl str)++(lvl str z).toList:=by
   rw [take_snoc ez,List.filterMap_append]
   congr 1
  refine goN ?_;cases el:lvl str z with
  | none =>
   rw [el] at hg tk;refine⟨_,rfl,_,rfl,d,_,rfl,hg,_,rfl,iP ?_⟩;exact⟨by rw [tk];exact congrArg _ (fq _).symm,⟨_,rfl⟩,s2,e2⟩
  | some n =>
   rw [el] at hg tk;have lt:((ru.2.take i).filterMap (lvl str)).length<=8:=dU (List.length_filterMap_le _ _) (by rw [dB];omega);refine⟨_,rfl,_,rfl,d,_,rfl,hg,_,rfl,tZ ?_⟩;refine⟨_,rfl,_,rfl,d,_,rfl,hg,e2,220,by rw [tk,bC];rfl,⟨_,rfl⟩,b_ s2 hD,ae⟩
 rintro ys σ2 H2 ⟨rfl,_,s2,e2⟩;rw [aA,cE] at e2;have q:=q H2 s2;unfold wN at q;cases eg:(ru.2.filterMap (lvl str)).getLast? with
 | none =>
  have e0:ru.2.filterMap (lvl str)=[]:=List.getLast?_eq_none_iff.mp eg;rw [eg] at q;rw [e0] at e2;refine⟨_,rfl,false,.inl ⟨_,aJ.of e2,rfl⟩,iP ?_⟩;exact q
 | some n =>
  rw [eg] at q;have ne:((ru.2.filterMap (lvl str)).map (λk:Nat=>V.int (k:Int))).isEmpty=false:=by
   cases e:ru.2.filterMap (lvl str) with
   | nil=>rw [e] at eg;cases eg
   | cons a r=>rfl
  refine⟨_,rfl,true,.inl ⟨_,aJ.of e2,by rw [ne];rfl⟩,tZ ?_⟩;exact⟨_,rfl,_,rfl,D,_,_,_,rfl,rfl,aJ.of e2,xC eg,q⟩
end
end gM
namespace L2
open PySem PySem.Spec PyProof.Rows
end L2
namespace ST
open PySem PySem.Spec PyProof.Rows L2
def C2 {X:Cx}(hu:X.A.units < cLine):oj X (compareOp .NotEq) (λx y H Q=>∃a b xs ys,x=.ref a/\y=.ref b/\aJ X.K H a xs/\aJ X.K H b ys/\xs.all gT=true/\ys.all gT=true/\Q (.bl (!EO xs ys)) H):=by
 intro ah s σ H x y v u Q I rx ry h;obtain⟨a,b,xs,ys,rfl,rfl,ha,hb,fx,fy,q⟩:=h;cases rx;cases ry;obtain⟨aK,r,pl,hz⟩:=I.list ha;obtain⟨cX,r2,tW,Po⟩:=I.list hb;have l1:=r.length;have l2:=r2.length;by_cases hl:aK.length=cX.length
 .refine SeqAt.RcNeAt.lists (e:=λj=>uY (xs.getD j .dY) (ys.getD j .dY)) pl.isList tW.isList (by simp only [cu];exact hl) hu (λj h1 h2=>BJ r r2 fx fy j h1 h2) X.prog X.w X.xe _ ?_;have e:((List.range aK.toArray.size).all (λj=>uY (xs.getD j .dY) (ys.getD j .dY)))=EO xs ys:=by
   rw [<-px];have:xs.length=ys.length:=by omega
   rw [this];simp only [cu,Nat.min_self,BEq.rfl,Bool.and_true];rw [show aK.length=ys.length by omega]
  rw [e];exact⟨.bl _,H,I,rfl,q⟩
 refine SeqAt.RcNeAt.lists_lengths pl.isList tW.isList (by simp only [cu];simpa using hl) hu X.prog X.w X.xe _ ?_;have e:EO xs ys=false:=by
  rw [<-px];have:¬xs.length=ys.length:=by omega
  simp [this]
 rw [e] at q;exact⟨.bl true,H,I,rfl,q⟩
theorem sG:∀(xs ys:z0s),EO (xs.map V.str) (ys.map V.str)=decide (xs=ys)
 | [],[]=>by simp [EO]
 | [],y::ys=>by simp [EO]
 | x::xs,[]=>by simp [EO]
 | x::xs,y::ys=>by
  show (uY (V.str x) (V.str y) && EO (xs.map V.str) (ys.map V.str))=_;rw [sG xs ys];by_cases h:x=y
  .subst h;simp [uY]
  simp [uY,h]
end ST
namespace gM
open PySem L2 M11 ST
def OY (H:Hp)(Cg g:Addr)(rs ss:z0p):Prop:=∃gx fs R2 S2,H g=some (.ins Cg gx fs)/\fs.lookup ("rules":Str)=some (.ref R2)/\fs.lookup ("strengths":Str)=some (.ref S2)/\H R2=some 326/\H S2=some (.lst (ss.map V.ref))
def OY.same {Cg g:Addr}{rs ss:z0p}(s:aF H H')(h:OY H Cg g rs ss):OY H' Cg g rs ss:=let ⟨gx,fs,R2,S2,h1,h2,h3,h4,h5⟩:=h;⟨gx,fs,R2,S2,s _ _ h1,h2,h3,s _ _ h4,s _ _ h5⟩
def VD (n:Nat)(d:DK):Prop:=∃k:Nat,d.2=some (k:Int)/\(d.1 = "make" -> k < n)
def JR (d:DK):Nat:=(d.2.getD 0).toNat
def mF:z0s:=["make","step"]
def bU (aa str:87)(wd:Str)(ds:List DK):List DK :=
 if ds.map (λd=>d.1)=mF then
  match wN str ((aa[JR (ds.getD 0 ("",none))]?.map λru:aB=>ru.2).getD []),lvl str wd with
  | some a,some b=>if a=b then (if (str[b]?.map λru:aB=>ru.1).getD ""="none" then ds else if (str[b]?.map λru:aB=>ru.1).getD ""="left" then ds.drop 1 else ds.take 1) else if b < a then ds.drop 1 else ds.take 1
  | _,_=>[]
 else []
def pF (aa str:87)(wd:Str)(ds:List DK):(bU aa str wd ds).Sublist ds:=by
 unfold bU
 split
 .split
  .split
   .split
    .exact List.Sublist.refl _
    split
    .exact List.drop_sublist _ _
    exact vx _ _
   split
   .exact List.drop_sublist _ _
   exact vx _ _
  exact List.nil_sublist _
 exact List.nil_sublist _
def vh {aa str:87}{ds:List DK}{d:DK}(h:d∈bU aa str wd ds):ds.length=2:=by
 unfold bU at h
 split at h
 .rename_i e
  have:=congrArg List.length e;rw [aA] at this;exact this
 cases h
def EY (ts:z0p):lG (155) (some 1) none=(ts.drop 1).map V.ref:=by
 unfold lG;rw [show (1:Int)=((1:Nat):Int) from rfl,HT.qm];show List.take ((155).length - min 1 (155).length) (List.drop (min 1 (155).length) (155))=_;cases ts with
 | nil=>rfl
 | cons a r=>simp [List.take_of_length_le]
def EX (ts:z0p):lG (155) none (some 1)=(ts.take 1).map V.ref:=by
 unfold lG;rw [show HT.rA (155).length 0 none=0 from rfl,show (1:Int)=((1:Nat):Int) from rfl,HT.qm,List.drop_zero,Nat.sub_zero,List.map_take,<-List.take_eq_take_min]
section
def CI (K:aU)(Cg:Addr):Sp:=λvs H Q _=>∃(g d c:Addr)(wd:Str)(rs ss ts:z0p)(aa str:87)(kvs:139)(ds:List DK),vs=[.ref g,.ref d,.str wd,.ref c]/\OY H Cg g rs ss/\bu K H rs aa/\bu K H ss str/\325/\H d=184/\Zo str kvs/\H c=222/\Paired (dR K H) ts ds/\(∀x∈ds,VD aa.length x)/\ds.length < 64 /\
 ∀(l:Addr)(us:z0p)(H':Hp),aF H H'->H' l=some (.lst (us.map V.ref))->Paired (dR K H') us (bU aa str wd ds)->Q (.ref l) H'
def ql:aN ["grammar","levels","word","clash","rule_level","word_level","way"] ["grammar","levels","word","clash"] (az AK):=185
def Hh (F:iU K "put_aside" "put_aside" AK f fd)(T:Txt mg)(G:GC K Cg)(GL:aM P w K mg base 1 "level_of_rule" ["levels","rule"] (uA K)):bS P w K mg base fC 2 f fd ["grammar","levels","word","clash"] (CI K Cg):=by
 refine F.ok ql 198 217
 .obtain⟨g,d,c,wd,rs,ss,ts,aa,str,kvs,ds,rfl,_⟩:=h;rfl
 obtain⟨g,d,c,wd,rs,ss,ts,aa,str,kvs,ds,rfl,hg,cU,Bt,h8,hd,lv,hc,N_,vd,hl,q⟩:=h;have hu:=eJ hr;have RJ:=Nat.lt_of_succ_lt hu;refine⟨_,aj (cS (bj (C2 RJ) (bK ["deed"] [] rfl (aV (pv 3)) (bf rfl rfl) nofun rfl nofun
    (λ_ _ _ _ _=>aw (i:=0) (show (["deed"]:z0s).Nodup by decide +kernel) rfl 86) (λ_ _ _ _ _=>cQ) (λ_ _ _ _ _=>aY (qx K) (pv 0) aC 152)) (@bc _ _ _ _ (@af _ _ _ _ _ ba (@af _ _ _ _ _ ba (@aq _) rfl) rfl)) (cv _)) (av (bp (bc aq))) bo)
  (aj (aG (i:=4) ql.nd rfl 86 (bZ GL hr rfl (af (pv 1) (af (aY bW (dH (pv 0) rfl) (aY bR (aY bW (pv 3) aC 152) aC 152) 152) aq))))
  (aj (aG (i:=5) ql.nd rfl 86 (GV hu (pv 1) (pv 2) ⟨rfl,rfl,rfl,rfl⟩))
  (aj (cS (PW.pt (yB (dG (rG (pv 4))) (wU (dG (rG (pv 5)))))) (av (bp (bc aq))) bo)
  (aj (cS (bj G1 (pv 4) (pv 5) (cv _)) (av (bp (ki (bj yG (pv 4) (pv 5) (cv _)) (ik jv (pv 3) (iC aC) k_) (ik jv (pv 3) k_ (iC aC))))) bo)
  (aj (aG (i:=6) ql.nd rfl 86 (aY bR (aY bW (dH (pv 0) rfl) (pv 5) 152) aC 152))
  (aj (cS (bj nP (pv 6) ba (cv _)) (av (bp (pv 3))) bo)
  (av (bp (ki (bj nP (pv 6) ba (cv _)) (ik jv (pv 3) (iC aC) k_) (ik jv (pv 3) k_ (iC aC))))))))))),?_⟩
 dsimp only [lF];have Jk:=a9 N_;have Oa:aJ K H c (155):=aJ.of hc;refine⟨_,rfl,c,rfl,⟨_,Oa⟩,λD hD=>?_⟩;refine bN (xs:=155) (λi ys σ2 H2=>ys=((ds.take i).map 84).map V.str/\(∃y0,σ2=[y0])/\449) ⟨rfl,⟨none,rfl⟩,ag hD _,ae⟩ ?_ ?_ ?_
 .rintro i ys σ2 H2 _ ⟨_,_,s2,_⟩;exact s2.seq Oa
 .rintro i x ys σ2 H2 ex ⟨rfl,⟨y0,rfl⟩,s2,e2⟩;rw [aS] at ex;obtain⟨t,et,rfl⟩:=bQ.mp ex;obtain⟨z,ez,r⟩:=b8 N_ et;have li:=(bw.mp ez).1;have zI:tq ((Ju z).map kV) 0=some (.str z.1):=by obtain⟨z,o⟩:=z;cases o <;> exact aZ (j:=0) rfl
  refine goN (BA ?_);exact⟨_,rfl,t,_,_,_,rfl,rfl,s2.tup r,zI,e2,bF (by rw [aA,aA,dB];omega),by rw [take_snoc ez,bC,bC];rfl,⟨_,rfl⟩,b_ s2 hD,ae⟩
 rintro ys σ2 H2 ⟨rfl,_,s2,e2⟩;rw [aA,Jk,cE] at e2;refine⟨kR,λM hM=>?_⟩;have k3:=ag hM (.lst [V.str "make",V.str "step"]);have eM:upd H2 M (.lst [V.str "make",V.str "step"]) M=some (.lst ((["make","step"]:z0s).map V.str)):=ae;generalize upd H2 M (.lst [V.str "make",V.str "step"])=H3 at k3 eM;have s3:=s2.trans k3;refine⟨D,M,_,_,rfl,rfl,aJ.of (k3 _ _ e2),aJ.of eM,?_,rfl,_,rfl,?_⟩
 .rw [gb];intro v hv;obtain⟨z,_,rfl⟩:=bD.mp hv;rfl
 rw [sG];have none_:∀H4,aF H H4->bU aa str wd ds=[]->∀p,H4 p=none->Q (.ref p) (upd H4 p 142):=λH4 s4 e p hp=>q p [] _ (s4.trans (ag hp _)) ae (by rw [e];exact .nil);refine dj (λcc=>?_) (λcc=>?_)
 .have ne:¬ds.map (λd=>d.1)=mF:=by simpa [mF] using cc
  exact⟨qi,none_ H3 s3 (by unfold bU;rw [ar ne])⟩
 have eq:ds.map (λd=>d.1)=mF:=by simpa [mF] using cc
 obtain⟨d0,d1,rfl⟩:∃d0 d1,ds=[d0,d1]:=by
  match ds,eq with
  | [a,b],_=>exact⟨a,b,rfl⟩
  | [],h=>cases h
  | [_],h=>simp [mF] at h
  | _::_::_::_,h=>simp [mF] at h
 obtain⟨t0,t1,rfl⟩:∃t0 t1,ts=[t0,t1]:=by
  match ts,Jk with
  | [a,b],_=>exact⟨a,b,rfl⟩
  | [],h=>cases h
  | [_],h=>simp at h
  | _::_::_::_,h=>simp at h
 have e0:d0.1 = "make" := by simp [mF] at eq;exact eq.1
 obtain⟨k,ek,lk⟩:=vd d0 88;have lk:=lk e0;cases N_ with
 | cons r0 r1 =>
 cases r1 with
 | cons r1 _ =>
 obtain⟨gx,fs,R2,S2,g1,g2,g3,g4,g5⟩:=hg;have ll:=a9 cU;obtain⟨ra,era⟩:∃ra,rs[k]?=some ra:=⟨rs[k]'∅,dA ∅⟩;obtain⟨ru,Js,vru⟩:=cU.get era;have P5:tq ((Ju d0).map kV) 1=some (.int (k:Int)):=by
  obtain⟨z,o⟩:=d0;cases ek;exact aZ (j:=1) rfl
 have c3:aJ K H3 c ([t0,t1].map V.ref):=s3.seq Oa;refine⟨_,rfl,_,rfl,g,Cg,gx,fs,_,rfl,s3 _ _ g1,G.cls,G.a1,g2,_,rfl,c,_,_,_,rfl,rfl,c3,aZ (j:=0) rfl,t0,_,_,_,rfl,rfl,s3.tup r0,P5,R2,_,_,_,rfl,rfl,aJ.of (s3 _ _ g4),aZ (by rw [aS,era];rfl),?_⟩;have Jp:=h8 ru (bE Js);refine⟨d,ra,kvs,str,ru,rfl,s3 _ _ hd,lv,(let ⟨p,a,b⟩:=vru;⟨p,s3.tup a,s3.tup b⟩),Jp,λH4 s4=>?_⟩;have nH:=s3.trans s4;have LY:cb H4 d (.str wd) ((lvl str wd).map λn=>V.int (n:Int)):=by
  have:=cb.k (k:=Sum.inr wd) (nH _ _ hd);rw [lv] at this;exact this
 have eo:(((lvl str wd).map λn=>V.int (n:Int)).getD .dY)=rM (lvl str wd):=by cases lvl str wd <;> rfl
 refine⟨_,rfl,d,rfl,.inl ⟨_,.inl (nH _ _ hd)⟩,_,rfl,_,LY,?_⟩;rw [eo];have er:(aa[JR d0]?.map λru:aB=>ru.2).getD []=ru.2:=by
  have:JR d0=k:=by unfold JR;rw [ek];simp
  rw [this,Js];rfl
 have ea:bU aa str wd [d0,d1]=match wN str ru.2,lvl str wd with
   | some a,some b=>if a=b then (if (str[b]?.map λru:aB=>ru.1).getD ""="none" then [d0,d1] else if (str[b]?.map λru:aB=>ru.1).getD ""="left" then [d1] else [d0]) else if b < a then [d1] else [d0]
   | _,_=>[]:=by
  unfold bU;rw [au eq];show (match wN str ((aa[JR d0]?.map λru:aB=>ru.2).getD []),lvl str wd with | some a,some b=>_ | _,_=>_)=_
  rw [er];rfl
 cases e1:wN str ru.2 with
 | none =>
  rw [e1] at ea;exact⟨_,rfl,_,rfl,tZ (tZ ⟨qi,none_ H4 nH ea⟩)⟩
 | some a =>
 cases e2:lvl str wd with
 | none =>
  rw [e1,e2] at ea;exact⟨_,rfl,_,rfl,iP ⟨_,rfl,_,rfl,tZ ⟨qi,none_ H4 nH ea⟩⟩⟩
 | some b =>
 rw [e1,e2] at ea;dsimp only at ea;refine⟨_,rfl,_,rfl,iP ⟨_,rfl,_,rfl,iP ?_⟩⟩;have c4:aJ K H4 c ([t0,t1].map V.ref):=nH.seq Oa;have Ml:∀{H5:Hp},aF H H5->bU aa str wd [d0,d1]=[d1]->∀l,H5 l=none->Q (.ref l) (upd H5 l (.lst (lG ([t0,t1].map V.ref) (some 1) none))):=λs5 e l hl=>by
  rw [EY];refine q l [t1] _ (s5.trans (ag hl _)) ae ?_;rw [e];exact .cons ((s5.trans (ag hl _)).tup r1) .nil
 have Lm:∀{H5:Hp},aF H H5->bU aa str wd [d0,d1]=[d0]->∀l,H5 l=none->Q (.ref l) (upd H5 l (.lst (lG ([t0,t1].map V.ref) none (some 1)))):=λs5 e l hl=>by
  rw [EX];refine q l [t0] _ (s5.trans (ag hl _)) ae ?_;rw [e];exact .cons ((s5.trans (ag hl _)).tup r0) .nil
 refine⟨_,rfl,_,rfl,rfl,_,rfl,dj (λc1=>?_) (λc1=>?_)⟩
 .have Wu:¬a=b:=λz=>by subst z;simp [rM] at c1
  rw [ar Wu] at ea;refine⟨_,rfl,_,rfl,_,_,rfl,rfl,_,rfl,dj (λc2=>?_) (λc2=>?_)⟩
  .have lt:b < a:=by have:=dC c2;omega
   rw [au lt] at ea;exact⟨_,rfl,_,rfl,c,_,rfl,c4,Ml nH ea⟩
  have lt:¬b < a:=λz=>c2 (cZ ∅);rw [ar lt] at ea;exact⟨_,rfl,_,rfl,c,_,rfl,c4,Lm nH ea⟩
 have ab:a=b:=pL λz=>c1 (by simp [rM];omega);subst ab;rw [au rfl] at ea;have lb:a < str.length:=Bh e2;have Pk:=a9 Bt;obtain⟨sa,Iw⟩:∃sa,ss[a]?=some sa:=⟨ss[a]'∅,dA ∅⟩;obtain⟨JC,U1,p,v1,v2⟩:=Bt.get Iw;rw [show (str[a]?.map λru:aB=>ru.1).getD ""=JC.1 by rw [U1];rfl] at ea;refine⟨_,rfl,g,Cg,gx,fs,_,rfl,nH _ _ g1,G.cls,G.a2,g3,_,rfl,S2,_,_,_,rfl,rfl,aJ.of (nH _ _ g5),aZ (by rw [aS,Iw];rfl),sa,_,_,_,rfl,rfl,nH.tup v1,aZ (j:=0) rfl,?_⟩;refine⟨_,rfl,rfl,_,rfl,dj (λc2=>?_) (λc2=>?_)⟩
 .have e:JC.1 = "none" := by have:=dC c2;injection this
  rw [au e] at ea;exact⟨_,rfl,q c [t0,t1] H4 nH (nH _ _ hc) (by rw [ea];exact .cons (nH.tup r0) (.cons (nH.tup r1) .nil))⟩
 have e:¬JC.1 = "none" := λz=>c2 (cZ (by rw [z]));rw [ar e] at ea;refine⟨_,rfl,rfl,_,rfl,dj (λc3=>?_) (λc3=>?_)⟩
 .have e:JC.1 = "left" := by have:=dC c3;injection this
  rw [au e] at ea;exact⟨_,rfl,_,rfl,c,_,rfl,c4,Ml nH ea⟩
 have e:¬JC.1 = "left" := λz=>c3 (cZ (by rw [z]));rw [ar e] at ea;exact⟨_,rfl,_,rfl,c,_,rfl,c4,Lm nH ea⟩
end
def Fy (aa str:87)(c:Cl):List D3:=(bU aa str c.1.2 c.2).map λd=>(c.1.1,c.1.2,d)
def ye (aa str:87)(cs:List Cl):List D3:=cs.flatMap (Fy aa str)
def putAll (ks:List D3)(xs:List D3):List D3:=ks.foldl (λa k=>if k∈a then a else a++[k]) xs
theorem mH (k:D3):∀(ks xs:List D3),k∈putAll ks xs↔k∈xs\/k∈ks
 | [],xs=>by simp [putAll]
 | a::ks,xs=>by
  show k∈putAll ks (if a∈xs then xs else xs++[a])↔_;rw [mH k ks];by_cases c:a∈xs
  .rw [au c,aX];exact⟨λh=>h.elim .inl λh=>.inr (.inr h),λh=>h.elim .inl λh=>h.elim (λe=>.inl (e ▸ c)) .inr⟩
  rw [ar c,cD,bA,aX,or_assoc]
theorem oX:∀(ks xs:List D3),xs.Nodup->(putAll ks xs).Nodup
 | [],xs,h=>h
 | a::ks,xs,h=>by
  show (putAll ks (if a∈xs then xs else xs++[a])).Nodup;apply oX;by_cases c:a∈xs
  .rw [au c];exact h
  rw [ar c,fM];refine⟨h,by simp,λx hx y hy=>?_⟩;rw [bA.mp hy];rintro rfl;exact c hx
def DW (xs:List E3)(k:D3)(b:Addr):(put3 xs k b).map 84=if k∈xs.map 84 then xs.map 84 else xs.map 84++[k]:=by
 unfold put3;by_cases c:k∈xs.map 84
 .rw [au c,au c]
 rw [ar c,ar c,bC];rfl
def Kx (x:Addr)(H H':Hp):Prop:=∀b o,b≠x->H b=85->H' b=85
def Kx.refl (x:Addr)(H:Hp):Kx x H H:=λ_ _ _ h=>h
def Kx.trans {x:Addr}(a:Kx x H H1)(b:Kx x H1 H2):Kx x H H2:=λc o n h=>b c o n (a c o n h)
def Kx.same {x:Addr}(a:Kx x H H1)(b:aF H1 H2):Kx x H H2:=λc o n h=>b c o (a c o n h)
theorem Kx.upd {x:Addr}{o:HO}(a:Kx x H H1):Kx x H (upd H1 x o):=λc u n h=>by rw [ai n];exact a c u n h
def Kx.tup {P:Program}{w:World}{K:aU}{x t:Addr}{H H':Hp}{xs:List V}{es:List E3}(k:Kx x H H')(e:H x=some (vi P w x es))(h:aQ K H t xs):aQ K H' t xs:=by
 rcases h with (h | ⟨u,h⟩) | h
 .exact .inl (.inl (k _ _ (λz=>by rw [z,e] at h;cases h) h))
 .exact .inl (.inr ⟨u,k _ _ (λz=>by rw [z,e] at h;cases h) h⟩)
 exact .inr h
def Kx.d3 {K:aU}{x t:Addr}{es:List E3}(k:Kx x H H')(e:H x=some (vi P w x es))(h:cJ K H t z):cJ K H' t z:=let ⟨b,h1,h2⟩:=h;⟨b,k.tup e h1,k.tup e h2⟩
def wC {x:Addr}(s:aF H H1)(n:H x=none)(k:Kx x H1 H2):aF H H2:=λc o h=>k c o (λz=>by rw [z,n] at h;cases h) (s c o h)
def putAll_snoc (ks xs:List D3)(k:D3):putAll (ks++[k]) xs=if k∈putAll ks xs then putAll ks xs else putAll ks xs++[k]:=by
 unfold putAll;rw [vw];rfl
def AS (ks ls xs:List D3):putAll (ks++ls) xs=putAll ls (putAll ks xs):=by
 unfold putAll;rw [vw]
def Dy (aa str:87)(c:Cl):(Fy aa str c).length<=2:=by
 unfold Fy;rw [aA];cases h:bU aa str c.1.2 c.2 with
 | nil=>simp
 | cons d r =>
  have h1:=vh (aa:=aa) (str:=str) (wd:=c.1.2) (ds:=c.2) (d:=d) (by rw [h];exact bP);have h2:=(pF aa str c.1.2 c.2).length_le;rw [h] at h2;omega
def La {aa str:87}{zs:List D3}{k:D3}(h:k∈ye aa str (iS zs)):k∈zs:=by
 obtain⟨c,hc,hk⟩:=jO.mp h;obtain⟨d,hd,rfl⟩:=bD.mp hk;obtain⟨p,_,rfl⟩:=bD.mp (d6.mp hc).1;have hd2:=(pF aa str p.2 (cx zs p)).subset hd;obtain⟨z,hz,e⟩:=bD.mp hd2;obtain⟨hz1,Po⟩:=d6.mp hz;have e2:keyOf z=p:=by simpa using Po
 rw [<-e,<-e2];exact hz1
def K5 {zs:List D3}(vd:∀z∈zs,VD n z.2.2){c:Cl}(hc:c∈iS zs):∀d∈c.2,VD n d:=λd hd=>by
 obtain⟨p,_,rfl⟩:=bD.mp (d6.mp hc).1;obtain⟨z,hz,e⟩:=bD.mp hd;rw [<-e];exact vd z (d6.mp hz).1
def IL {zs:List D3}{c:Cl}(hc:c∈iS zs):c.2.length<=zs.length:=by
 obtain⟨p,_,rfl⟩:=bD.mp (d6.mp hc).1;exact lB zs p
def IM (zs:List D3):(iS zs).length<=zs.length:=by
 have h1:(iS zs).length<=((cy zs zs.length).map λp=>(p,cx zs p)).length:=iz _ _;rw [aA] at h1;exact dU h1 (i6 _ _)
section
def Lr (K:aU)(Cg:Addr):Sp:=λvs H Q _=>∃(g a:Addr)(rs ss ts:z0p)(aa str:87)(zs:List D3),vs=[.ref g,.ref a]/\OY H Cg g rs ss/\bu K H rs aa/\bu K H ss str/\325/\str.length<=8/\(∀ru∈str,ru.2.length<=8)/\aJ K H a (155)/\Paired (cJ K H) ts zs/\zs.length < 64/\uk yU zs/\zs.Nodup/\(∀z∈zs,VD aa.length z.2.2) /\
 ∀(t l1 l2:Addr)(us TY:z0p)(as:List D3)(H':Hp),aF H H'->H t=none->H l1=none->H' t=some (.tup [.ref l1,.ref l2])->H' l1=some (.lst (us.map V.ref))->H' l2=some (.lst (TY.map V.ref))->Paired (cJ K H') us (zs.filter λz=>!decide (z∈ye aa str (iS zs)))->Paired (cJ K H') TY as->uk yU as->as.Perm (putAll (ye aa str (iS zs)) [])->Q (.ref t) H'
def ro:aN ["grammar","deeds","levels","aside","room","word","clash","deed"] ["grammar","deeds"] (az Ga):=185
def Nt (F:iU K "put_right" "put_right" Ga f fd)(T:Txt mg)(G:GC K Cg)(c_:mg "sorted"=none)(v8:mg "set"=none)(GL:aM P w K mg base 2 "levels_of" ["strengths"] (yr K))(Qc:aM P w K mg base 2 "clashes_of" ["deeds"] (CG K))(GA:aM P w K mg base 2 "put_aside" ["grammar","levels","word","clash"] (CI K Cg)):bS P w K mg base fC 3 f fd ["grammar","deeds"] (Lr K Cg):=by
 refine F.ok ro 198 217
 .obtain⟨g,a,rs,ss,ts,aa,str,zs,rfl,_⟩:=h;rfl
 obtain⟨g,a,rs,ss,ts,aa,str,zs,rfl,hg,cU,Bt,h8,sl,s8,hS,hzs,lz,tN,nd,vd,q⟩:=h;have hu:=eJ hr;have HP:(A.deeper (PyProof.Rows.envOfC ("put_right":Str) (az Ga) s.heap.objs.size f dP)).units+20 < cLine:=iu ∅ hr.un;have LV:(A.deeper (PyProof.Rows.envOfC ("put_right":Str) (az Ga) s.heap.objs.size f dP)).units+8 < cLine:=iu ∅ hr.un;refine⟨_,aj (aG (i:=2) ro.nd rfl 86 (bZ GL hr rfl (af (dH (pv 0) rfl) aq)))
  (aj (aG (i:=3) ro.nd rfl (Or.inr rfl) GQ)
  (aj (bJ cq rfl (aV (bZ Qc hr rfl (af (pv 1) aq))) (dZ rfl (aE (aw (i:=4) ro.nd rfl 86) (aE (aw (i:=5) ro.nd rfl 86) (aE (aw (i:=6) ro.nd rfl 86) bV))))
   (av (bJ cq rfl (aV (bZ GA hr rfl (af (pv 0) (af (pv 2) (af (pv 5) (af (pv 6) aq)))))) (aw (i:=7) ro.nd rfl 86)
    (av (Gs LV (pv 3) (bq (af (pv 4) (af (pv 5) (af (pv 7) aq)))) gQ rfl)))))
  (av (bp (bq (af (bK ["deed"] [(3,"aside")] rfl (aV (iO rfl HP rfl c_ rfl v8 (pv 1))) (bf rfl rfl) nofun rfl nofun
    (λ_ _ _ _ _=>aw (i:=0) (show (["deed","aside"]:z0s).Nodup by decide +kernel) rfl 86) (λ_ _ _ _ _=>eA (bj (AY (P:=P) (w:=w) (K:=K) rfl rfl rfl LV) (pv 0) (pv 1) rfl)) (λ_ _ _ _ _=>pv 0))
   (af (bL (BZ rfl LV) rfl c_ Aa (af (pv 3) aq)) aq))))))),?_⟩
 dsimp only [lF];show wk _ _ _ _ _;obtain⟨gx,fs,R2,S2,g1,g2,g3,g4,g5⟩:=id hg;refine⟨_,rfl,g,Cg,gx,fs,_,rfl,g1,G.cls,G.a2,g3,S2,ss,str,rfl,aJ.of g5,Bt,sl,s8,λd kvs H1 s1 xD e1 lv=>?_⟩;intro x hx;change H1 x=none at hx;have k2:=ag hx (vi P w x []);have e2:upd H1 x (vi P w x []) x=some (vi P w x []):=ae;show wk _ _ _ _ (upd H1 x (vi P w x []));generalize upd H1 x (vi P w x [])=H2 at k2 e2;have s2:=s1.trans k2;have fx:H x=none:=s1.free hx;refine⟨_,rfl,a,ts,zs,rfl,s2.seq hS,aD (λ_ _ h=>(let ⟨b,h1,h2⟩:=h;⟨b,s2.tup h1,s2.tup h2⟩)) hzs,lz,λcf l us H3 pm3 VM s3 f3 e3 p3=>?_⟩;have ez:=rL tN nd pm3 VM;subst ez;have ya:=s2.trans s3;have PN:=s3 _ _ e2;have Up:=a9 p3;have fw:=IM cf;have nlx:l≠x:=λz=>by rw [z,PN] at e3;cases e3
 have YQ:=s3 _ _ (k2 _ _ e1);have Wo:d≠x:=λz=>by rw [z,PN] at YQ;cases YQ
 have gh3:∀{H4:Hp},Kx x H3 H4->OY H4 Cg g rs ss:=λk=>(hg.same (wC ya fx k));refine⟨l,rfl,⟨_,aJ.of e3⟩,?_⟩;refine cO (xs:=us.map V.ref) (λi σ H4=>∃(xs:List E3)(y4 y5 y6 y7:149),σ=[a7 g,a7 a,a7 d,a7 x,y4,y5,y6,y7]/\Kx x H3 H4/\H4 x=some (vi P w x xs)/\(∀e∈xs,cJ K H4 e.2 e.1)/\xs.map 84=putAll (ye aa str ((iS cf).take i)) []/\xs.length<=2 * i)
  ⟨[],none,none,none,none,rfl,Kx.refl _ _,PN,λe he=>(by cases he),rfl,cY _⟩ ?_ ?_ ?_
 .rintro i σ H4 _ ⟨xs,y4,y5,y6,y7,rfl,k4,_⟩;exact aJ.of (k4 _ _ nlx e3)
 .rintro i v σ H4 ev ⟨xs,y4,y5,y6,y7,rfl,k4,Yn,P2,Pl,lx4⟩;have li0:=(bw.mp ev).1;rw [aA] at li0;rw [aS] at ev;obtain⟨t,et,rfl⟩:=bQ.mp ev;obtain⟨c,ec,b,ds,nb,h1,h2,h3,h4⟩:=b8 p3 et;have hcm:=bE ec;have ntx:t≠x:=λz=>by rw [z,PN] at h1;cases h1
  have nbx:b≠x:=λz=>by rw [z,PN] at h2;cases h2
  have nH:=wC ya fx k4;have Lw:aF H H4:=nH;refine⟨t,_,rfl,aQ.of (k4 _ _ ntx h1),rfl,_,_,rfl,_,_,rfl,_,_,rfl,rfl,?_⟩;have dsR:Paired (dR K H4) ds c.2:=aD (λ_ _ r=>k4.tup PN (s3.tup r)) h3;refine⟨_,rfl,_,rfl,_,rfl,_,rfl,g,d,b,c.1.2,rs,ss,ds,aa,str,kvs,c.2,rfl,gh3 k4,cU.same nH,Bt.same nH,h8,k4 _ _ Wo YQ,lv,k4 _ _ nbx h2,dsR,K5 vd hcm,iu (IL hcm) lz,λl6 us6 H6 s6 e6 p6=>?_⟩;have k6:=k4.same s6;have SA:=s6 _ _ Yn;have nl6:l6≠x:=λz=>by rw [z,SA] at e6;cases e6
  have l6':=a9 p6;have la:(bU aa str c.1.2 c.2).length<=2:=by have:=Dy aa str c;unfold Fy at this;rw [aA] at this;exact this
  refine⟨l6,rfl,⟨_,aJ.of e6⟩,?_⟩;refine cO (xs:=us6.map V.ref) (λj σ H7=>∃(xs:List E3)(y7:149),σ=[a7 g,a7 a,a7 d,a7 x,some (.int c.1.1),some (.str c.1.2),a7 b,y7]/\Kx x H6 H7/\H7 x=some (vi P w x xs)/\(∀e∈xs,cJ K H7 e.2 e.1)/\xs.map 84=putAll ((Fy aa str c).take j) (putAll (ye aa str ((iS cf).take i)) [])/\xs.length<=2 * i+j)
   ⟨xs,_,rfl,Kx.refl _ _,SA,λe he=>(let ⟨b,q1,q2⟩:=P2 e he;⟨b,s6.tup q1,s6.tup q2⟩),Pl,lx4⟩ ?_ ?_ ?_
  .rintro j σ H7 _ ⟨xs,y7,rfl,k7,_⟩;exact aJ.of (k7 _ _ nl6 e6)
  .rintro j v σ H7 ev ⟨xs,y7,rfl,k7,Ym,YK,Us,lx7⟩;rw [aS] at ev;obtain⟨t7,PQ,rfl⟩:=bQ.mp ev;obtain⟨dk,SU,r7⟩:=b8 p6 PQ;have lj:=(bw.mp SU).1;refine⟨_,rfl,_,rfl,_,rfl,_,rfl,O1,λu LV=>?_⟩;have k8:=ag LV (.tup [V.int c.1.1,V.str c.1.2,V.ref t7]);have e8:aQ K (upd H7 u (.tup [V.int c.1.1,V.str c.1.2,V.ref t7])) u [V.int c.1.1,V.str c.1.2,V.ref t7]:=aQ.of ae;generalize upd H7 u (.tup [V.int c.1.1,V.str c.1.2,V.ref t7])=H8 at k8 e8;have UY:=k8 _ _ Ym;have nw:cJ K H8 u (c.1.1,c.1.2,dk):=⟨t7,e8,k8.tup (k7.tup SA r7)⟩;have ol:∀e∈xs,cJ K H8 e.2 e.1:=λe he=>(let ⟨b,q1,q2⟩:=YK e he;⟨b,k8.tup q1,k8.tup q2⟩);have ak:(Fy aa str c)[j]?=some (c.1.1,c.1.2,dk):=by unfold Fy;rw [aS,SU];rfl
   refine .mk x u xs (c.1.1,c.1.2,dk) UY ol nw ∅ ?_;have k9:Kx x H8 (upd H8 x (vi P w x (put3 xs (c.1.1,c.1.2,dk) u))):=(Kx.refl x H8).upd;refine⟨put3 xs (c.1.1,c.1.2,dk) u,_,rfl,(k7.same k8).trans k9,ae,λe he=>?_,?_,?_⟩
   .unfold put3 at he
    split at he
    .exact k9.d3 UY (ol e he)
    rcases cD.mp he with h | h
    .exact k9.d3 UY (ol e h)
    rw [bA.mp h];exact k9.d3 UY nw
   .rw [DW,Us,take_snoc ak,putAll_snoc]
   unfold put3
   split
   .omega
   rw [bH,lO];omega
  rintro σ H7 ⟨xs,y7,rfl,k7,Ym,YK,Us,lx7⟩;rw [aA,l6'] at Us lx7;refine⟨xs,_,_,_,_,rfl,k6.trans k7,Ym,YK,?_,∅⟩;rw [Us,show (Fy aa str c).take (bU aa str c.1.2 c.2).length=Fy aa str c by unfold Fy;rw [<-aA (f:=λd=>(c.1.1,c.1.2,d)),cE],take_snoc ec];unfold ye;rw [oM,AS];simp
 rintro σ H4 ⟨xs,y4,y5,y6,y7,rfl,k4,Yn,P2,Pl,lx4⟩;rw [aA,Up,cE] at Pl;have nH:=wC ya fx k4;have W5:Paired (cJ K H4) ts cf:=aD (λ_ _ h=>(let ⟨b,h1,h2⟩:=h;⟨b,nH.tup h1,nH.tup h2⟩)) hzs;have mk:∀z,z∈xs.map 84↔z∈ye aa str (iS cf):=λz=>by rw [Pl,mH];simp
 have lx:xs.length < 64:=by
  have Ek:(xs.map 84).Nodup:=by rw [Pl];exact oX _ _ .nil
  have:=List.Nodup.length_le_of_subset Ek (λz hz=>La ((mk z).mp hz));rw [aA] at this;omega
 refine⟨_,rfl,.mk a ts cf (nH.seq hS) W5 lz λl5 O3 FH hl5 p5 pm5 VL=>?_⟩;have ez5:=rL tN nd pm5 VL;subst ez5;have k5:=ag hl5 (.lst (O3.map V.ref));have e5:upd H4 l5 (.lst (O3.map V.ref)) l5=some (.lst (O3.map V.ref)):=ae;generalize upd H4 l5 (.lst (O3.map V.ref))=H5 at k5 e5;have l5':=a9 p5;have p55:Paired (cJ K H5) O3 FH:=aD (λ_ _ h=>(let ⟨b,h1,h2⟩:=h;⟨b,k5.tup h1,k5.tup h2⟩)) p5;have ex5:=k5 _ _ Yn;refine⟨l5,rfl,⟨_,aJ.of e5⟩,λD hD=>?_⟩;refine bN (xs:=O3.map V.ref) (λi ys σ6 H6=>∃(us:z0p)(y0:149),ys=us.map V.ref/\σ6=[y0,a7 x]/\aF H5 H6/\H6 D=some (.lst ys)/\Paired (cJ K H5) us ((FH.take i).filter λz=>!decide (z∈ye aa str (iS FH))))
  ⟨[],none,rfl,rfl,ag hD _,ae,.nil⟩ ?_ ?_ ?_
 .rintro i ys σ6 H6 _ ⟨us,y0,rfl,rfl,s6,_⟩;exact aJ.of (s6 _ _ e5)
 .rintro i v ys σ6 H6 ev ⟨us,y0,rfl,rfl,s6,e6,p6⟩;rw [aS] at ev;obtain⟨t,et,rfl⟩:=bQ.mp ev;obtain⟨z,ez,hz⟩:=b8 p55 et;have li:=(bw.mp ez).1;have up:∀{t:Addr}{z:D3},cJ K H5 t z->cJ K H6 t z:=λh=>(let ⟨b,h1,h2⟩:=h;⟨b,s6.tup h1,s6.tup h2⟩);have l6:=a9 p6;have l7:((FH.take i).filter λz=>!decide (z∈ye aa str (iS FH))).length<=i:=dU (iz _ _) (by rw [dB];omega);refine goN ?_;refine⟨_,rfl,_,rfl,.mk x t xs z (s6 _ _ ex5) (λe he=>up (let ⟨b,h1,h2⟩:=P2 e he;⟨b,k5.tup h1,k5.tup h2⟩)) (up hz) ⟨_,rfl,?_⟩⟩;have dm:decide (z∈xs.map 84)=decide (z∈ye aa str (iS FH)):=by rw [hV,decide_eq_true_iff,decide_eq_true_iff];exact mk z
  have tk:(FH.take (i+1)).filter (λz=>!decide (z∈ye aa str (iS FH)))=(FH.take i).filter (λz=>!decide (z∈ye aa str (iS FH)))++(if (!decide (z∈ye aa str (iS FH)))=true then [z] else []):=by
   rw [take_snoc ez,jR,qM,qI]
  rw [dm];refine dj (λc=>?_) (λc=>?_)
  .rw [au c] at tk;refine⟨_,rfl,e6,220,us++[t],_,by rw [bC];rfl,rfl,b_ s6 hD,ae,by rw [tk];exact cw hz p6⟩
  rw [ar c,fq] at tk;exact⟨us,_,rfl,rfl,s6,e6,by rw [tk];exact p6⟩
 rintro ys σ6 H6 ⟨us,y0,rfl,rfl,s6,e6,p6⟩;rw [aA,l5',cE] at p6;have JN:=(nH.trans k5).trans s6;have SA:=s6 _ _ ex5;refine⟨_,rfl,x,xs,rfl,SA,λe he=>(let ⟨b,h1,h2⟩:=P2 e he;⟨b,(k5.trans s6).tup h1,(k5.trans s6).tup h2⟩),lx,λl7 Jh as XC p7 Z4 VJ=>?_⟩;have k7:=ag XC (.lst (Jh.map V.ref));have e7:upd H6 l7 (.lst (Jh.map V.ref)) l7=some (.lst (Jh.map V.ref)):=ae;generalize upd H6 l7 (.lst (Jh.map V.ref))=H7 at k7 e7;refine⟨kR,λt8 Uy=>?_⟩;have k8:=ag Uy (.tup [V.ref D,V.ref l7]);have Ua:=(JN.trans k7).trans k8;have ZI:∀{H':Hp}{t:Addr}{z:D3},aF H' (upd H7 t8 (.tup [V.ref D,V.ref l7]))->cJ K H' t z->cJ K (upd H7 t8 (.tup [V.ref D,V.ref l7])) t z:=λs h=>(let ⟨b,h1,h2⟩:=h;⟨b,s.tup h1,s.tup h2⟩);exact q t8 D l7 us Jh as _ Ua ((JN.trans k7).free Uy) ((nH.trans k5).free hD) ae ((k7.trans k8) _ _ e6) (k8 _ _ e7) (aD (λ_ _ h=>ZI ((s6.trans k7).trans k8) h) p6) (aD (λ_ _ h=>ZI (k7.trans k8) h) p7) VJ (by rw [Pl] at Z4;exact Z4)
end
def V3:z0s:=["e","p","q","r"]
def Y9 (x:Int):∃p:Str,p∈V3/\tq [V.str "e",V.str "p",V.str "q",V.str "r"] (x % 4)=some (.str p):=by
 have:x % 4=0\/x % 4=1\/x % 4=2\/x % 4=3:=by omega
 rcases this with e | e | e | e <;> rw [e]
 .exact⟨"e",nofun,rfl⟩
 .exact⟨"p",nofun,rfl⟩
 .exact⟨"q",nofun,rfl⟩
 exact⟨"r",nofun,rfl⟩
def Za {j:Nat}(h:j < 3):∃v:Int,0 < v/\v < 1073741824/\tq [V.int 1,V.int 4,V.int 16] ((0:Int)+(j:Int))=some (.int v):=by
 match j,h with
 | 0,_=>exact⟨1,nofun,nofun,rfl⟩
 | 1,_=>exact⟨4,nofun,nofun,rfl⟩
 | 2,_=>exact⟨16,nofun,nofun,rfl⟩
structure RR (rest:87):Prop where
 ok:∀ru∈rest,ru.1 = "e" /\ 2<=ru.2.length/\ru.2.length<=3/\∀p∈ru.2,p∈V3
def iN:aB:=("e",["n"])
section
def Ar (K:aU):Sp:=λvs H Q _=>∃(a:Addr)(ns:z0t) (k:Nat),vs=[.ref a,.int (k:Int)]/\aJ K H a (ns.map V.int)/\ns.length<=1000/\∀n:Int,Q (.int n) H
def M3:aN ["_law_script","_law_k"] ["_law_script","_law_k"] (az Gg):=185
def Ke (F:iU K "_law_cell_at" "_law_cell_at" Gg f fd)(T:Txt mg):bS P w K mg base fC 1 f fd ["_law_script","_law_k"] (Ar K):=by
 refine F.ok M3 198 217
 .obtain⟨a,ns,k,rfl,_⟩:=h;rfl
 obtain⟨a,ns,k,rfl,hS,hn,q⟩:=h;refine⟨_,aj (cS (bj uK (pv 1) (bL bX rfl T.len hU (af (pv 0) aq)) (cv _)) (av (bp (aY bW (pv 0) (pv 1) 152))) bo) (av (bp aC)),?_⟩;refine⟨_,rfl,_,rfl,a,_,rfl,.inl hS,_,_,rfl,rfl,_,rfl,?_⟩;refine dj (λcc=>?_) (λ_=>q 0);have lt:=dC cc;rw [aA] at lt;have lt':k < ns.length:=by omega
 refine⟨_,rfl,_,rfl,a,_,_,.int ns[k],rfl,rfl,hS,aZ (by rw [aS,dA lt'];rfl),q _⟩
def Cz (K:aU):Sp:=λvs H Q _=>∃(a:Addr)(ns:z0t),vs=[.ref a]/\aJ K H a (ns.map V.int)/\ns.length<=1000/\∀(l:Addr)(rs:z0p)(rest:87)(H':Hp),aF H H'->H l=none->H' l=some 326->bu K H' rs (iN::rest)->RR rest->rest.length=5->Q (.ref l) H'
def jw:aN ["_law_script","_law_rules_here","_law_k","_law_cell","_law_parts","_law_j"] ["_law_script"] (az AE):=185
def G6 (F:iU K "_law_rules" "_law_rules" AE f fd)(T:Txt mg)(Qc:aM P w K mg base 1 "_law_cell_at" ["_law_script","_law_k"] (Ar K)):bS P w K mg base fC 2 f fd ["_law_script"] (Cz K):=by
 refine F.ok jw 198 217
 .obtain⟨a,ns,rfl,_⟩:=h;rfl
 obtain⟨a,ns,rfl,hS,mN,q⟩:=h;refine⟨_,aj (aG (i:=1) jw.nd rfl 86 (@bc _ _ _ _ (@af _ _ _ _ _ (@bq _ _ _ _ _ (@af _ _ _ _ _ ba (@af _ _ _ _ _ (@bq _ _ _ _ _ (@af _ _ _ _ _ ba (@aq _) rfl)) (@aq _) rfl) rfl)) (@aq _) rfl)))
  (aj (bJ cq rfl (g7 rfl T.Gk (af aC aq)) (aw (i:=2) jw.nd rfl 86)
   (aj (aG (i:=3) jw.nd rfl 86 (bZ Qc hr rfl (af (pv 0) (af (cC mE aC (pv 2)) aq))))
   (aj (aG (i:=4) jw.nd rfl 86 (bq aq))
   (aj (bJ cq rfl (g7 rfl T.Gk (af (cC mE aC (cC gA (pv 3) aC)) aq)) (aw (i:=5) jw.nd rfl 86)
    (av (aG (i:=4) jw.nd rfl 86 (cC Ka (pv 4) (bq (@af _ _ _ _ _ (@aY _ _ _ _ _ _ _ bW (@bc _ _ _ _ (@af _ _ _ _ _ ba (@af _ _ _ _ _ ba (@af _ _ _ _ _ ba (@af _ _ _ _ _ ba (@aq _) rfl) rfl) rfl) rfl)) (cC gA (cC fX (cC fX (pv 3) aC) (@aY _ _ _ _ _ _ _ bW (@bc _ _ _ _ (@af _ _ _ _ _ aC (@af _ _ _ _ _ aC (@af _ _ _ _ _ aC (@aq _) rfl) rfl) rfl)) (pv 5) 152)) aC) 152) (@aq _) rfl))))))
   (av (df (il hX jG jH cN (pv 1) (af (bq (af ba (af (pv 4) aq))) aq))))))))
  (av (bp (pv 1)))),?_⟩
 dsimp only [lF];refine⟨DF,λp0 hp0=>⟨kR,λt0 UA=>⟨DF,λL hL=>?_⟩⟩⟩;have k1:=ag hp0 (.tup [V.str "n"]);have v1:aQ K (upd H p0 (.tup [V.str "n"])) p0 [V.str "n"]:=aQ.of ae;generalize upd H p0 (.tup [V.str "n"])=H1 at k1 v1 UA hL;have k2:=ag UA (.tup [V.str "e",V.ref p0]);have v2:aQ K (upd H1 t0 (.tup [V.str "e",V.ref p0])) t0 [V.str "e",V.ref p0]:=aQ.of ae;show wk _ _ _ _ (upd (upd H1 t0 (.tup [V.str "e",V.ref p0])) L (.lst [V.ref t0]));generalize upd H1 t0 (.tup [V.str "e",V.ref p0])=H2 at k2 v2 hL;have k3:=ag hL (.lst [V.ref t0]);have e3:upd H2 L (.lst [V.ref t0]) L=some (.lst ([t0].map V.ref)):=ae;generalize upd H2 L (.lst [V.ref t0])=H3 at k3 e3;have s3:=(k1.trans k2).trans k3;have fL:H L=none:=(k1.trans k2).free hL;have r3:bu K H3 [t0] [iN]:=.cons ⟨p0,k3.tup v2,(k2.trans k3).tup v1⟩ .nil;refine⟨(5:Int),rfl,nofun,nofun,?_⟩;rw [show (5:Int).toNat=5 from rfl];refine g_ (λi σ H4=>∃(rs:z0p)(rest:87)(y2 y3 y4 y5:149),σ=[a7 a,a7 L,y2,y3,y4,y5]/\aF H H4/\H4 L=some 326/\bu K H4 rs (iN::rest)/\RR rest/\rest.length=i) ⟨[t0],[],none,none,none,none,rfl,s3,e3,r3,⟨λru h=>(by cases h)⟩,rfl⟩ ?_ ?_
 .rintro i σ H4 hi ⟨rs,rest,y2,y3,y4,y5,rfl,s4,e4,r4,rr,lr⟩;have Rk:=a9 r4;rw [dW] at Rk;refine goN ?_;refine⟨_,rfl,_,rfl,_,_,rfl,rfl,a,ns,1+i,(by show [V.ref a,V.int ((1:Int)+(204))]=_;rw [Int.zero_add];rfl),s4.seq hS,mN,λc=>?_⟩;refine⟨qi,λq0 UB=>?_⟩;have k5:=ag UB (.tup []);have e5:aQ K (upd H4 q0 (.tup [])) q0 []:=aQ.of ae;show wk _ _ _ _ (upd H4 q0 (.tup []));generalize upd H4 q0 (.tup [])=H5 at k5 e5;obtain⟨n,en,n2,n3⟩:∃n:Nat,(2:Int)+c % 2=(n:Int)/\2<=n/\n<=3:=⟨((2:Int)+c % 2).toNat,∅,∅,∅⟩;refine⟨_,rfl,_,_,rfl,rfl,nofun,_,_,rfl,rfl,_,rfl,by rw [en];omega,by rw [en];omega,?_⟩;rw [en,eQ];refine g_ (λj σ H6=>∃(t:Addr) (ps:z0s)(y5:149),σ=[a7 a,a7 L,some (.int (204)),some (.int c),a7 t,y5]/\aF H4 H6/\aQ K H6 t (ps.map V.str)/\ps.length=j/\∀p∈ps,p∈V3) ⟨q0,[],_,rfl,k5,e5,rfl,λp hp=>(by cases hp)⟩ ?_ ?_
  .rintro j σ H6 hj ⟨t,ps,y5',rfl,s6,ht,hp,LW⟩;refine goN ?_;obtain⟨dv,d1,d2,ed⟩:=Za (j:=j) ∅;obtain⟨pp,xu,epp⟩:=Y9 (c / 2 / dv);refine⟨_,rfl,Vl,λM hM=>?_⟩;have kM:=ag hM (.lst [V.str "e",V.str "p",V.str "q",V.str "r"]);have eM:upd H6 M (.lst [V.str "e",V.str "p",V.str "q",V.str "r"]) M=some (.lst [V.str "e",V.str "p",V.str "q",V.str "r"]):=ae;generalize upd H6 M (.lst [V.str "e",V.str "p",V.str "q",V.str "r"])=H7 at kM eM;refine⟨_,rfl,_,_,rfl,rfl,⟨nofun,nofun⟩,O1,λN hN=>?_⟩;have kN:=ag hN (.lst [V.int 1,V.int 4,V.int 16]);have eN:aJ K (upd H7 N (.lst [V.int 1,V.int 4,V.int 16])) N [V.int 1,V.int 4,V.int 16]:=aJ.of ae;generalize upd H7 N (.lst [V.int 1,V.int 4,V.int 16])=H8 at kN eN;refine⟨_,rfl,N,_,_,_,rfl,rfl,eN,ed,_,_,rfl,rfl,⟨d1,d2⟩,_,_,rfl,rfl,nofun,M,_,_,_,rfl,rfl,aJ.of (kN _ _ eM),epp,DF,λu hu=>?_⟩;have kU:=ag hu (.tup [V.str pp]);have k68:=(kM.trans kN).trans kU;refine⟨t,u,_,_,rfl,rfl,k68.tup ht,aQ.of ae,(by rw [aA,hp];show j+1<=sizeLine;exact fits ∅),λp H' s' e'=>?_⟩;refine⟨p,ps++[pp],_,rfl,s6.trans (k68.trans s'),by rw [bC];exact e',by rw [bH,hp];rfl,λx hx=>?_⟩;rcases cD.mp hx with h | h
   .exact LW x h
   rw [bA.mp h];exact xu
  rintro σ H6 ⟨t,ps,y5',rfl,s6,ht,hp,LW⟩;have e6:=s6 _ _ e4;refine⟨_,rfl,.inl ⟨rfl,_,aJ.of e6⟩,_,rfl,kR,λu hu=>?_⟩;have k7:=ag hu (.tup [V.str "e",V.ref t]);have v7:aQ K (upd H6 u (.tup [V.str "e",V.ref t])) u [V.str "e",V.ref t]:=aQ.of ae;generalize upd H6 u (.tup [V.str "e",V.ref t])=H7 at k7 v7;have e7:=k7 _ _ e6;have up:∀{t:Addr}{xs:List V},aQ K H7 t xs->aQ K (upd H7 L (.lst (156++[V.ref u]))) t xs:=λh=>by
   rcases h with (h | ⟨o,h⟩) | h
   .exact .inl (.inl (by rw [ai (λz=>by rw [z,e7] at h;cases h)];exact h))
   .exact .inl (.inr ⟨o,by rw [ai (λz=>by rw [z,e7] at h;cases h)];exact h⟩)
   exact .inr h
  refine⟨L,_,_,rfl,rfl,e7,220,rs++[u],rest++[(("e",ps):aB)],_,_,_,_,rfl,b_ (s4.trans (s6.trans k7)) fL,by rw [ae,bC];rfl,?_,⟨λru tO=>?_⟩,by rw [bH,lr];rfl⟩
  .rw [<-List.cons_append];exact cw ⟨t,up v7,up (k7.tup ht)⟩ (aD (λ_ _ h=>(let ⟨p,h1,h2⟩:=h;⟨p,up ((s6.trans k7).tup h1),up ((s6.trans k7).tup h2)⟩)) r4)
  rcases cD.mp tO with h | h
  .exact rr.ok ru h
  rw [bA.mp h];exact⟨rfl,by show 2<=ps.length;omega,by show ps.length<=3;omega,LW⟩
 rintro σ H4 ⟨rs,rest,y2,y3,y4,y5,rfl,s4,e4,r4,rr,lr⟩;exact⟨_,rfl,q L rs rest H4 s4 fL e4 r4 rr lr⟩
end
def zp (zs:z0s)(lo hi:z0n):∃ws:z0s,lG (zs.map V.str) lo hi=ws.map V.str/\ws.Sublist zs :=
 ⟨(zs.drop (HT.rA (zs.map V.str).length 0 lo)).take (HT.rA (zs.map V.str).length (zs.map V.str).length hi - HT.rA (zs.map V.str).length 0 lo),by unfold lG;rw [<-List.map_drop,<-List.map_take],(vx _ _).trans (List.drop_sublist _ _)⟩
def FK:z0s:=["left","right","none"]
def Y_ (x:Int):∃p:Str,p∈FK/\tq [V.str "left",V.str "right",V.str "none"] (x % 3)=some (.str p):=by
 have:x % 3=0\/x % 3=1\/x % 3=2:=by omega
 rcases this with e | e | e <;> rw [e]
 .exact⟨"left",nofun,rfl⟩
 .exact⟨"right",nofun,rfl⟩
 exact⟨"none",nofun,rfl⟩
theorem nV (z:Str):∀zs:z0s,RA (V.str z) (zs.map V.str)=decide (z∈zs)
 | []=>by simp [RA]
 | y::ys=>by
  have ih:=nV z ys;unfold RA at ih ⊢;rw [bY,mi,ih];by_cases h:y=z
  .subst h;simp [uY]
  have h':¬z=y:=λe=>h e.symm;simp [uY,h,h']
structure SS (str:87) (rest:z0s):Prop where
 nd:(str.flatMap (·.2)++rest).Nodup
 Iu:rest.length<=6
 ok:∀ru∈str,ru.1∈FK/\ru.2.length<=6
def SS.step {rest ws:z0s}(s:SS str rest)(sub:ws.Sublist rest):SS str (rest.filter λz=>!decide (z∈ws)):=by
 refine⟨?_,dU (iz _ _) s.Iu,s.ok⟩;exact s.nd.sublist (List.Sublist.append_left vF _)
def SS.add {rest ws:z0s}(s:SS str rest)(sub:ws.Sublist rest)(hw:wy∈FK):SS (str++[(wy,ws)]) (rest.filter λz=>!decide (z∈ws)):=by
 have nd:=fM.mp s.nd;refine⟨?_,dU (iz _ _) s.Iu,λru tO=>?_⟩
 .rw [oM];show (str.flatMap (λru:aB=>ru.2)++(ws++[])++_).Nodup;rw [fq,lK,fM];refine⟨nd.1,?_,λa ha b hb=>nd.2.2 a ha b ?_⟩
  .rw [fM];refine⟨nd.2.1.sublist sub,nd.2.1.sublist vF,λa ha b hb e=>?_⟩;subst e;have:=(d6.mp hb).2;simp [ha] at this
  rcases cD.mp hb with h | h
  .exact sub.subset h
  exact(d6.mp h).1
 rcases cD.mp tO with h | h
 .exact s.ok ru h
 rw [bA.mp h];exact⟨hw,dU sub.length_le s.Iu⟩
section
def tX {X:Cx}(K:aU)(hK:X.K=K:=by rfl):oj X (compareOp .NotIn) (Ud K true):=by
 subst hK;exact wX
def Lp (K:aU):Sp:=λvs H Q _=>∃(c:Int),vs=[.int c]/\∀(l:Addr)(ss:z0p)(str:87) (rest:z0s)(H':Hp),aF H H'->H l=none->H' l=some (.lst (ss.map V.ref))->bu K H' ss str->SS str rest->str.length<=4->Q (.ref l) H'
def lU:aN ["_law_cell","_law_strengths_here","_law_rest","_law_k","_law_many","_law_words"] ["_law_cell"] (az M6):=185
def Nq (F:iU K "_law_strengths" "_law_strengths" M6 f fd)(T:Txt mg):bS P w K mg base fC 1 f fd ["_law_cell"] (Lp K):=by
 refine F.ok lU 198 217
 .obtain⟨c,rfl,_⟩:=h;rfl
 obtain⟨c,rfl,q⟩:=h;have RJ:=Nat.lt_of_succ_lt (eJ hr);refine⟨_,aj (aG (i:=1) lU.nd rfl 86 (bc aq))
  (aj (aG (i:=2) lU.nd rfl 86 (@bc _ _ _ _ (@af _ _ _ _ _ ba (@af _ _ _ _ _ ba (@af _ _ _ _ _ ba (@af _ _ _ _ _ ba (@af _ _ _ _ _ ba (@af _ _ _ _ _ ba (@aq _) rfl) rfl) rfl) rfl) rfl) rfl)))
  (aj (bJ cq rfl (g7 rfl T.Gk (af (cC gA (pv 0) aC) aq)) (aw (i:=3) lU.nd rfl 86)
   (aj (aG (i:=0) lU.nd rfl 86 (cC fX (pv 0) aC))
   (aj (aG (i:=4) lU.nd rfl 86 (cC mE aC (cC gA (cC fX (pv 0) aC) aC)))
   (aj (aG (i:=5) lU.nd rfl (Or.inr rfl) (ik jv (pv 2) k_ (iC (pv 4))))
   (aj (nK (cS (bj nP (cC gA (cC fX (pv 0) aC) aC) aC (cv _)) (av (aG (i:=5) lU.nd rfl (Or.inr rfl) (ik jv (pv 2) (iC (cC Nn (bL bX rfl T.len hU (af (pv 2) aq)) (pv 4))) k_))) bo))
   (aj (gE (iy:=2) ["_law_word"] [(5,"_law_words")] lU.nd rfl rfl rfl (aV (pv 2)) (bf rfl rfl) nofun rfl nofun
    (λ_ _ _ _ _=>aw (i:=0) (show (["_law_word","_law_words"]:z0s).Nodup by decide +kernel) rfl 86) (λ_ _ _ _ _=>eA (bj (tX K) (pv 0) (pv 1) rfl)) (λ_ _ _ _ _=>pv 0))
   (aj (nK (cS (bj (Ea RJ) (pv 5) (bc aq) (cv _)) (av (df (il hX jG jH cN (pv 1) (af (bq (@af _ _ _ _ _ (@aY _ _ _ _ _ _ _ bW (@bc _ _ _ _ (@af _ _ _ _ _ ba (@af _ _ _ _ _ ba (@af _ _ _ _ _ ba (@aq _) rfl) rfl) rfl)) (cC gA (pv 0) aC) 152) (@af _ _ _ _ _ (a8 iT rfl T.tup vU (af (pv 5) aq)) (@aq _) rfl) rfl)) aq)))) bo))
   (av (aG (i:=0) lU.nd rfl 86 (cC fX (pv 0) aC))))))))))
  (av (bp (pv 1))))),?_⟩
 dsimp only [lF];refine⟨qi,λL hL=>?_⟩;have k1:=ag hL 142;have e1:upd H L 142 L=some (.lst (([]:z0p).map V.ref)):=ae;generalize upd H L 142=H1 at k1 e1;refine⟨zl6,λR0 X0=>?_⟩;have k2:=ag X0 (.lst [V.str "p",V.str "q",V.str "r",V.str "n",V.str "z",V.str "e"]);have e2:upd H1 R0 (.lst [V.str "p",V.str "q",V.str "r",V.str "n",V.str "z",V.str "e"]) R0=some (.lst ((["p","q","r","n","z","e"]:z0s).map V.str)):=ae;show wk _ _ _ _ (upd H1 R0 (.lst [V.str "p",V.str "q",V.str "r",V.str "n",V.str "z",V.str "e"]));generalize upd H1 R0 (.lst [V.str "p",V.str "q",V.str "r",V.str "n",V.str "z",V.str "e"])=H2 at k2 e2;have s2:=k1.trans k2;have ss0:SS [] (["p","q","r","n","z","e"]:z0s):=⟨nofun,nofun,λru h=>by cases h⟩;obtain⟨n,en,ln⟩:∃n:Nat,c % 5=(n:Int)/\n<=4:=⟨(c % 5).toNat,∅,∅⟩;refine⟨_,rfl,_,_,rfl,rfl,nofun,_,rfl,by rw [en];omega,by rw [en];omega,?_⟩;rw [en,eQ];refine g_ (λi σ H3=>∃(c3:Int)(R:Addr)(ss:z0p)(str:87) (rest:z0s)(y3 y4 y5:149),σ=[some (.int c3),a7 L,a7 R,y3,y4,y5]/\aF H H3/\H3 L=some (.lst (ss.map V.ref))/\H3 R=some (.lst (rest.map V.str))/\bu K H3 ss str/\SS str rest/\str.length<=i/\R≠L)
  ⟨c,R0,[],[],_,none,none,none,rfl,s2,k2 _ _ e1,e2,.nil,ss0,cY _,λz=>by rw [z,e1] at X0;cases X0⟩ ?_ ?_
 .rintro i σ H3 hi ⟨c3,R,ss,str,rest,y3,y4,y5,rfl,s3,eL,eR,rl,sS,ls,nRL⟩;refine goN ?_;refine⟨_,rfl,_,_,rfl,rfl,⟨nofun,nofun⟩,?_⟩;refine⟨_,rfl,_,_,rfl,rfl,⟨nofun,nofun⟩,_,_,rfl,rfl,nofun,_,_,rfl,rfl,?_⟩;refine⟨_,rfl,_,rfl,_,rfl,R,_,rfl,aJ.of eR,λW hW=>?_⟩;obtain⟨ws,ew,sub⟩:=zp rest none (some (1+c3 / 5 / 3 % 2));rw [ew];have k4:=ag hW (.lst (ws.map V.str));have e4:upd H3 W (.lst (ws.map V.str)) W=some (.lst (ws.map V.str)):=ae;show Cp _ _ _ (upd H3 W (.lst (ws.map V.str)));generalize upd H3 W (.lst (ws.map V.str))=H4 at k4 e4;refine⟨λσ' H'=>∃(W:Addr) (ws:z0s),ws.Sublist rest/\σ'=[some (.int (c3 / 5)),a7 L,a7 R,some (.int (204)),some (.int (1+c3 / 5 / 3 % 2)),a7 W]/\aF H3 H'/\H' W=some (.lst (ws.map V.str)),?_,?_⟩
  .refine⟨_,rfl,_,_,rfl,rfl,⟨nofun,nofun⟩,_,_,rfl,rfl,nofun,rfl,_,rfl,dj (λ_=>?_) (λ_=>?_)⟩
   .refine⟨_,rfl,_,rfl,R,_,rfl,.inl (aJ.of (k4 _ _ eR)),_,rfl,_,_,rfl,rfl,_,rfl,R,_,rfl,aJ.of (k4 _ _ eR),λW2 hW2=>?_⟩;obtain⟨ws2,ew2,VH⟩:=zp rest (some (((rest.map V.str).length:Int) - (1+c3 / 5 / 3 % 2))) none;rw [ew2];exact⟨W2,ws2,VH,rfl,k4.trans (ag hW2 _),ae⟩
   exact⟨W,ws,sub,rfl,k4,e4⟩
  rintro _ H5 ⟨W,ws,sub,rfl,k5,e5⟩;have eR5:=k5 _ _ eR;refine⟨_,rfl,R,rfl,⟨_,aJ.of eR5⟩,λD hD=>?_⟩;refine bN (xs:=rest.map V.str) (λj ys σ6 H6=>∃y0:149,ys=((rest.take j).filter λz=>!decide (z∈ws)).map V.str/\σ6=[y0,a7 W]/\aF H5 H6/\H6 D=some (.lst ys)) ⟨none,rfl,rfl,ag hD _,ae⟩ ?_ ?_ ?_
  .rintro j ys σ6 H6 _ ⟨y0,rfl,rfl,s6,_⟩;exact aJ.of (s6 _ _ eR5)
  .rintro j v ys σ6 H6 ev ⟨y0,rfl,rfl,s6,e6⟩;rw [aS] at ev;obtain⟨z,ez,rfl⟩:=bQ.mp ev;have lj:=(bw.mp ez).1;have fw:=sS.Iu;have fl:(ws.map V.str).all gT=true:=by rw [gb];intro v hv;obtain⟨z,_,rfl⟩:=bD.mp hv;rfl
   have tk:(rest.take (j+1)).filter (λz=>!decide (z∈ws))=(rest.take j).filter (λz=>!decide (z∈ws))++(if (!decide (z∈ws))=true then [z] else []):=by
    rw [take_snoc ez,jR,qM,qI]
   have lf:((rest.take j).filter λz=>!decide (z∈ws)).length<=6:=dU (iz _ _) (by rw [dB];omega);refine goN ?_;refine⟨_,rfl,_,rfl,W,_,rfl,.inl (aJ.of (s6 _ _ e5)),rfl,fl,_,rfl,?_⟩;rw [nV];refine dj (λcc=>?_) (λcc=>?_)
   .rw [au (show (!decide (z∈ws))=true from cc)] at tk;exact⟨_,rfl,e6,220,_,by rw [tk,bC];rfl,rfl,b_ s6 hD,ae⟩
   rw [ar (show ¬(!decide (z∈ws))=true from cc),fq] at tk;exact⟨_,by rw [tk],rfl,s6,e6⟩
  rintro ys σ6 H6 ⟨y0,rfl,rfl,s6,e6⟩;rw [aA,cE] at e6;have Pa:=k5.trans s6;have YE:=Pa _ _ eL;have nDL:D≠L:=λz=>by rw [z,k5 _ _ eL] at hD;cases hD
  have e56:=s6 _ _ e5;refine⟨λσ' H'=>∃(MY:z0p)(F3:87),σ'=[some (.int (c3 / 5)),a7 L,a7 D,some (.int (204)),some (.int (1+c3 / 5 / 3 % 2)),a7 W]/\aF H H'/\H' L=some (.lst (MY.map V.ref))/\H' D=some (.lst ((rest.filter λz=>!decide (z∈ws)).map V.str))/\bu K H' MY F3/\SS F3 (rest.filter λz=>!decide (z∈ws))/\F3.length<=i+1,?_,?_⟩
  .refine⟨_,rfl,qi,λM hM=>?_⟩;have k7:=ag hM 142;have e7:aJ K (upd H6 M 142) M []:=aJ.of ae;generalize upd H6 M 142=H7 at k7 e7;refine⟨W,M,_,rfl,rfl,aJ.of (k7 _ _ e56),e7,_,rfl,dj (λcc=>?_) (λcc=>?_)⟩
   .have eL7:=k7 _ _ YE;refine⟨_,rfl,.inl ⟨rfl,_,aJ.of eL7⟩,O1,λN hN=>?_⟩;have k8:=ag hN (.lst [V.str "left",V.str "right",V.str "none"]);have e8:aJ K (upd H7 N (.lst [V.str "left",V.str "right",V.str "none"])) N [V.str "left",V.str "right",V.str "none"]:=aJ.of ae;generalize upd H7 N (.lst [V.str "left",V.str "right",V.str "none"])=H8 at k8 e8;obtain⟨wy,hwy,ewy⟩:=Y_ (c3 / 5);refine⟨_,rfl,_,_,rfl,rfl,nofun,N,_,_,_,rfl,rfl,e8,ewy,_,rfl,W,_,rfl,.inl ⟨aJ.of ((k7.trans k8) _ _ e56),λp9 UD=>?_⟩⟩;have k9:=ag UD (.tup (ws.map V.str));have e9:aQ K (upd H8 p9 (.tup (ws.map V.str))) p9 (ws.map V.str):=aQ.of ae;generalize upd H8 p9 (.tup (ws.map V.str))=H9 at k9 e9;refine⟨kR,λQA Xb=>?_⟩;have NM:=ag Xb (.tup [V.str wy,V.ref p9]);have sI:aQ K (upd H9 QA (.tup [V.str wy,V.ref p9])) QA [V.str wy,V.ref p9]:=aQ.of ae;generalize upd H9 QA (.tup [V.str wy,V.ref p9])=gU at NM sI;have HG:=((k7.trans k8).trans k9).trans NM;have OC:=HG _ _ YE;have Pk:=a9 rl;have up:∀{t:Addr}{xs:List V},aQ K gU t xs->aQ K (upd gU L (.lst (ss.map V.ref++[V.ref QA]))) t xs:=λh=>by
     rcases h with (h | ⟨o,h⟩) | h
     .exact .inl (.inl (by rw [ai (λz=>by rw [z,OC] at h;cases h)];exact h))
     .exact .inl (.inr ⟨o,by rw [ai (λz=>by rw [z,OC] at h;cases h)];exact h⟩)
     exact .inr h
    refine⟨L,_,_,rfl,rfl,OC,220,ss++[QA],str++[((wy,ws):aB)],rfl,b_ (s3.trans (Pa.trans HG)) hL,by rw [ae,bC];rfl,by rw [ai nDL];exact HG _ _ e6,?_,sS.add sub hwy,by rw [bH,lO];omega⟩;exact cw ⟨p9,up sI,up (NM.tup e9)⟩ (aD (λ_ _ h=>(let ⟨p,h1,h2⟩:=h;⟨p,up ((Pa.trans HG).tup h1),up ((Pa.trans HG).tup h2)⟩)) rl)
   exact⟨ss,str,rfl,s3.trans (Pa.trans k7),k7 _ _ YE,k7 _ _ e6,rl.same (Pa.trans k7),sS.step sub,∅⟩
  rintro _ pY ⟨MY,F3,rfl,wL,YF,YI,VZ,VP,WM⟩;refine⟨_,rfl,_,_,rfl,rfl,⟨nofun,nofun⟩,?_⟩;exact⟨_,D,MY,F3,_,_,_,_,rfl,wL,YF,YI,VZ,VP,WM,nDL⟩
 rintro σ H3 ⟨c3,R,ss,str,rest,y3,y4,y5,rfl,s3,eL,eR,rl,sS,ls,nRL⟩;exact⟨_,rfl,q L ss str rest H3 s3 hL eL rl sS ∅⟩
end
def DG:z0s:=["p","q","r","n",""]
def f_:List PK:=[(0,"p"),(0,"q"),(0,"r"),(0,"n"),(0,""),(1,"p"),(1,"q"),(1,"r"),(1,"n"),(1,""),(2,"p"),(2,"q"),(2,"r"),(2,"n"),(2,"")]
def Hq (c:Int)(h:wd∈DG):(c % 3,wd)∈f_:=by
 have m3:c % 3=0\/c % 3=1\/c % 3=2:=by omega
 unfold DG at h;simp only [aX,jY,or_false] at h;rcases m3 with e | e | e <;> rw [e] <;> rcases h with rfl | rfl | rfl | rfl | rfl <;> decide +kernel
def II {xs:List V}{m:Nat}(h:m<=40):(lG xs (some 7) (some (7+(m:Int)))).length<=40:=by
 unfold lG;rw [show (7:Int)+(m:Int)=((7+m:Nat):Int) by omega,show (7:Int)=((7:Nat):Int) from rfl,HT.qm,HT.qm,dB,qN];omega
def kT {K:aU}{D t:Addr}{xs ys:List V}{o:HO}(e:H D=some (.lst ys))(h:aQ K H t xs):aQ K (upd H D o) t xs:=by
 rcases h with (h | ⟨u,h⟩) | h
 .exact .inl (.inl (by rw [ai (λz=>by rw [z,e] at h;cases h)];exact h))
 .exact .inl (.inr ⟨u,by rw [ai (λz=>by rw [z,e] at h;cases h)];exact h⟩)
 exact .inr h
def cJ.same {K:aU}{t:Addr}(s:aF H H')(h:cJ K H t z):cJ K H' t z:=let ⟨b,h1,h2⟩:=h;⟨b,s.tup h1,s.tup h2⟩
def lC (zs:z0s):(zs.map V.str).all gT=true:=by
 rw [gb];intro v hv;obtain⟨z,_,rfl⟩:=bD.mp hv;rfl
section
def CF (K:aU):Sp:=λvs H Q _=>∃(a R:Addr)(ns:z0t) (m:Nat)(rs:z0p)(aa:87),vs=[.ref a,.int (m:Int),.ref R]/\aJ K H a (ns.map V.int)/\ns.length<=1000/\m<=40/\aJ K H R 180/\bu K H rs aa/\aa.length<=8/\325 /\
 ∀(l:Addr)(ts:z0p)(zs:List D3)(H':Hp),aF H H'->H l=none->H' l=222->Paired (cJ K H') ts zs->uk yU zs->zs.Nodup->zs.length<=40->(∀z∈zs,keyOf z∈f_/\VD 6 z.2.2/\(z.2.2.1 = "make" \/ z.2.2.1 = "step"))->Q (.ref l) H'
def fc:aN ["_law_script","_law_many","_law_rules_here","_law_deeds_here","_law_parts","_law_head","_law_some","_law_words","_law_cell","_law_deed","_law_word"] ["_law_script","_law_many","_law_rules_here"] (az wJ):=185
def He (F:iU K "_law_deeds" "_law_deeds" wJ f fd)(T:Txt mg)(c_:mg "sorted"=none)(v8:mg "set"=none):bS P w K mg base fC 1 f fd ["_law_script","_law_many","_law_rules_here"] (CF K):=by
 refine F.ok fc 198 217
 .obtain⟨a,R,ns,m,rs,aa,rfl,_⟩:=h;rfl
 obtain⟨a,R,ns,m,rs,aa,rfl,hS,mN,hm,hR,cU,hl,h8,q⟩:=h;have HP:(A.deeper (PyProof.Rows.envOfC ("_law_deeds":Str) (az wJ) s.heap.objs.size f dP)).units+20 < cLine:=iu ∅ hr.un;refine⟨_,aj (aG (i:=3) fc.nd rfl 86 (bc aq))
  (aj (aG (i:=4) fc.nd rfl (Or.inr rfl) (bc aq))
  (aj (bJ cq rfl (aV (pv 2)) (dZ rfl (aE (aw (i:=5) fc.nd rfl 86) (aE (aw (i:=6) fc.nd rfl 86) bV)))
   (av (aG (i:=4) fc.nd rfl (Or.inr rfl) (cC A5 (pv 4) (a8 dQ rfl T.lst PyProof.Rows.boot_list (af (pv 6) aq))))))
  (aj (aG (i:=7) fc.nd rfl 86 (cC A5 (bK ["_law_word"] [(4,"_law_parts")] rfl (aV (@bc _ _ _ _ (@af _ _ _ _ _ ba (@af _ _ _ _ _ ba (@af _ _ _ _ _ ba (@af _ _ _ _ _ ba (@aq _) rfl) rfl) rfl) rfl))) (bf rfl rfl) nofun rfl nofun
    (λ_ _ _ _ _=>aw (i:=0) (show (["_law_word","_law_parts"]:z0s).Nodup by decide +kernel) rfl 86) (λ_ _ _ _ _=>eA (bj (A4 K) (pv 0) (pv 1) rfl)) (λ_ _ _ _ _=>pv 0)) (@bc _ _ _ _ (@af _ _ _ _ _ ba (@aq _) rfl))))
  (aj (bJ cq rfl (aV (ik jv (pv 0) (iC aC) (iC (cC mE aC (pv 1))))) (aw (i:=8) fc.nd rfl 86)
   (aj (aG (i:=9) fc.nd rfl 86 (bq (@af _ _ _ _ _ ba (@af _ _ _ _ _ (cC gA (cC fX (pv 8) aC) aC) (@aq _) rfl) rfl)))
   (aj (nK (cS (bj nP (cC gA (cC fX (pv 8) aC) aC) aC (cv _)) (av (aG (i:=9) fc.nd rfl 86 (bq (@af _ _ _ _ _ ba (@af _ _ _ _ _ (cC gA (cC fX (pv 8) aC) aC) (@aq _) rfl) rfl)))) bo))
   (aj (aG (i:=10) fc.nd rfl 86 (aY bW (pv 7) (cC gA (cC fX (pv 8) aC) (bL bX rfl T.len hU (af (pv 7) aq))) 152))
   (aj (nK (cS (bj nP (pv 10) ba (cv _)) (av (aG (i:=9) fc.nd rfl 86 (bq (@af _ _ _ _ _ ba (@af _ _ _ _ _ (cC gA (cC fX (pv 8) aC) aC) (@aq _) rfl) rfl)))) bo))
   (av (df (il hX jG jH cN (pv 3) (af (bq (af (cC gA (pv 8) aC) (af (pv 10) (af (pv 9) aq)))) aq)))))))))
  (av (bp (iO rfl HP rfl c_ rfl v8 (pv 3)))))))),?_⟩
 dsimp only [lF];refine⟨qi,λD hD=>?_⟩;have k1:=ag hD 142;have e1:upd H D 142 D=some (.lst (([]:z0p).map V.ref)):=ae;generalize upd H D 142=H1 at k1 e1;refine⟨qi,λL0 hL0=>?_⟩;have k2:=ag hL0 142;have e2:upd H1 L0 142 L0=some (.lst (([]:z0s).map V.str)):=ae;generalize upd H1 L0 142=H2 at k2 e2;have s2:=k1.trans k2;refine⟨_,rfl,R,rfl,⟨_,s2.seq hR⟩,?_⟩;have Rk:=a9 cU;refine cO (xs:=156) (λi σ H3=>∃(L:Addr) (ps:z0s)(y5 y6 y7 y8 y9 Fl:149),σ=[a7 a,some (.int (m:Int)),a7 R,a7 D,a7 L,y5,y6,y7,y8,y9,Fl]/\aF H1 H3/\H3 L=some (.lst (ps.map V.str))/\ps.length<=8 * i)
  ⟨L0,[],none,none,none,none,none,none,rfl,k2,e2,cY _⟩ ?_ ?_ ?_
 .rintro i σ H3 _ ⟨L,ps,y5,y6,y7,y8,y9,Fl,rfl,s3,_⟩;exact(k1.trans s3).seq hR
 .rintro i v σ H3 ev ⟨L,ps,y5,y6,y7,y8,y9,Fl,rfl,s3,e3,l3⟩;have li:=(bw.mp ev).1;rw [aA] at li;rw [aS] at ev;obtain⟨r,er,rfl⟩:=bQ.mp ev;obtain⟨ru,Js,p,v1,v2⟩:=cU.get er;have Jp:=h8 ru (bE Js);have ya:=k1.trans s3;refine⟨r,_,rfl,ya.tup v1,rfl,_,_,rfl,_,_,rfl,rfl,?_⟩;refine⟨_,rfl,_,rfl,p,_,rfl,.inr (ya.tup v2),λM hM=>?_⟩;have k4:=ag hM (.lst (ru.2.map V.str));refine⟨L,M,_,_,rfl,rfl,k4 _ _ e3,ae,fits (by rw [aA,aA];omega),λN hN=>?_⟩;exact⟨N,ps++ru.2,_,_,_,_,_,_,rfl,(s3.trans k4).trans (ag hN _),by rw [ae,bC],by rw [bH];omega⟩
 rintro σ H3 ⟨L,ps,y5,y6,y7,y8,y9,Fl,rfl,s3,e3,l3⟩;rw [aA] at l3;have ya:=k1.trans s3;refine⟨Vl,λM hM=>?_⟩;have k4:=ag hM (.lst [V.str "p",V.str "q",V.str "r",V.str "n"]);have e4:upd H3 M (.lst [V.str "p",V.str "q",V.str "r",V.str "n"]) M=some (.lst ((["p","q","r","n"]:z0s).map V.str)):=ae;generalize upd H3 M (.lst [V.str "p",V.str "q",V.str "r",V.str "n"])=H4 at k4 e4;refine⟨M,rfl,⟨_,aJ.of e4⟩,λC hC=>?_⟩;refine bN (xs:=(["p","q","r","n"]:z0s).map V.str) (λj ys σ6 H6=>∃(y0:149) (ws:z0s),ys=ws.map V.str/\σ6=[y0,a7 L]/\aF H4 H6/\H6 C=some (.lst ys)/\ws.length<=j/\∀z∈ws,z∈DG) ⟨none,[],rfl,rfl,ag hC _,ae,aH _,λz hz=>(by cases hz)⟩ ?_ ?_ ?_
 .rintro j ys σ6 H6 _ ⟨y0,ws,rfl,rfl,s6,_⟩;exact aJ.of (s6 _ _ e4)
 .rintro j v ys σ6 H6 ev ⟨y0,ws,rfl,rfl,s6,e6,l6,m6⟩;have lj:=(bw.mp ev).1;rw [aA] at lj;rw [aS] at ev;obtain⟨z,ez,rfl⟩:=bQ.mp ev;have hz:z∈DG:=(show ∀x∈(["p","q","r","n"]:z0s),x∈DG by decide +kernel) z (bE ez);refine goN ?_;have lj4:j < 4:=lj;refine⟨_,rfl,_,rfl,L,_,rfl,.inl (aJ.of ((k4.trans s6) _ _ e3)),rfl,lC ps,_,rfl,dj (λcc=>?_) (λcc=>?_)⟩
  .refine⟨_,rfl,e6,220,_,ws++[z],by rw [bC];rfl,rfl,b_ s6 hC,ae,by rw [bH,lO];omega,λx hx=>?_⟩;rcases cD.mp hx with h | h
   .exact m6 x h
   rw [bA.mp h];exact hz
  exact⟨_,ws,rfl,rfl,s6,e6,∅,m6⟩
 rintro ys σ6 H6 ⟨y0,ws,rfl,rfl,s6,e6,l6,m6⟩;have l6:ws.length<=4:=l6;refine⟨DF,λN hN=>?_⟩;have k7:=ag hN (.lst [V.str ""]);refine⟨C,N,_,_,rfl,rfl,k7 _ _ e6,ae,fits (by rw [aA];show ws.length+1<=_;omega),λW hW=>?_⟩;have k8:=ag hW (.lst (ws.map V.str++[V.str ""]));have e8:upd (upd H6 N (.lst [V.str ""])) W (.lst (ws.map V.str++[V.str ""])) W=some (.lst ((ws++[("":Str)]).map V.str)):=by rw [ae,bC];rfl
 have WW:=((s3.trans k4).trans s6).trans (k7.trans k8);show wk _ _ _ _ (upd (upd H6 N (.lst [V.str ""])) W (.lst (ws.map V.str++[V.str ""])));generalize upd (upd H6 N (.lst [V.str ""])) W (.lst (ws.map V.str++[V.str ""]))=H8 at WW e8;have Zz:∀z∈ws++[("":Str)],z∈DG:=λz hz=>by
  rcases cD.mp hz with h | h
  .exact m6 z h
  rw [bA.mp h];decide +kernel
 have wl:0 < (ws++[("":Str)]).length:=by simp
 have wl5:(ws++[("":Str)]).length<=5:=by simp;omega
 generalize ws++[("":Str)]=FI at e8 Zz wl wl5;have s8:=k1.trans WW;have YG:=WW _ _ e1;refine⟨_,rfl,_,rfl,_,rfl,_,_,rfl,rfl,_,rfl,a,_,rfl,s8.seq hS,λCs EJ=>?_⟩;have cl:=II (xs:=ns.map V.int) hm;obtain⟨cs,ec,_,_⟩:=IJ ns (some 7) (some (7+(m:Int)));rw [ec] at cl ⊢;rw [aA] at cl;have k9:=ag EJ (.lst (cs.map V.int));have eC:upd H8 Cs (.lst (cs.map V.int)) Cs=some (.lst (cs.map V.int)):=ae;generalize upd H8 Cs (.lst (cs.map V.int))=H9 at k9 eC;have nCD:Cs≠D:=λz=>by rw [z,YG] at EJ;cases EJ
 have nWD:W≠D:=λz=>by rw [z] at e8;rw [YG] at e8;cases FI with | nil=>simp at wl | cons _ _=>cases e8
 refine⟨Cs,rfl,⟨_,aJ.of eC⟩,?_⟩;refine cO (xs:=cs.map V.int) (λi σ gU=>∃(us:z0p)(zs:List D3)(y5 y6 y8 y9 Fl:149),σ=[a7 a,some (.int (m:Int)),a7 R,a7 D,a7 L,y5,y6,a7 W,y8,y9,Fl]/\aF H gU/\gU Cs=some (.lst (cs.map V.int))/\gU W=some (.lst (FI.map V.str))/\gU D=some (.lst (us.map V.ref))/\Paired (cJ K gU) us zs/\zs.length=i/\∀z∈zs,keyOf z∈f_/\VD 6 z.2.2/\(z.2.2.1 = "make" \/ z.2.2.1 = "step"))
  ⟨[],[],_,_,_,_,_,rfl,s8.trans k9,eC,k9 _ _ e8,k9 _ _ YG,.nil,rfl,λz hz=>(by cases hz)⟩ ?_ ?_ ?_
 .rintro i σ gU _ ⟨us,zs,y5,y6,y8,y9,Fl,rfl,ie,K1,_⟩;exact aJ.of K1
 .rintro i x σ gU ex ⟨us,zs,y5,y6,y8,y9,Fl,rfl,ie,K1,OA,OE,pr,lz,V9⟩;have li:=(bw.mp ex).1;rw [aA] at li;rw [aS] at ex;obtain⟨c,_,rfl⟩:=bQ.mp ex;have Up:=a9 pr;have cd:∀j:Int,0 < j->j < 1073741824->TV c j:=λj h1 h2=>⟨h1,h2⟩;have vdS:VD 6 ("step",some (c / 30 % 3)):=⟨(c / 30 % 3).toNat,by show some (c / 30 % 3)=_;rw [Int.toNat_of_nonneg (Int.emod_nonneg _ nofun)],λh=>absurd (show ("step":Str) = "make" from h) nofun⟩;have ZF:VD 6 ("make",some (c / 30 % 6)):=⟨(c / 30 % 6).toNat,by show some (c / 30 % 6)=_;rw [Int.toNat_of_nonneg (Int.emod_nonneg _ nofun)],λ_=>by omega⟩
  let J:149->St->143:=λFl σ' H'=>∃(t:Addr)(d:DK),σ'=[a7 a,some (.int (m:Int)),a7 R,a7 D,a7 L,y5,y6,a7 W,some (.int c),a7 t,Fl]/\aF gU H'/\dR K H' t d/\VD 6 d/\(d.1 = "make" \/ d.1 = "step")
  refine goN ?_;refine⟨_,rfl,_,_,rfl,rfl,cd _ nofun nofun,_,_,rfl,rfl,nofun,kR,λt1 Uz=>?_⟩;have a1:=ag Uz (.tup [V.str "step",V.int (c / 30 % 3)]);have b1:dR K (upd gU t1 (.tup [V.str "step",V.int (c / 30 % 3)])) t1 ("step",some (c / 30 % 3)):=aQ.of ae;show Cp _ _ _ (upd gU t1 (.tup [V.str "step",V.int (c / 30 % 3)]));generalize upd gU t1 (.tup [V.str "step",V.int (c / 30 % 3)])=pY at a1 b1;refine⟨J Fl,?_,?_⟩
  .refine⟨_,rfl,_,_,rfl,rfl,cd _ nofun nofun,_,_,rfl,rfl,nofun,rfl,_,rfl,dj (λ_=>?_) (λ_=>?_)⟩
   .exact⟨_,rfl,_,_,rfl,rfl,cd _ nofun nofun,_,_,rfl,rfl,nofun,kR,λp hp=>⟨p,("make",some (c / 30 % 6)),rfl,a1.trans (ag hp _),aQ.of ae,ZF,.inl rfl⟩⟩
   exact⟨t1,_,rfl,a1,b1,vdS,.inr rfl⟩
  rintro _ jL ⟨t2,d2,rfl,a2,b2,v2,w2⟩;have SW:aJ K jL W (FI.map V.str):=aJ.of (a2 _ _ OA);obtain⟨wi,ewi,lwi⟩:∃wi:Nat,c / 3 % ((FI.map V.str).length:Int)=(wi:Int)/\wi < FI.length:=by
   rw [aA];have h1:=Int.emod_nonneg (c / 3) (show (FI.length:Int)≠0 by omega);have h2:=Int.emod_lt_of_pos (c / 3) (show (0:Int) < (FI.length:Int) by omega);exact⟨(c / 3 % (FI.length:Int)).toNat,∅,∅⟩
  obtain⟨wd,UZ⟩:∃wd,FI[wi]?=some wd:=⟨FI[wi],dA lwi⟩;have Ux:=Zz wd (bE UZ);refine⟨_,rfl,_,rfl,_,_,rfl,rfl,cd _ nofun nofun,_,rfl,W,_,rfl,.inl SW,_,_,rfl,rfl,(by rw [aA];show (0:Int) < (FI.length:Int);omega),W,_,_,_,rfl,rfl,SW,(by rw [ewi];exact aZ (by rw [aS,UZ];rfl)),?_⟩;show Cp _ _ _ _;refine⟨J (some (.str wd)),?_,?_⟩
  .refine⟨_,rfl,rfl,_,rfl,dj (λ_=>?_) (λ_=>?_)⟩
   .exact⟨_,rfl,_,_,rfl,rfl,cd _ nofun nofun,_,_,rfl,rfl,nofun,kR,λp hp=>⟨p,("make",some (c / 30 % 6)),rfl,a2.trans (ag hp _),aQ.of ae,ZF,.inl rfl⟩⟩
   exact⟨t2,d2,rfl,a2,b2,v2,w2⟩
  rintro _ tJ ⟨t5,d5,rfl,a5,b5,v5,w5⟩;have ES:=a5 _ _ OE;refine⟨_,rfl,.inl ⟨rfl,_,aJ.of ES⟩,_,rfl,_,_,rfl,rfl,nofun,_,rfl,_,rfl,O1,λt6 ht6=>?_⟩;have HH:=ag ht6 (.tup [V.int (c % 3),V.str wd,V.ref t5]);have Mi:aQ K (upd tJ t6 (.tup [V.int (c % 3),V.str wd,V.ref t5])) t6 [V.int (c % 3),V.str wd,V.ref t5]:=aQ.of ae;generalize upd tJ t6 (.tup [V.int (c % 3),V.str wd,V.ref t5])=OX at HH Mi;have OD:=HH _ _ ES;have Vc:=a5.trans HH;have nw:cJ K OX t6 (c % 3,wd,d5):=⟨t5,Mi,HH.tup b5⟩;have up:∀{t:Addr}{z:D3},cJ K OX t z->cJ K (upd OX D (.lst (us.map V.ref++[V.ref t6]))) t z:=λ⟨b,h1,h2⟩=>⟨b,kT OD h1,kT OD h2⟩;refine⟨D,_,_,rfl,rfl,OD,220,us++[t6],zs++[(c % 3,wd,d5)],_,_,_,_,_,rfl,b_ (ie.trans Vc) hD,by rw [ai nCD];exact Vc _ _ K1,by rw [ai nWD];exact Vc _ _ OA,by rw [ae,bC];rfl,cw (up nw) (aD (λt z h=>up (cJ.same Vc h)) pr),by rw [bH,lO,lz],λz hz=>?_⟩;rcases cD.mp hz with h | h
  .exact V9 z h
  rw [bA.mp h];exact⟨Hq c Ux,v5,w5⟩
 rintro σ gU ⟨us,zs,y5,y6,y8,y9,Fl,rfl,ie,K1,OA,OE,pr,lz,V9⟩;rw [aA] at lz;refine⟨_,rfl,.mk D us zs (aJ.of OE) pr ∅ λl fE cf Pw pr' pm tN=>?_⟩;have wL:=ag Pw (.lst (fE.map V.ref));exact q l fE cf _ (ie.trans wL) (ie.free Pw) ae (aD (λt z h=>cJ.same wL h) pr') tN (pm.nodup_iff.mpr (Dk _ _)) (by rw [pm.length_eq];have:=sN Jv zs;omega) λz hz=>V9 z ((zo _ _ _).mp (pm.mem_iff.mp hz))
end
end gM
namespace L2
open PySem
def bS.V8 {K:aU}{k:Nat}{f:Addr}(h1:bS P w K mg base CX k f fd ps sp1)(h2:bS P w K mg base CX k f fd ps sp2):bS P w K mg base CX k f fd ps (λvs H Q E=>sp1 vs H Q E\/sp2 vs H Q E) where
 len vs H Q E h:=h.elim (h1.len vs H Q E) (h2.len vs H Q E)
 run A outer s H cd us vs Q E hr e b r h:=h.elim (h1.run A outer s H cd us vs Q E hr e b r) (h2.run A outer s H cd us vs Q E hr e b r)
end L2
namespace gM
open PySem L2 M11 ST
def yA (str:87) (ps:z0s)(z:Str):wN str (ps++[z])=(match lvl str z with | some n=>some n | none=>wN str ps):=by
 unfold wN;rw [List.filterMap_append];cases h:lvl str z with
 | none=>simp [h]
 | some n=>simp [h]
section
def JD (K:aU)(sq:aU->Hp->Addr->List V->Prop):Sp:=λvs H Q _=>∃(S A:Addr)(ss:z0p)(str:87) (ps:z0s),vs=[.ref S,.ref A]/\aJ K H S (ss.map V.ref)/\bu K H ss str/\str.length<=8/\sq K H A (ps.map V.str)/\∀H',aF H H'->Q (rM (wN str ps)) H'
def rf (K:aU):Sp:=λvs H Q E=>JD K aJ vs H Q E\/JD K aQ vs H Q E
def du:aN ["_law_strengths_here","_law_words","_law_found","_law_word","_law_k"] ["_law_strengths_here","_law_words"] (az i4):=185
def QE (F:iU K "_law_strength" "_law_strength" i4 f fd)(T:Txt mg):bS P w K mg base fC 1 f fd ["_law_strengths_here","_law_words"] (JD K aJ):=by
 refine F.ok du 198 217
 .obtain⟨S,A,ss,str,ps,rfl,_⟩:=h;rfl
 obtain⟨S,B,ss,str,ps,rfl,hS,cU,hl,hB,q⟩:=h;refine⟨_,aj (aG (i:=2) du.nd rfl 86 AV)
  (aj (bJ cq rfl (aV (pv 1)) (aw (i:=3) du.nd rfl 86)
   (av (bJ cq rfl (g7 rfl T.Gk (af (bL bX rfl T.len hU (af (pv 0) aq)) aq)) (aw (i:=4) du.nd rfl 86)
    (av (cS (bj oZ (pv 3) (aY bR (aY bW (pv 0) (pv 4) 152) aC 152) rfl) (av (aG (i:=2) du.nd rfl 86 (pv 4))) bo)))))
  (av (bp (pv 2)))),?_⟩
 dsimp only [lF];have Pk:=a9 cU;refine⟨_,rfl,B,rfl,⟨_,hB⟩,?_⟩;refine cO (xs:=ps.map V.str) (λi σ H2=>∃(y3 y4:149),σ=[a7 S,a7 B,some (rM (wN str (ps.take i))),y3,y4]/\aF H H2) ⟨none,none,rfl,aF.refl _⟩ ?_ ?_ ?_
 .rintro i σ H2 _ ⟨y3,y4,rfl,s2⟩;exact s2.seq hB
 .rintro i v σ H2 ev ⟨y3,y4,rfl,s2⟩;rw [aS] at ev;obtain⟨z,ez,rfl⟩:=bQ.mp ev;refine goN ?_;refine⟨_,rfl,S,_,rfl,.inl (s2.seq hS),(((ss.map V.ref).length:Nat):Int),rfl,∅,by rw [aA];omega,?_⟩;rw [eQ,aA,Pk];refine g_ (λj σ H3=>∃y4:149,σ=[a7 S,a7 B,some (rM (match Hs str j z with | some n=>some n | none=>wN str (ps.take i))),some (.str z),y4]/\aF H H3) ⟨_,rfl,s2⟩ ?_ ?_
  .rintro j σ H3 hj ⟨Qg,rfl,s3⟩;refine goN ?_;obtain⟨sa,Iw⟩:∃sa,ss[j]?=some sa:=⟨ss[j]'∅,dA ∅⟩;obtain⟨ru,Js,p,v1,v2⟩:=cU.get Iw;have st:=rO Js z;refine⟨_,rfl,_,rfl,_,rfl,S,_,_,_,rfl,rfl,s3.seq hS,(by rw [Int.zero_add];exact aZ (by rw [aS,Iw];rfl)),sa,_,_,_,rfl,rfl,s3.tup v1,aZ (j:=1) rfl,p,_,rfl,.inr (s3.tup v2),rfl,lC ru.2,_,rfl,?_⟩;rw [nV];refine dj (λc=>?_) (λc=>?_)
   .rw [au (show z∈ru.2 from dC c)] at st;refine⟨_,rfl,some (V.int ((0:Int)+(j:Int))),?_,s3⟩;rw [st];show [some (V.ref S),some (V.ref B),some (V.int ((0:Int)+(j:Int))),some (V.str z),some (V.int ((0:Int)+(j:Int)))]=[some (V.ref S),some (V.ref B),some (V.int (j:Int)),some (V.str z),some (V.int ((0:Int)+(j:Int)))];rw [Int.zero_add]
   rw [ar (show ¬z∈ru.2 from λh=>c (cZ h))] at st;exact⟨some (V.int ((0:Int)+(j:Int))),by rw [st];rfl,s3⟩
  rintro σ H3 ⟨Qg,rfl,s3⟩;refine⟨some (V.str z),Qg,?_,s3⟩;rw [take_snoc ez,yA];rfl
 rintro σ H2 ⟨y3,y4,rfl,s2⟩;rw [aA,cE];exact⟨_,rfl,q H2 s2⟩
def QD (F:iU K "_law_strength" "_law_strength" i4 f fd)(T:Txt mg):bS P w K mg base fC 1 f fd ["_law_strengths_here","_law_words"] (JD K aQ):=by
 refine F.ok du 198 217
 .obtain⟨S,A,ss,str,ps,rfl,_⟩:=h;rfl
 obtain⟨S,B,ss,str,ps,rfl,hS,cU,hl,hB,q⟩:=h;refine⟨_,aj (aG (i:=2) du.nd rfl 86 AV)
  (aj (bJ cq rfl (gO (pv 1)) (aw (i:=3) du.nd rfl 86)
   (av (bJ cq rfl (g7 rfl T.Gk (af (bL bX rfl T.len hU (af (pv 0) aq)) aq)) (aw (i:=4) du.nd rfl 86)
    (av (cS (bj oZ (pv 3) (aY bR (aY bW (pv 0) (pv 4) 152) aC 152) rfl) (av (aG (i:=2) du.nd rfl 86 (pv 4))) bo)))))
  (av (bp (pv 2)))),?_⟩
 dsimp only [lF];have Pk:=a9 cU;refine⟨_,rfl,B,rfl,⟨_,hB⟩,?_⟩;refine qC (xs:=ps.map V.str) (λi σ H2=>∃(y3 y4:149),σ=[a7 S,a7 B,some (rM (wN str (ps.take i))),y3,y4]/\aF H H2) ⟨none,none,rfl,aF.refl _⟩ ?_ ?_ ?_
 .rintro i σ H2 _ ⟨y3,y4,rfl,s2⟩;exact s2.tup hB
 .rintro i v σ H2 ev ⟨y3,y4,rfl,s2⟩;rw [aS] at ev;obtain⟨z,ez,rfl⟩:=bQ.mp ev;refine goN ?_;refine⟨_,rfl,S,_,rfl,.inl (s2.seq hS),(((ss.map V.ref).length:Nat):Int),rfl,∅,by rw [aA];omega,?_⟩;rw [eQ,aA,Pk];refine g_ (λj σ H3=>∃y4:149,σ=[a7 S,a7 B,some (rM (match Hs str j z with | some n=>some n | none=>wN str (ps.take i))),some (.str z),y4]/\aF H H3) ⟨_,rfl,s2⟩ ?_ ?_
  .rintro j σ H3 hj ⟨Qg,rfl,s3⟩;refine goN ?_;obtain⟨sa,Iw⟩:∃sa,ss[j]?=some sa:=⟨ss[j]'∅,dA ∅⟩;obtain⟨ru,Js,p,v1,v2⟩:=cU.get Iw;have st:=rO Js z;refine⟨_,rfl,_,rfl,_,rfl,S,_,_,_,rfl,rfl,s3.seq hS,(by rw [Int.zero_add];exact aZ (by rw [aS,Iw];rfl)),sa,_,_,_,rfl,rfl,s3.tup v1,aZ (j:=1) rfl,p,_,rfl,.inr (s3.tup v2),rfl,lC ru.2,_,rfl,?_⟩;rw [nV];refine dj (λc=>?_) (λc=>?_)
   .rw [au (show z∈ru.2 from dC c)] at st;refine⟨_,rfl,some (V.int ((0:Int)+(j:Int))),?_,s3⟩;rw [st];show [some (V.ref S),some (V.ref B),some (V.int ((0:Int)+(j:Int))),some (V.str z),some (V.int ((0:Int)+(j:Int)))]=[some (V.ref S),some (V.ref B),some (V.int (j:Int)),some (V.str z),some (V.int ((0:Int)+(j:Int)))];rw [Int.zero_add]
   rw [ar (show ¬z∈ru.2 from λh=>c (cZ h))] at st;exact⟨some (V.int ((0:Int)+(j:Int))),by rw [st];rfl,s3⟩
  rintro σ H3 ⟨Qg,rfl,s3⟩;refine⟨some (V.str z),Qg,?_,s3⟩;rw [take_snoc ez,yA];rfl
 rintro σ H2 ⟨y3,y4,rfl,s2⟩;rw [aA,cE];exact⟨_,rfl,q H2 s2⟩
def yJ (F:iU K "_law_strength" "_law_strength" i4 f fd)(T:Txt mg):bS P w K mg base fC 1 f fd ["_law_strengths_here","_law_words"] (rf K):=bS.V8 (QE F T) (QD F T)
end
def JP (str:87)(z:Str):wN str [z]=lvl str z:=by
 unfold wN;cases h:lvl str z with
 | none=>simp [h]
 | some n=>simp [h]
def LK (A1 A2 A3:Addr):139:=[(Sum.inr "left",.ref A1),(Sum.inr "right",.ref A2),(Sum.inr "none",.ref A3)]
section
def yt (K:aU):Sp:=λvs H Q _=>∃(R S C:Addr)(wd:Str)(rs ss ts:z0p)(aa str:87)(ds:List DK),vs=[.ref R,.ref S,.str wd,.ref C]/\aJ K H R 180/\bu K H rs aa/\aJ K H S (ss.map V.ref)/\bu K H ss str/\str.length<=8/\(∀ru∈str,ru.1∈FK)/\aJ K H C (155)/\Paired (dR K H) ts ds/\uk Mn ds/\(∀x∈ds,VD aa.length x)/\ds.length < 64 /\
 ∀(l:Addr)(us:z0p)(H':Hp),aF H H'->H' l=some (.lst (us.map V.ref))->Paired (dR K H') us (bU aa str wd ds)->Q (.ref l) H'
def ic:aN ["_law_rules_here","_law_strengths_here","_law_word","_law_some","_law_kinds","_law_make","_law_step","_law_mine","_law_other","_law_ways"] ["_law_rules_here","_law_strengths_here","_law_word","_law_some"] (az wH):=185
def Ef (F:iU K "_law_aside" "_law_aside" wH f fd)(T:Txt mg)(c_:mg "sorted"=none)(GS:aM P w K mg base 1 "_law_strength" ["_law_strengths_here","_law_words"] (rf K)):bS P w K mg base fC 2 f fd ["_law_rules_here","_law_strengths_here","_law_word","_law_some"] (yt K):=by
 refine F.ok ic 198 217
 .obtain⟨R,S,C,wd,rs,ss,ts,aa,str,ds,rfl,_⟩:=h;rfl
 obtain⟨R,S,C,wd,rs,ss,ts,aa,str,ds,rfl,hR,cU,hS,Bt,hl,hw,hC,N_,tN,vd,hn,q⟩:=h;have hu:=eJ hr;have RJ:=Nat.lt_of_succ_lt hu;refine⟨_,aj (gE (iy:=4) ["_law_deed"] [] ic.nd rfl rfl rfl (aV (pv 3)) (bf rfl rfl) nofun rfl nofun
    (λ_ _ _ _ _=>aw (i:=0) (show (["_law_deed"]:z0s).Nodup by decide +kernel) rfl 86) (λ_ _ _ _ _=>cQ) (λ_ _ _ _ _=>aY (qx K) (pv 0) aC 152))
  (aj (cS (bj (C2 RJ) (bL BY rfl c_ Aa (af (pv 4) aq)) (@bc _ _ _ _ (@af _ _ _ _ _ ba (@af _ _ _ _ _ ba (@aq _) rfl) rfl)) (cv _)) (av (bp (bc aq))) bo)
  (aj (aG (i:=5) ic.nd rfl 86 (aY bW (pv 3) (il hX PySem.F.slot_list_index PySem.F.type_list_index yR (pv 4) (af ba aq)) 152))
  (aj (aG (i:=6) ic.nd rfl 86 (aY bW (pv 3) (il hX PySem.F.slot_list_index PySem.F.type_list_index yR (pv 4) (af ba aq)) 152))
  (aj (aG (i:=7) ic.nd rfl 86 (bZ GS hr rfl (af (pv 1) (af (aY bR (aY bW (pv 0) (aY bR (pv 5) aC 152) 152) aC 152) aq))))
  (aj (aG (i:=8) ic.nd rfl 86 (bZ GS hr rfl (af (pv 1) (af (bc (af (pv 2) aq)) aq))))
  (aj (cS (PW.pt (yB (dG (rG (pv 7))) (wU (dG (rG (pv 8)))))) (av (bp (bc aq))) bo)
  (aj (cS (bj G1 (pv 7) (pv 8) (cv _)) (av (bp (bc (af (aY bW (bc (af (pv 5) (af (pv 6) aq))) (a8 E7 rfl T.int PyProof.Rows.boot_int (af (qr yG (pv 7) (pv 8) (cv _)) aq)) 152) aq)))) bo)
  (aj (aG (i:=9) ic.nd rfl 86 (C0 (nN ba (bc (af (pv 6) aq)) (nN ba (bc (af (pv 5) aq)) (nN ba (bc (af (pv 5) (af (pv 6) aq))) CQ))) rfl rfl 88 (show 3<=15 by decide)))
  (av (bp (dO hu (pv 9) (aY bR (aY bW (pv 1) (pv 7) 152) aC 152) 152))))))))))),?_⟩
 dsimp only [lF];have Jk:=a9 N_;refine⟨_,rfl,C,rfl,⟨_,hC⟩,λD hD=>?_⟩;refine bN (xs:=155) (λi ys σ2 H2=>ys=((ds.take i).map 84).map V.str/\(∃y0,σ2=[y0])/\449) ⟨rfl,⟨none,rfl⟩,ag hD _,ae⟩ ?_ ?_ ?_
 .rintro i ys σ2 H2 _ ⟨_,_,s2,_⟩;exact s2.seq hC
 .rintro i x ys σ2 H2 ex ⟨rfl,⟨y0,rfl⟩,s2,e2⟩;rw [aS] at ex;obtain⟨t,et,rfl⟩:=bQ.mp ex;obtain⟨z,ez,r⟩:=b8 N_ et;have li:=(bw.mp ez).1;have zI:tq ((Ju z).map kV) 0=some (.str z.1):=by obtain⟨z,o⟩:=z;cases o <;> exact aZ (j:=0) rfl
  refine goN (BA ?_);exact⟨_,rfl,t,_,_,_,rfl,rfl,s2.tup r,zI,e2,bF (by rw [aA,aA,dB];omega),by rw [take_snoc ez,bC,bC];rfl,⟨_,rfl⟩,b_ s2 hD,ae⟩
 rintro ys σ2 H2 ⟨rfl,_,s2,e2⟩;rw [aA,Jk,cE] at e2;have none_:∀H4,aF H H4->bU aa str wd ds=[]->∀p,H4 p=none->Q (.ref p) (upd H4 p 142):=λH4 s4 e p hp=>q p [] _ (s4.trans (ag hp _)) ae (by rw [e];exact .nil);refine⟨_,rfl,D,_,rfl,aJ.of e2,(by rw [aA];omega),λl3 ks hl3 pk sk=>?_⟩;have pwk:(ds.map 84).Pairwise LJ:=by
  rw [j3];refine List.Pairwise.imp (λ{x y} h=>?_) tN;unfold LJ;rw [PyProof.Rows.ltCps_eq];show C6 y.1 x.1=false;unfold Mn ST.lex at h;by_cases c:y.1=x.1
  .rw [c];exact Ko _
  rw [ar c] at h;exact h
 have ek:ks=ds.map 84:=lR (DP sk) pwk pk;subst ek;have k3:=ag hl3 (.lst ((ds.map 84).map V.str));have e3:upd H2 l3 (.lst ((ds.map 84).map V.str)) l3=some (.lst ((ds.map 84).map V.str)):=ae;generalize upd H2 l3 (.lst ((ds.map 84).map V.str))=H3 at k3 e3;refine⟨kR,λM hM=>?_⟩;have k4:=ag hM (.lst [V.str "make",V.str "step"]);have eM:upd H3 M (.lst [V.str "make",V.str "step"]) M=some (.lst (mF.map V.str)):=ae;generalize upd H3 M (.lst [V.str "make",V.str "step"])=H4 at k4 eM;have s4:=(s2.trans k3).trans k4;refine⟨l3,M,_,_,rfl,rfl,aJ.of (k4 _ _ e3),aJ.of eM,lC _,rfl,_,rfl,?_⟩;rw [sG];refine dj (λcc=>?_) (λcc=>?_)
 .have ne:¬ds.map (λd=>d.1)=mF:=by simpa using cc
  exact⟨qi,none_ H4 s4 (by unfold bU;rw [ar ne])⟩
 have eq:ds.map (λd=>d.1)=mF:=by simpa using cc
 obtain⟨d0,d1,rfl⟩:∃d0 d1,ds=[d0,d1]:=by
  match ds,eq with
  | [a,b],_=>exact⟨a,b,rfl⟩
  | [],h=>cases h
  | [_],h=>simp [mF] at h
  | _::_::_::_,h=>simp [mF] at h
 obtain⟨t0,t1,rfl⟩:∃t0 t1,ts=[t0,t1]:=by
  match ts,Jk with
  | [a,b],_=>exact⟨a,b,rfl⟩
  | [],h=>cases h
  | [_],h=>simp at h
  | _::_::_::_,h=>simp at h
 have e0:d0.1 = "make" := by simp [mF] at eq;exact eq.1
 have e1:d1.1 = "step" := by simp [mF] at eq;exact eq.2
 obtain⟨k,ek,lk⟩:=vd d0 88;have lk:=lk e0;cases N_ with
 | cons r0 r1 =>
 cases r1 with
 | cons r1 _ =>
 have ll:=a9 cU;obtain⟨ra,era⟩:∃ra,rs[k]?=some ra:=⟨rs[k]'∅,dA ∅⟩;obtain⟨ru,Js,p,v1,v2⟩:=cU.get era;have P5:tq ((Ju d0).map kV) 1=some (.int (k:Int)):=by
  obtain⟨z,o⟩:=d0;cases ek;exact aZ (j:=1) rfl
 have kk:aJ K H4 D (List.map V.str [d0.1,d1.1]):=aJ.of ((k3.trans k4) _ _ e2);have c4:aJ K H4 C ([t0,t1].map V.ref):=s4.seq hC;have n01:([d0.1,d1.1]:z0s)[0]?≠some ("step":Str):=λh=>by rw [e0] at h;exact absurd (show ("make":Str) = "step" from jE h) nofun
 have Wy:∀m,m < 1->([d0.1,d1.1]:z0s)[m]?≠some ("step":Str):=λm hm=>by
  have:m=0:=by omega
  subst this;exact n01
 refine⟨_,rfl,_,rfl,.inl ⟨rfl,_,kk⟩,D,[d0.1,d1.1],"make",0,rfl,rfl,kk,by rw [e0];rfl,λm hm=>absurd hm ∅,C,_,_,_,rfl,rfl,c4,aZ (j:=0) rfl,?_⟩;refine⟨_,rfl,_,rfl,.inl ⟨rfl,_,kk⟩,D,[d0.1,d1.1],"step",1,rfl,rfl,kk,by rw [e1];rfl,Wy,C,_,_,_,rfl,rfl,c4,aZ (j:=1) rfl,?_⟩;refine⟨_,rfl,_,rfl,_,rfl,t0,_,_,_,rfl,rfl,s4.tup r0,P5,R,_,_,_,rfl,rfl,s4.seq hR,aZ (by rw [aS,era];rfl),ra,_,_,_,rfl,rfl,s4.tup v1,aZ (j:=1) rfl,?_⟩;refine .inr ⟨S,p,ss,str,ru.2,rfl,s4.seq hS,Bt.same s4,hl,s4.tup v2,λH5 s5=>?_⟩;have QN:=s4.trans s5;refine⟨_,rfl,_,rfl,DF,λN hN=>?_⟩;have k6:=ag hN (.lst [V.str wd]);have e6:aJ K (upd H5 N (.lst [V.str wd])) N (([wd]:z0s).map V.str):=aJ.of ae;generalize upd H5 N (.lst [V.str wd])=H6 at k6 e6;have JN:=QN.trans k6;refine .inl ⟨S,N,ss,str,[wd],rfl,JN.seq hS,Bt.same JN,hl,e6,λH7 s7=>?_⟩;have DU:=JN.trans s7;rw [JP];have er:(aa[JR d0]?.map λru:aB=>ru.2).getD []=ru.2:=by
  have:JR d0=k:=by unfold JR;rw [ek];simp
  rw [this,Js];rfl
 have ea:bU aa str wd [d0,d1]=match wN str ru.2,lvl str wd with
   | some a,some b=>if a=b then (if (str[b]?.map λru:aB=>ru.1).getD ""="none" then [d0,d1] else if (str[b]?.map λru:aB=>ru.1).getD ""="left" then [d1] else [d0]) else if b < a then [d1] else [d0]
   | _,_=>[]:=by
  unfold bU;rw [au eq];show (match wN str ((aa[JR d0]?.map λru:aB=>ru.2).getD []),lvl str wd with | some a,some b=>_ | _,_=>_)=_
  rw [er];rfl
 cases g1:wN str ru.2 with
 | none =>
  rw [g1] at ea;exact⟨_,rfl,_,rfl,tZ (tZ ⟨qi,none_ H7 DU ea⟩)⟩
 | some a =>
 cases g2:lvl str wd with
 | none =>
  rw [g1,g2] at ea;exact⟨_,rfl,_,rfl,iP ⟨_,rfl,_,rfl,tZ ⟨qi,none_ H7 DU ea⟩⟩⟩
 | some b =>
 rw [g1,g2] at ea;dsimp only at ea;refine⟨_,rfl,_,rfl,iP ⟨_,rfl,_,rfl,iP ?_⟩⟩;refine⟨_,rfl,_,rfl,rfl,_,rfl,dj (λc1=>?_) (λc1=>?_)⟩
 .have Wu:¬a=b:=λz=>by subst z;simp [rM] at c1
  rw [ar Wu] at ea;refine⟨_,rfl,_,rfl,kR,λP8 hP8=>?_⟩;have k8:=ag hP8 (.lst [V.ref t0,V.ref t1]);have e8:aJ K (upd H7 P8 (.lst [V.ref t0,V.ref t1])) P8 [V.ref t0,V.ref t1]:=aJ.of ae;generalize upd H7 P8 (.lst [V.ref t0,V.ref t1])=H8 at k8 e8;have Ua:=DU.trans k8;have fin:∀(t:Addr)(d:DK),dR K H t d->bU aa str wd [d0,d1]=[d]->∀p9,H8 p9=none->Q (.ref p9) (upd H8 p9 (.lst [V.ref t])):=λt d r e p9 UD=>q p9 [t] _ (Ua.trans (ag UD _)) ae (by rw [e];exact .cons ((Ua.trans (ag UD _)).tup r) .nil);refine⟨_,rfl,_,rfl,_,_,rfl,rfl,.inr ⟨_,rfl,?_⟩⟩;by_cases lt:b < a
  .rw [au lt] at ea;rw [show decide ((b:Int) < (a:Int))=true from cZ ∅];exact⟨P8,_,_,_,rfl,rfl,e8,aZ (j:=1) rfl,DF,fin t1 d1 r1 ea⟩
  rw [ar lt] at ea;rw [show decide ((b:Int) < (a:Int))=false from fK ∅];exact⟨P8,_,_,_,rfl,rfl,e8,aZ (j:=0) rfl,DF,fin t0 d0 r0 ea⟩
 have ab:a=b:=pL λz=>c1 (by simp [rM];omega);subst ab;rw [au rfl] at ea;have lb:a < str.length:=Bh g2;have Pk:=a9 Bt;obtain⟨sa,Iw⟩:∃sa,ss[a]?=some sa:=⟨ss[a]'∅,dA ∅⟩;obtain⟨JC,U1,p',w1,w2⟩:=Bt.get Iw;rw [show (str[a]?.map λru:aB=>ru.1).getD ""=JC.1 by rw [U1];rfl] at ea;have NS:=hw JC (bE U1);intro g hg;have s8:=DU.trans (ag hg (.dK []));have Ov:upd H7 g (.dK []) g=some (.dK []):=ae;generalize upd H7 g (.dK [])=H8 at s8 Ov;refine⟨_,rfl,DF,λA1 hA1=>?_⟩;have k9:=ag hA1 (.lst [V.ref t1]);have e9:upd H8 A1 (.lst [V.ref t1]) A1=some (.lst [V.ref t1]):=ae;generalize upd H8 A1 (.lst [V.ref t1])=H9 at k9 e9;refine⟨_,rfl,DF,λA2 hA2=>?_⟩;have NM:=ag hA2 (.lst [V.ref t0]);have sI:upd H9 A2 (.lst [V.ref t0]) A2=some (.lst [V.ref t0]):=ae;generalize upd H9 A2 (.lst [V.ref t0])=gU at NM sI;refine⟨_,rfl,_,rfl,kR,λA3 hA3=>?_⟩;have Fq:=ag hA3 (.lst [V.ref t0,V.ref t1]);have xG:upd gU A3 (.lst [V.ref t0,V.ref t1]) A3=some (.lst [V.ref t0,V.ref t1]):=ae;generalize upd gU A3 (.lst [V.ref t0,V.ref t1])=pY at Fq xG;have Rx:=(k9.trans NM).trans Fq;have SQ:=Rx _ _ Ov;have wL:=s8.trans Rx;refine⟨SQ,LK A1 A2 A3,rfl,(by show 3<=15;decide),?_⟩;have em:ku [] (LK A1 A2 A3)=LK A1 A2 A3:=rfl;rw [em];have fg:H g=none:=DU.free hg;have pM:aF H (upd pY g (.dK (LK A1 A2 A3))):=b_ wL fg;have ng:∀{x:Addr}{ys:List V},pY x=some (.lst ys)->upd pY g (.dK (LK A1 A2 A3)) x=some (.lst ys):=λh=>by rw [ai (λz=>by rw [z,SQ] at h;cases h)];exact h
 have eA1:=ng ((NM.trans Fq) _ _ e9);have eA2:=ng (Fq _ _ sI);have eA3:=ng xG;have SO:upd pY g (.dK (LK A1 A2 A3)) g=some (.dK (LK A1 A2 A3)):=ae;generalize upd pY g (.dK (LK A1 A2 A3))=jL at pM eA1 eA2 eA3 SO;refine⟨_,rfl,_,rfl,_,rfl,S,_,_,_,rfl,rfl,pM.seq hS,aZ (by rw [aS,Iw];rfl),sa,_,_,_,rfl,rfl,pM.tup w1,aZ (j:=0) rfl,?_⟩;have LY:=cb.k (k:=Sum.inr JC.1) SO;unfold FK at NS;simp only [aX,jY,or_false] at NS;rcases NS with e | e | e
 .rw [e] at ea LY ⊢;rw [ar nofun,au rfl] at ea;exact⟨g,_,rfl,LY,q A1 [t1] jL pM eA1 (by rw [ea];exact .cons (pM.tup r1) .nil)⟩
 .rw [e] at ea LY ⊢;rw [ar nofun,ar nofun] at ea;exact⟨g,_,rfl,LY,q A2 [t0] jL pM eA2 (by rw [ea];exact .cons (pM.tup r0) .nil)⟩
 rw [e] at ea LY ⊢;rw [au rfl] at ea;exact⟨g,_,rfl,LY,q A3 [t0,t1] jL pM eA3 (by rw [ea];exact .cons (pM.tup r0) (.cons (pM.tup r1) .nil))⟩
end
def Aw {aa:87}{g:G}(se:gY M11.bl aa g){x:Str}{ps:z0s}(hm:(x,ps)∈aa)(hv:∀p∈ps,(g p).isSome=true):∃n,g x=some n/\n<=1+(ps.map λp=>(g p).getD 0).sum:=by
 have:=se _ hm;unfold cA at this;have a1:kQ g (x,ps)=true:=gb.mpr λp hp=>hv p hp;have s0:aO g (x,ps)=1+(ps.map λp=>(g p).getD 0).sum:=rfl;rw [a1,s0,Bool.true_and] at this;cases gn:g x with
 | none=>rw [show g (x,ps).1=none from gn] at this;cases this
 | some m =>
  rw [show g (x,ps).1=some m from gn] at this;refine⟨m,rfl,?_⟩;have:¬(1+(ps.map λp=>(g p).getD 0).sum:Int) < m:=by
   simpa [M11.bl] using this
  omega
theorem uq (cI:z0s):∀(ps bz:z0s)(x:Str),(x∈bz\/(x∈ps/\x∉cI))->x∈qj cI bz ps
 | [],bz,x,h=>by
  rcases h with h | ⟨h,_⟩
  .exact h
  cases h
 | p::r,bz,x,h=>by
  show x∈qj cI (addW cI bz p) r;apply uq cI r;unfold addW;by_cases c:p∈cI
  .rw [au c];rcases h with h | ⟨h,n⟩
   .exact .inl h
   rcases aX.mp h with z | z
   .exact absurd (z ▸ c) n
   exact .inr ⟨z,n⟩
  rw [ar c];rcases h with h | ⟨h,n⟩
  .exact .inl ((jf _ _ _).mpr (.inl h))
  rcases aX.mp h with z | z
  .exact .inl ((jf _ _ _).mpr (.inr z))
  exact .inr ⟨z,n⟩
theorem RR.e {rest:87}(s:RR rest){ru:aB}(h:ru∈iN::rest):ru.1 = "e" /\ ru.2≠[]/\ru.2.length<=3:=by
 rcases aX.mp h with e | e
 .rw [e];exact⟨rfl,by simp [iN],nofun⟩
 obtain⟨h1,h2,h3,_⟩:=s.ok ru e;exact⟨h1,λz=>by rw [z] at h2;simp at h2,h3⟩
theorem RR.hd {rest:87}(s:RR rest){x:Str}(h:x∈hd (iN::rest)):x = "e" := by
 obtain⟨ru,tO,rfl⟩:=Sf h;exact(s.e tO).1
def RR.nem {rest:87}(s:RR rest){x:Str}(h:Em (iN::rest) x):False:=by
 induction h with
 | mk h1 h2 ih =>
  rename_i ru
  obtain⟨_,h3,_⟩:=s.e h1;obtain⟨p,r,e⟩:=List.exists_cons_of_ne_nil h3;exact ih p (by rw [e];exact bP)
def RR.good {rest:87}(s:RR rest):Good (iN::rest) (λ_=>0) (λ_=>1) where
 least gg st se:=by
  have nn:("n":Str)∉gM.hd (iN::rest):=λh=>absurd (s.hd h) nofun;have m0:(("e":Str),(["n"]:z0s))∈iN::rest:=bP;have vn:gg "n"=some 0:=by
   refine dM.keep (J:=λg=>g "n"=some 0) (λg VY j h2 _=>?_) st ?_
   .show dN g VY.1 _ "n"=some 0;unfold dN;rw [ar (λz=>nn (by rw [z];exact Sg h2))];exact j
   show zY (iN::rest) "n"=some 0;unfold zY;rw [au (uq _ _ _ _ (.inr ⟨jO.mpr ⟨_,m0,by simp⟩,nn⟩))]
  obtain⟨n,gn,ln⟩:=Aw se m0 (λp hp=>by rw [bA.mp hp,vn];rfl);rw [bY,jj,vn] at ln;have ln:n<=1:=ln;intro h hh;rw [s.hd hh];exact⟨n,gn,∅⟩
 met qo ms U3 h0 mc:=by
  cases U3;intro h hh;rw [s.hd hh];exact h0
 loop a_ he _ n k j hit ru z ek PJ:=by
  obtain⟨CN,z',e1,rfl,e2,hz,hl⟩:=hit;rw [ek] at e1;cases e1;rw [PJ] at e2;cases e2;exfalso;have hm:=bE ek;rcases aX.mp hm with e | e
  .rw [e] at PJ;have:z = "n" := by
    have lj:=(bw.mp PJ).1;have:j=0:=by simp [iN] at lj;omega
    subst this;cases PJ;rfl
   exact absurd (this.symm.trans (s.hd hz)) nofun
  obtain⟨_,h2,_⟩:=s.ok ru e;obtain⟨i,hi⟩:∃i,i≠j/\i < ru.2.length:=by
   by_cases c:j=0
   .exact⟨1,∅,∅⟩
   exact⟨0,∅,∅⟩
  exact s.nem (Ou he ru.2[i] (dC (Hy hl (dA hi.2) hi.1)))
 bnd:=⟨λ_=>(show (0:Int)<=1 by decide),λru tO hem=>by
  obtain⟨_,h3,_⟩:=s.e tO;obtain⟨p,r,e⟩:=List.exists_cons_of_ne_nil h3;exact(s.nem (hem p (by rw [e];exact bP))).elim⟩
 most h _:=by show (1:Int)<=60;decide
def B7 (aa str:87)(zs:List D3)(p:PK):List D3:=(bU aa str p.2 (cx zs p)).map λd=>(p.1,p.2,d)
def yd (aa str:87)(zs:List D3)(ps:List PK):List D3:=ps.flatMap (B7 aa str zs)
def Dx {aa str:87}{zs:List D3}{p:PK}{k:D3}(h:k∈B7 aa str zs p):keyOf k=p:=by
 obtain⟨d,_,rfl⟩:=bD.mp h;rfl
def Hi {zs:List D3}(nd:zs.Nodup)(p:PK):(cx zs p).Nodup:=by
 unfold cx;refine j3.mpr (z_ ?_ (nd.sublist vF));intro a b ha hb ne e;have ea:keyOf a=p:=by simpa using (d6.mp ha).2
 have eb:keyOf b=p:=by simpa using (d6.mp hb).2
 have ee:keyOf a=keyOf b:=ea.trans eb.symm;simp only [keyOf,jV] at ee;exact ne (Prod.ext ee.1 (Prod.ext ee.2 e))
def OU (aa str:87){zs:List D3}(nd:zs.Nodup)(p:PK):(B7 aa str zs p).Nodup:=by
 unfold B7;refine j3.mpr (List.Pairwise.imp (λ{a b} ne e=>ne ?_) ((Hi nd p).sublist (pF aa str p.2 _)));injection e with _ e;injection e with _ e
theorem IT (aa str:87){zs:List D3}(nd:zs.Nodup):∀{ps:List PK},ps.Nodup->(yd aa str zs ps).Nodup
 | [],_=>.nil
 | p::ps,h=>by
  show (B7 aa str zs p++yd aa str zs ps).Nodup;rw [fM];obtain⟨h1,h2⟩:=jo.mp h;refine⟨OU aa str nd p,IT aa str nd h2,λa ha b hb e=>?_⟩;subst e;obtain⟨p',lX,hk⟩:=jO.mp hb;have:p'=p:=(Dx hk).symm.trans (Dx ha);exact h1 (this ▸ lX)
def JV:f_.Nodup:=by decide +kernel
def Mt {aa str:87}{zs:List D3}(ok:∀z∈zs,keyOf z∈f_)(k:D3):k∈ye aa str (iS zs)↔k∈yd aa str zs f_:=by
 constructor
 .intro h;obtain⟨c,hc,hk⟩:=jO.mp h;obtain⟨p,hp,rfl⟩:=bD.mp (d6.mp hc).1;obtain⟨i,hi,rfl⟩:=(kr _ _ _).mp hp;have e:zs[i]?=some zs[i]:=dA hi;refine jO.mpr ⟨Rw zs i,?_,hk⟩;rw [xq e];exact ok _ (vp hi)
 intro h;obtain⟨p,hp,hk⟩:=jO.mp h;obtain⟨d,hd,rfl⟩:=bD.mp hk;have l2:=vh hd;obtain⟨z,hz,e⟩:∃z∈zs,keyOf z=p:=by
  apply pL;intro no;rw [uM λz hz e=>no ⟨z,hz,e⟩] at l2;cases l2
 refine jO.mpr ⟨(p,cx zs p),d6.mpr ⟨bD.mpr ⟨p,?_,rfl⟩,by simp;omega⟩,hk⟩;obtain⟨j,hj,e2⟩:=jF.mp hz;exact(kr _ _ _).mpr ⟨j,hj,by rw [xq (dA hj),e2,e]⟩
def IS {aa str:87}{zs as al:List D3}(nd:zs.Nodup)(ok:∀z∈zs,keyOf z∈f_)(s1:uk yU as)(p1:as.Perm (putAll (ye aa str (iS zs)) []))(s2:uk yU al)(p2:al.Perm (yd aa str zs f_)):as=al:=by
 refine mC xf s1 s2 (p1.trans (((Af (oX _ _ .nil) (IT aa str nd JV)).mpr λk=>?_).trans p2.symm));rw [mH,<-Mt ok];simp
def KY {aa str:87}{zs:List D3}(ok:∀z∈zs,keyOf z∈f_):(zs.filter λz=>!decide (z∈ye aa str (iS zs)))=zs.filter λz=>!decide (z∈yd aa str zs f_):=by
 refine List.filter_congr λz _=>?_;rw [decide_eq_decide.mpr (Mt ok z)]
def B5 (aa:87)(wd:Str)(ds:List DK):bU aa [] wd ds=[]:=by
 unfold bU
 split
 .have:lvl [] wd=none:=rfl;rw [this]
  split
  .rename_i h;cases h
  rfl
 rfl
theorem zK (aa:87):∀cs:List Cl,ye aa [] cs=[]
 | []=>rfl
 | c::cs=>by
  show Fy aa [] c++ye aa [] cs=[];rw [zK aa cs];unfold Fy;rw [B5];rfl
def OH {K:aU}{t t':Addr}{d:DK}(h:dR K H t d)(h':dR K H t' d):Cc K H 1 (.ref t) (.ref t'):=by
 refine .inr ⟨t,t',_,_,rfl,rfl,.inr ⟨h,h'⟩,?_⟩;obtain⟨z,o⟩:=d;cases o with
 | none=>exact .cons (Cc.self (.inl rfl) 0) .nil
 | some i=>exact .cons (Cc.self (.inl rfl) 0) (.cons (Cc.self (.inl rfl) 0) .nil)
def OI {K:aU}{t t':Addr}(h:cJ K H t z)(h':cJ K H t' z):Cc K H 2 (.ref t) (.ref t'):=by
 obtain⟨b,h1,h2⟩:=h;obtain⟨b',qA,KR⟩:=h';exact .inr ⟨t,t',_,_,rfl,rfl,.inr ⟨h1,qA⟩,.cons (Cc.self (.inl rfl) 1) (.cons (Cc.self (.inl rfl) 1) (.cons (OH h2 KR) .nil))⟩
theorem xJ {K:aU}:∀{ts fE:z0p}{zs:List D3},Paired (cJ K H) ts zs->Paired (cJ K H) fE zs->Paired (Cc K H 2) (155) (fE.map V.ref)
 | _,_,_,.nil,.nil=>.nil
 | _,_,_,.cons a b,.cons c d=>.cons (OI a c) (xJ b d)
def xI {K:aU}{ts fE:z0p}{zs:List D3}(e:H l=222)(e':H l'=some (.lst (fE.map V.ref)))(h:Paired (cJ K H) ts zs)(h':Paired (cJ K H) fE zs):Cc K H 3 (.ref l) (.ref l'):=.inr ⟨l,l',_,_,rfl,rfl,.inl ⟨aJ.of e,aJ.of e'⟩,xJ h h'⟩
def Kp.d3 {K:aU}{t:Addr}(k:Kp H H')(h:cJ K H t z):cJ K H' t z:=let ⟨b,h1,h2⟩:=h;⟨b,k.tup h1,k.tup h2⟩
theorem Zu.h {Cg g bt:Addr}{rs ss:z0p}(h:Zu H0 H Cg g rs ss bt):OY H Cg g rs ss:=let ⟨gx,fs,R2,S2,e1,l1,l2,_,_,e2,e3,_⟩:=h;⟨gx,fs,R2,S2,e1,l1,l2,e2,e3⟩
def JW {i j:Nat}(hi:i < 3)(e:DG[j]?=some wd):f_[5 * i+j]?=some ((204),wd):=by
 have hj:j < 5:=(bw.mp e).1;have e2:DG[j]?=some DG[j]:=dA hj;rw [e2] at e;obtain rfl:DG[j]=wd:=jE e;clear e e2
 match i,hi,j,hj with
 | 0,_,0,_=>rfl
 | 0,_,1,_=>rfl
 | 0,_,2,_=>rfl
 | 0,_,3,_=>rfl
 | 0,_,4,_=>rfl
 | 1,_,0,_=>rfl
 | 1,_,1,_=>rfl
 | 1,_,2,_=>rfl
 | 1,_,3,_=>rfl
 | 1,_,4,_=>rfl
 | 2,_,0,_=>rfl
 | 2,_,1,_=>rfl
 | 2,_,2,_=>rfl
 | 2,_,3,_=>rfl
 | 2,_,4,_=>rfl
def xS (aa str:87)(zs:List D3)(p:PK):(B7 aa str zs p).length<=2:=Dy aa str (p,cx zs p)
theorem xT (aa str:87)(zs:List D3):∀ps:List PK,(yd aa str zs ps).length<=2 * ps.length
 | []=>aH _
 | p::ps=>by
  have h1:=xS aa str zs p;have h2:=xT aa str zs ps;show (B7 aa str zs p++yd aa str zs ps).length<=_;rw [bH,dW];omega
theorem rK {α β:Type}{R:α->β->Prop}{l2:List α}{m2:List β}(h2:Paired R l2 m2):∀{l:List α}{m:List β},Paired R l m->Paired R (l++l2) (m++m2)
 | _,_,.nil=>h2
 | _,_,.cons x y=>.cons x (rK h2 y)
def Wq:(["_law_number","_law_other","_law_deed","_law_room","_law_word"]:z0s).Nodup:=by decide +kernel
section
def CB (K:aU)(T1 T2 T3:Addr):Sp:=λvs H Q _=>∃(a:Addr)(ns:z0t),vs=[.ref a]/\aJ K H a (ns.map V.int)/\ns.length<=63/\DC T1 T2 T3 H/\∀H',Q (.bl true) H'
def ka:aN ["_law_script","_law_rules_here","_law_strengths_here","_law_deeds_here","_law_grammar","_law_aside_here","_law_room","_law_word","_law_some","_law_handed","_law_found"] ["_law_script"] (az DS):=185
def Nv {Cg C T1 T2 T3 fG:Addr}{Yg:FuncData}(F:iU K "law" "law" DS f fd)(T:Txt mg)(c_:mg "sorted"=none)(Qc:aM P w K mg base 8 "_law_cell_at" ["_law_script","_law_k"] (Ar K))(GR:aM P w K mg base 8 "_law_rules" ["_law_script"] (Cz K))(GSt:aM P w K mg base 8 "_law_strengths" ["_law_cell"] (Lp K))(GD:aM P w K mg base 8 "_law_deeds" ["_law_script","_law_many","_law_rules_here"] (CF K))
  (GA:aM P w K mg base 8 "_law_aside" ["_law_rules_here","_law_strengths_here","_law_word","_law_some"] (yt K))(GP:aM P w K mg base 8 "put_right" ["grammar","deeds"] (Lr K Cg))
  (G:GC K Cg)(MG:Mk K Cg fG)(FG:bS P w K mg base fC 7 fG Yg ["self","rules","strengths"] (CD K Cg C T1 T2 T3))(B0:Binds K Yg ["self","rules","strengths"] [])(B1:Binds K Yg ["self","rules","strengths"] [.none])(mG:mg "Grammar"=some (.ref Cg)):bS P w K mg base fC 9 f fd ["_law_script"] (CB K T1 T2 T3):=by
 refine F.ok ka 198 217
 .obtain⟨a,ns,rfl,_⟩:=h;rfl
 obtain⟨a,ns,rfl,hS,hl,hT,q⟩:=h;have hu4:(A.deeper (PyProof.Rows.envOfC ("law":Str) (az DS) s.heap.objs.size f dP)).units+(3+1) < cLine:=iu ∅ hr.un;have hu3:(A.deeper (PyProof.Rows.envOfC ("law":Str) (az DS) s.heap.objs.size f dP)).units+(2+1) < cLine:=iu ∅ hr.un;have LV:(A.deeper (PyProof.Rows.envOfC ("law":Str) (az DS) s.heap.objs.size f dP)).units+8 < cLine:=iu ∅ hr.un;refine⟨_,aj (aG (i:=1) ka.nd rfl 86 (bZ GR hr rfl (af (pv 0) aq)))
  (aj (aG (i:=2) ka.nd rfl 86 (bZ GSt hr rfl (af (bZ Qc hr rfl (af (pv 0) (af aC aq))) aq)))
  (aj (aG (i:=3) ka.nd rfl 86 (bZ GD hr rfl (af (pv 0) (af (cC mE aC (cC gA (bZ Qc hr rfl (af (pv 0) (af aC aq))) aC)) (af (pv 1) aq)))))
  (aj (aG (i:=4) ka.nd rfl 86 (qp MG FG hr rfl mG B0 .nil rH (af (a8 dQ rfl T.lst fZ (af (pv 1) aq)) (af (a8 dQ rfl T.lst fZ (af (pv 2) aq)) aq))))
  (aj (aG (i:=5) ka.nd rfl (Or.inr rfl) (bc aq))
  (aj (bJ cq rfl (g7 rfl T.Gk (af aC aq)) (aw (i:=6) ka.nd rfl (Or.inr rfl))
   (av (bJ cq rfl (aV (@bc _ _ _ _ (@af _ _ _ _ _ ba (@af _ _ _ _ _ ba (@af _ _ _ _ _ ba (@af _ _ _ _ _ ba (@af _ _ _ _ _ ba (@aq _) rfl) rfl) rfl) rfl) rfl))) (aw (i:=7) ka.nd rfl (Or.inr rfl))
    (aj (gE (iy:=8) ["_law_number","_law_other","_law_deed"] [(6,"_law_room"),(7,"_law_word")] ka.nd rfl rfl rfl (aV (pv 3)) (bf rfl rfl) nofun rfl nofun
     (λ_ _ _ _ _=>iD (n:=3) K rfl (aE (aw (i:=0) Wq rfl 86) (aE (aw (i:=1) Wq rfl 86) (aE (aw (i:=2) Wq rfl 86) bV))))
     (λ_ _ _ _ _=>eA (PW.pt (AQ (bj nP (pv 0) (pv 3) (cv _)) (wV (bj nP (pv 1) (pv 4) (cv _))))))
     (λ_ _ _ _ _=>pv 2))
    (av (df (il hX PySem.F.slot_list_extend PySem.F.type_list_extend En (pv 5) (af (bK ["_law_deed"] [(6,"_law_room"),(7,"_law_word")] rfl (aV (bZ GA hr rfl (af (pv 1) (af (pv 2) (af (pv 7) (af (pv 8) aq)))))) (bf rfl rfl) nofun rfl nofun
     (λ_ _ _ _ _=>aw (i:=0) (show (["_law_deed","_law_room","_law_word"]:z0s).Nodup by decide +kernel) rfl 86) (λ_ _ _ _ _=>cQ) (λ_ _ _ _ _=>bq (af (pv 1) (af (pv 2) (af (pv 0) aq))))) aq))))))))
  (aj (aG (i:=9) ka.nd rfl 86 (a8 dQ rfl T.lst fZ (af (pv 3) aq)))
  (aj (aG (i:=10) ka.nd rfl 86 (bZ GP hr rfl (af (pv 4) (af (pv 9) aq))))
  (aj (cS (PW.pt (yB (Gr (rE (bL zE rfl T.isi PyProof.Rows.boot_isinstance (af (pv 10) (af (J2 (v:=.ty "tuple") rfl T.tup vU rfl) aq)))))
   (yB (bj G1 (bL bX rfl T.len hU (af (pv 10) aq)) aC (cv _)) (wU (bj (AZ 2 hu3) (pv 9) (pv 3) (cv _)))))) (av (bp gQ)) bo)
  (aj (cS (bj (ST.yF 3 hu4) (pv 10) (bq (af (bK ["_law_deed"] [(5,"_law_aside_here")] rfl (aV (pv 3)) (bf rfl rfl) nofun rfl nofun
    (λ_ _ _ _ _=>aw (i:=0) (show (["_law_deed","_law_aside_here"]:z0s).Nodup by decide +kernel) rfl 86) (λ_ _ _ _ _=>eA (bj (AX (K:=K) rfl LV) (pv 0) (pv 1) rfl)) (λ_ _ _ _ _=>pv 0))
   (af (bL (B2 LV) rfl c_ Aa (af (pv 5) aq)) aq))) (cv _)) (av (bp gQ)) bo)
  (aj (df (il hX jG jH cN (aY bR (pv 10) aC 152) (af ba aq)))
  (av (bp (qr (ST.yH 3 hu4) (bZ GP hr rfl (af (qp (dvs:=[.dY]) MG FG hr rfl mG B1 (.cons rfl .nil) rH (af (a8 dQ rfl T.lst fZ (af (pv 1) aq)) aq)) (af (pv 9) aq))) (bq (af (pv 3) (af (bc aq) aq))) (cv _)))))))))))))),?_⟩
 dsimp only [lF];refine⟨_,rfl,a,ns,rfl,hS,∅,λR rs rest H1 s1 fR eR Z1 rr lr=>?_⟩;refine⟨_,rfl,a,ns,6,rfl,s1.seq hS,∅,λc6=>⟨c6,rfl,λS ss str rst H2 k2 fS eS O8 sS aah=>?_⟩⟩;have s2:=s1.trans k2;refine⟨_,rfl,_,rfl,a,ns,0,rfl,s2.seq hS,∅,λc0=>?_⟩;obtain⟨m,em,lm⟩:∃m:Nat,(1:Int)+c0 % 40=(m:Int)/\m<=40:=⟨((1:Int)+c0 % 40).toNat,∅,∅⟩;have Rk:(iN::rest).length=6:=by rw [dW,lr]
 have r8:∀ru∈iN::rest,ru.2.length<=8:=λru h=>by have:=(rr.e h).2.2;omega
 have eR2:=k2 _ _ eR;refine⟨_,_,rfl,rfl,nofun,_,_,rfl,rfl,_,rfl,a,R,ns,m,rs,iN::rest,congrArg (λz=>[V.ref a,V.int z,V.ref R]) em,s2.seq hS,∅,lm,aJ.of eR2,Z1.same k2,∅,r8,λL ts zs H3 k3 fL eL p3 tN nd lz kz=>?_⟩;have s3:=s2.trans k3;have eR3:=k3 _ _ eR2;have eS3:=k3 _ _ eS;have rl3:=Z1.same (k2.trans k3);have sl3:=O8.same k3;refine⟨_,rfl,R,_,rfl,.inl (aJ.of eR3),λL1 hL1=>?_⟩;have k4:=ag hL1 326;have e4:upd H3 L1 326 L1=some 326:=ae;generalize upd H3 L1 326=H4 at k4 e4;refine⟨_,rfl,S,_,rfl,.inl (aJ.of (k4 _ _ eS3)),λL2 US=>?_⟩;have k5:=ag US (.lst (ss.map V.ref));have e5:upd H4 L2 (.lst (ss.map V.ref)) L2=some (.lst (ss.map V.ref)):=ae;have e45:=k5 _ _ e4;have Bq:=k4.trans k5;generalize upd H4 L2 (.lst (ss.map V.ref))=H5 at k5 e5 e45 Bq;have Z0:=rl3.same Bq;have ZT:=sl3.same Bq;have t5:=hT.same (s3.trans Bq);have snd:(str.flatMap (·.2)).Nodup:=(fM.mp sS.nd).1;have s8:∀ru∈str,ru.2.length<=8:=λru h=>by have:=(sS.ok ru h).2;omega
 intro g gx hg hgx ng;refine⟨H5,g,gx,L1,.ref L2,rs,ss,iN::rest,str,_,_,rfl,(ag hgx _).trans (ag (by rw [ai ng.symm];exact hg) _),hg,ae,aJ.of e45,Z0,∅,r8,88,.inr ⟨L2,rfl,aJ.of e5,ZT⟩,∅,s8,snd,rr.good,t5,λbt HB sB tB gv=>⟨rfl,?_⟩⟩;have kB:=Kp.Z7 sB t5;clear sB;have eRB:=kB.lst (Bq _ _ eR3);have eSB:=kB.lst (Bq _ _ eS3);have OB:=kB.lst (Bq _ _ eL);have Ub:=kB.aa Z0;have ZS:=kB.aa ZT;have pB:Paired (cJ K HB) ts zs:=aD (λ_ _ h=>kB.d3 (cJ.same Bq h)) p3;have ghB:=gv.h;refine⟨qi,λA0 hA0=>?_⟩;have k6:=ag hA0 142;have e6:upd HB A0 142 A0=some (.lst (([]:z0p).map V.ref)):=ae;generalize upd HB A0 142=H6 at k6 e6;refine⟨(3:Int),rfl,nofun,nofun,?_⟩;rw [show (3:Int).toNat=3 from rfl];have Jk:=a9 pB
 let I1:Nat->149->List (Option V)->143:=λn y6 σ H7=>∃(us:z0p)(y7 y8:149),σ=[a7 a,a7 R,a7 S,a7 L,a7 g,a7 A0,y6,y7,y8,none,none]/\aF HB H7/\H7 A0=some (.lst (us.map V.ref))/\Paired (cJ K H7) us (yd (iN::rest) str zs (f_.take n))
 refine g_ (λi σ H7=>∃y6,I1 (5 * i) y6 σ H7) ⟨none,[],none,none,rfl,k6,e6,.nil⟩ ?_ ?_
 .rintro i σ H7 hi ⟨y6,us,y7,y8,rfl,s7,e7,p7⟩;refine goN ?_;refine⟨zl5,λW hW=>?_⟩;have k8:=ag hW (.lst [V.str "p",V.str "q",V.str "r",V.str "n",V.str ""]);have eW:upd H7 W (.lst [V.str "p",V.str "q",V.str "r",V.str "n",V.str ""]) W=some (.lst (DG.map V.str)):=ae;generalize upd H7 W (.lst [V.str "p",V.str "q",V.str "r",V.str "n",V.str ""])=H8 at k8 eW;have nWA:W≠A0:=λz=>by rw [z,e7] at hW;cases hW
  refine⟨W,rfl,⟨_,aJ.of eW⟩,?_⟩;refine cO (xs:=DG.map V.str) (λj σ H9=>I1 (5 * i+j) (some (.int (204))) σ H9/\H9 W=some (.lst (DG.map V.str))) ⟨⟨us,y7,y8,rfl,s7.trans k8,k8 _ _ e7,aD (λ_ _ h=>cJ.same k8 h) p7⟩,eW⟩ ?_ ?_ ?_
  .rintro j σ H9 _ ⟨_,h⟩;exact aJ.of h
  .rintro j v σ H9 ev ⟨⟨us,y7,y8,rfl,s9,e9,p9⟩,eW9⟩;rw [aS] at ev;obtain⟨wd,UZ,rfl⟩:=bQ.mp ev;have pat:=JW hi UZ;refine goN ?_;refine⟨_,rfl,L,rfl,⟨_,aJ.of (s9 _ _ OB)⟩,λE1 hE1=>?_⟩;refine bN (xs:=155) (λn ys σ2 gU=>∃(ds:z0p)(y0 y1 y2:149),ys=ds.map V.ref/\σ2=[y0,y1,y2,some (.int (204)),some (.str wd)]/\aF H9 gU/\gU E1=some (.lst ys)/\Paired (dR K HB) ds (cx (zs.take n) (204,wd)))
    ⟨[],none,none,none,rfl,rfl,ag hE1 _,ae,.nil⟩ ?_ ?_ ?_
   .rintro n ys σ2 gU _ ⟨ds,y0,y1,y2,rfl,rfl,ie,_⟩;exact aJ.of ((s9.trans ie) _ _ OB)
   .rintro n x ys σ2 gU ex ⟨ds,y0,y1,y2,rfl,rfl,ie,eE,pd⟩;rw [aS] at ex;obtain⟨t,et,rfl⟩:=bQ.mp ex;obtain⟨z,ez,b,v1,v2⟩:=b8 pB et;have li:=(bw.mp ez).1;have Q3:=jx (zs.take n) z (204,wd);rw [<-take_snoc ez] at Q3;have ld:=a9 pd;have ll:=lB (zs.take n) (204,wd);rw [dB] at ll;refine⟨t,_,rfl,(s9.trans ie).tup v1,rfl,_,_,rfl,_,_,rfl,_,_,rfl,rfl,?_⟩;have no:¬keyOf z=(204,wd)->∃(BS:z0p)(y0 y1 y2:149),ds.map V.ref=BS.map V.ref/\[some (.int z.1),some (.str z.2.1),a7 b,some (.int (204)),some (.str wd)]=[y0,y1,y2,some (.int (204)),some (.str wd)]/\aF H9 gU/\gU E1=some (.lst (ds.map V.ref))/\Paired (dR K HB) BS (cx (zs.take (n+1)) (204,wd)):=λc=>⟨ds,_,_,_,rfl,rfl,ie,eE,by rw [Q3,ar c];exact pd⟩;refine⟨_,rfl,_,rfl,rfl,_,rfl,?_⟩;refine dj (λc1=>⟨_,rfl,_,rfl,rfl,_,rfl,dj (λc2=>?_) (λc2=>?_)⟩) (λc1=>iP ?_)
    .have h1:z.1=204:=by have:=dC c1;injection this
     have h2:z.2.1=wd:=by have:=dC c2;injection this
     refine⟨_,rfl,eE,220,ds++[b],_,_,_,by rw [bC];rfl,rfl,b_ ie hE1,ae,?_⟩;rw [Q3,au (by unfold keyOf;rw [h1,h2])];exact cw v2 pd
    .exact no λh=>c2 (cZ (by injection h with _ h;rw [h]))
    exact no λh=>c1 (cZ (by injection h with h;rw [h]))
   rintro ys σ2 gU ⟨ds,y0,y1,y2,rfl,rfl,ie,eE,pd⟩;rw [aA,Jk,cE] at pd;have AN:=s9.trans ie;have SX:=ie _ _ e9;have ll:=lB zs (204,wd);have vdo:∀x∈cx zs (204,wd),VD (iN::rest).length x:=λx hx=>by
    obtain⟨z,hz,e⟩:=bD.mp hx;rw [<-e,Rk];exact(kz z (d6.mp hz).1).2.1
   refine⟨_,rfl,.inl ⟨rfl,_,aJ.of SX⟩,?_⟩;refine⟨_,rfl,_,rfl,_,rfl,_,rfl,R,S,E1,wd,rs,ss,ds,iN::rest,str,_,rfl,aJ.of (AN _ _ eRB),Ub.same AN,aJ.of (AN _ _ eSB),ZS.same AN,∅,(λru h=>(sS.ok ru h).1),aJ.of eE,aD (λ_ _ r=>AN.tup r) pd,Eh tN _,vdo,∅,λWM Vu pY wL xG Ug=>?_⟩;refine⟨WM,rfl,⟨_,aJ.of xG⟩,λD hD=>?_⟩;have WL:=a9 Ug;have la:(bU (iN::rest) str wd (cx zs (204,wd))).length<=2:=by have:=xS (iN::rest) str zs (204,wd);unfold B7 at this;rw [aA] at this;exact this
   refine bN (xs:=Vu.map V.ref) (λn ys σ2 jL=>∃(vs:z0p)(y0:149),ys=vs.map V.ref/\σ2=[y0,some (.int (204)),some (.str wd)]/\aF pY jL/\jL D=some (.lst ys)/\Paired (cJ K jL) vs ((B7 (iN::rest) str zs (204,wd)).take n))
    ⟨[],none,rfl,rfl,ag hD _,ae,.nil⟩ ?_ ?_ ?_
   .rintro n ys σ2 jL _ ⟨vs,y0,rfl,rfl,pM,_⟩;exact aJ.of (pM _ _ xG)
   .rintro n x ys σ2 jL ex ⟨vs,y0,rfl,rfl,pM,BR,Pe⟩;rw [aS] at ex;obtain⟨t,et,rfl⟩:=bQ.mp ex;obtain⟨dk,SU,rdk⟩:=b8 Ug et;have ln:=(bw.mp SU).1;have lv:=a9 Pe;rw [dB] at lv;have ak:(B7 (iN::rest) str zs (204,wd))[n]?=some (204,wd,dk):=by unfold B7;rw [aS,SU];rfl
    refine goN (BA ?_);refine⟨_,rfl,_,rfl,_,rfl,O1,λu hu=>?_⟩;have Ry:=ag hu (.tup [V.int (204),V.str wd,V.ref t]);have SY:aQ K (upd jL u (.tup [V.int (204),V.str wd,V.ref t])) u [V.int (204),V.str wd,V.ref t]:=aQ.of ae;generalize upd jL u (.tup [V.int (204),V.str wd,V.ref t])=tJ at Ry SY;have ES:=Ry _ _ BR;have up:∀{t:Addr}{z:D3},cJ K tJ t z->cJ K (upd tJ D (.lst (vs.map V.ref++[V.ref u]))) t z:=λ⟨b,h1,h2⟩=>⟨b,kT ES h1,kT ES h2⟩;refine⟨ES,220,vs++[u],_,by rw [bC];rfl,rfl,b_ (pM.trans Ry) hD,ae,?_⟩;rw [take_snoc ak];exact cw (up ⟨t,SY,(pM.trans Ry).tup rdk⟩) (aD (λ_ _ h=>up (cJ.same Ry h)) Pe)
   rintro ys σ2 jL ⟨vs,y0,rfl,rfl,pM,BR,Pe⟩;rw [aA,WL,show (B7 (iN::rest) str zs (204,wd)).take (bU (iN::rest) str wd (cx zs (204,wd))).length=B7 (iN::rest) str zs (204,wd) by unfold B7;rw [<-aA (f:=λd=>(204,wd,d)),cE]] at Pe;have nF:=(ie.trans wL).trans pM;have OF:=nF _ _ e9;have nDA:D≠A0:=λz=>by rw [z,wL _ _ SX] at hD;cases hD
   have lu:=a9 p9;have la9:=xT (iN::rest) str zs (f_.take (5 * i+j));rw [dB,show f_.length=15 from rfl] at la9;have lv:=a9 Pe;have lv2:=xS (iN::rest) str zs (204,wd);have up:∀{t:Addr}{z:D3},cJ K jL t z->cJ K (upd jL A0 (.lst (us.map V.ref++vs.map V.ref))) t z:=λ⟨b,h1,h2⟩=>⟨b,kT OF h1,kT OF h2⟩;refine⟨A0,D,_,_,rfl,rfl,OF,BR,fits (by rw [aA,aA];omega),?_⟩;refine⟨⟨us++vs,_,_,rfl,b_ (s9.trans nF) hA0,by rw [ae,bC],?_⟩,by rw [ai nWA];exact nF _ _ eW9⟩;rw [show f_.take (5 * i+(j+1))=f_.take (5 * i+j)++[(204,wd)] from take_snoc pat];unfold yd;rw [oM];show Paired _ _ (yd (iN::rest) str zs (f_.take (5 * i+j))++(B7 (iN::rest) str zs (204,wd)++[]));rw [fq];exact rK (aD (λ_ _ h=>up h) Pe) (aD (λ_ _ h=>up (cJ.same nF h)) p9)
  rintro σ H9 ⟨h,_⟩;rw [aA] at h;exact⟨_,h⟩
 rintro σ H7 ⟨y6,us,y7,y8,rfl,s7,e7,p7⟩;have p7:Paired (cJ K H7) us (yd (iN::rest) str zs f_):=p7;have LP:∀z∈zs,keyOf z∈f_:=λz hz=>(kz z hz).1;refine⟨_,rfl,L,_,rfl,.inl (aJ.of (s7 _ _ OB)),λHd hHd=>?_⟩;have k8:=ag hHd (.lst (155));have U9:upd H7 Hd (.lst (155)) Hd=222:=ae;generalize upd H7 Hd (.lst (155))=H8 at k8 U9;have O9:=s7.trans k8;have p8:Paired (cJ K H8) ts zs:=aD (λ_ _ h=>cJ.same O9 h) pB;have ZG:∀z∈zs,VD (iN::rest).length z.2.2:=λz hz=>by rw [Rk];exact(kz z hz).2.1
 refine⟨_,rfl,_,rfl,g,Hd,rs,ss,ts,iN::rest,str,zs,rfl,ghB.same O9,Ub.same O9,ZS.same O9,r8,∅,s8,aJ.of U9,p8,∅,tN,nd,ZG,λt l1 l2 v_ vs1 as H9 s9 ft fl1 et el1 el2 pu pas sas pms=>?_⟩;have VR:=O9.trans s9;have vt:aQ K H9 t [V.ref l1,V.ref l2]:=aQ.of et;refine⟨_,rfl,_,_,_,_,rfl,.tup vt,HE,_,rfl,iP ?_⟩;refine⟨_,rfl,t,_,rfl,.inr vt,rfl,_,rfl,iP ?_⟩;refine⟨_,rfl,_,rfl,Hd,L,_,_,rfl,rfl,aJ.of (s9 _ _ U9),aJ.of (VR _ _ OB),xJ (aD (λ_ _ h=>cJ.same s9 h) p8) (aD (λ_ _ h=>cJ.same s9 h) p8),_,rfl,iP ?_⟩;have pB9:Paired (cJ K H9) ts zs:=aD (λ_ _ h=>cJ.same s9 h) p8;have eA9:=(k8.trans s9) _ _ e7;have V7:Paired (cJ K H9) us (yd (iN::rest) str zs f_):=aD (λ_ _ h=>cJ.same (k8.trans s9) h) p7;refine⟨_,rfl,_,rfl,L,rfl,⟨_,aJ.of (VR _ _ OB)⟩,λD hD=>?_⟩;refine bN (xs:=155) (λi ys σ6 gU=>∃(ws:z0p)(y0:149),ys=ws.map V.ref/\σ6=[y0,a7 A0]/\aF H9 gU/\gU D=some (.lst ys)/\Paired (cJ K H9) ws ((zs.take i).filter λz=>!decide (z∈yd (iN::rest) str zs f_)))
  ⟨[],none,rfl,rfl,ag hD _,ae,.nil⟩ ?_ ?_ ?_
 .rintro i ys σ6 gU _ ⟨ws,y0,rfl,rfl,ie,_⟩;exact aJ.of ((VR.trans ie) _ _ OB)
 .rintro i v ys σ6 gU ev ⟨ws,y0,rfl,rfl,ie,sI,Pf⟩;rw [aS] at ev;obtain⟨tt,ett,rfl⟩:=bQ.mp ev;obtain⟨z,ez,hz⟩:=b8 pB9 ett;have li:=(bw.mp ez).1;have l6:=a9 Pf;have l7:((zs.take i).filter λz=>!decide (z∈yd (iN::rest) str zs f_)).length<=i:=dU (iz _ _) (by rw [dB];omega);have tk:(zs.take (i+1)).filter (λz=>!decide (z∈yd (iN::rest) str zs f_))=(zs.take i).filter (λz=>!decide (z∈yd (iN::rest) str zs f_))++(if (!decide (z∈yd (iN::rest) str zs f_))=true then [z] else []):=by
   rw [take_snoc ez,jR,qM,qI]
  refine goN ?_;refine⟨_,rfl,_,rfl,.mk A0 tt us _ z (aJ.of (ie _ _ eA9)) (aD (λ_ _ h=>cJ.same ie h) V7) (cJ.same ie hz) ⟨_,rfl,?_⟩⟩;refine dj (λc=>?_) (λc=>?_)
  .rw [au c] at tk;refine⟨_,rfl,sI,220,ws++[tt],_,by rw [bC];rfl,rfl,b_ ie hD,ae,by rw [tk];exact cw hz Pf⟩
  rw [ar c,fq] at tk;exact⟨ws,_,rfl,rfl,ie,sI,by rw [tk];exact Pf⟩
 rintro ys σ6 gU ⟨ws,y0,rfl,rfl,ie,sI,Pf⟩;rw [aA,Jk,cE] at Pf;have lA:=xT (iN::rest) str zs f_;have lA2:=a9 V7;have lA3:f_.length=15:=rfl;refine⟨_,rfl,A0,us,_,rfl,aJ.of (ie _ _ eA9),aD (λ_ _ h=>cJ.same ie h) V7,∅,λl7 Jh al XC Ug V5 QF=>?_⟩;have Fq:=ag XC (.lst (Jh.map V.ref));have xG:upd gU l7 (.lst (Jh.map V.ref)) l7=some (.lst (Jh.map V.ref)):=ae;generalize upd gU l7 (.lst (Jh.map V.ref))=pY at Fq xG;refine⟨kR,λt8 Uy=>?_⟩;have Rz:=ag Uy (.tup [V.ref D,V.ref l7]);have BR:aQ K (upd pY t8 (.tup [V.ref D,V.ref l7])) t8 [V.ref D,V.ref l7]:=aQ.of ae;generalize upd pY t8 (.tup [V.ref D,V.ref l7])=jL at Rz BR;have nF:=(ie.trans Fq).trans Rz;have eal:=IS nd LP sas pms QF V5;subst eal;rw [KY LP] at pu;refine⟨t,t8,_,_,rfl,rfl,nF.tup vt,BR,.cons (xI (nF _ _ el1) ((Fq.trans Rz) _ _ sI) (aD (λ_ _ h=>cJ.same nF h) pu) (aD (λ_ _ h=>cJ.same nF h) Pf)) (.cons (xI (nF _ _ el2) (Rz _ _ xG) (aD (λ_ _ h=>cJ.same nF h) pas) (aD (λ_ _ h=>cJ.same (Fq.trans Rz) h) Ug)) .nil),_,rfl,iP ?_⟩;have SI:=nF _ _ el1;have lu1:=a9 pu;have lf:(zs.filter λz=>!decide (z∈yd (iN::rest) str zs f_)).length<=zs.length:=iz _ _;refine⟨_,rfl,t,_,_,_,rfl,rfl,nF.tup vt,aZ (j:=0) rfl,.inl ⟨rfl,_,aJ.of SI⟩,l1,_,_,rfl,rfl,SI,220,?_⟩;have T8:aF H8 (upd jL l1 (.lst (v_.map V.ref++[V.str "more"]))):=b_ (s9.trans nF) fl1;generalize upd jL l1 (.lst (v_.map V.ref++[V.str "more"]))=tJ at T8;have M_:=O9.trans T8;have wm:=tB.same M_;refine⟨_,rfl,R,_,rfl,.inl (aJ.of (M_ _ _ eRB)),λL3 UR=>?_⟩;have HH:=ag UR 326;have Mi:upd tJ L3 326 L3=some 326:=ae;generalize upd tJ L3 326=OX at HH Mi;have M9:=M_.trans HH;intro g2 gx2 LZ XG ng2;refine⟨OX,g2,gx2,L3,.dY,rs,[],iN::rest,[],_,_,rfl,(ag XG _).trans (ag (by rw [ai ng2.symm];exact LZ) _),LZ,ae,aJ.of Mi,Ub.same M9,∅,r8,88,.inl ⟨rfl,rfl,rfl⟩,88,(λru h=>(by cases h)),88,rr.good,wm.same HH,λbt2 HC sC tC gv2=>⟨rfl,?_⟩⟩;have kC:=Kp.Z7 sC (wm.same HH);clear sC;have eHC:=kC.lst ((T8.trans HH) _ _ U9);have eLC:=kC.lst (M9 _ _ OB);have pC:Paired (cJ K HC) ts zs:=aD (λ_ _ h=>kC.d3 (cJ.same (T8.trans HH) h)) p8;refine⟨_,rfl,g2,Hd,rs,[],ts,iN::rest,[],zs,rfl,gv2.h,kC.aa (Ub.same M9),.nil,r8,88,(λru h=>(by cases h)),aJ.of eHC,pC,∅,tN,nd,ZG,λt' l1' l2' aac Vr as' Zt ZY _ _ U0 Yu Yt V2 V6 aad QY=>?_⟩;rw [zK] at V2 QY;have ef:(zs.filter λz=>!decide (z∈([]:List D3)))=zs:=by simp
 rw [ef] at V2;have eas:as'=[]:=qU.mp QY.length_eq;subst eas;have evs:Vr=[]:=qU.mp (a9 V6);subst evs;refine⟨_,rfl,qi,λN hN=>?_⟩;have k16:=ag hN 142;have e16:upd Zt N 142 N=some (.lst (([]:z0p).map V.ref)):=ae;generalize upd Zt N 142=H16 at k16 e16;refine⟨kR,λt9 ht9=>?_⟩;have WX:=ag ht9 (.tup [V.ref L,V.ref N]);have e17:aQ K (upd H16 t9 (.tup [V.ref L,V.ref N])) t9 [V.ref L,V.ref N]:=aQ.of ae;generalize upd H16 t9 (.tup [V.ref L,V.ref N])=H17 at WX e17;have Pc:=k16.trans WX;exact⟨t',t9,_,_,rfl,rfl,aQ.of (Pc _ _ U0),e17,.cons (xI (Pc _ _ Yu) ((ZY.trans Pc) _ _ eLC) (aD (λ_ _ h=>cJ.same Pc h) V2) (aD (λ_ _ h=>cJ.same (ZY.trans Pc) h) pC)) (.cons (xI (zs:=[]) (Pc _ _ Yt) (WX _ _ e16) .nil .nil) .nil),q _⟩
end
end gM
namespace L2
open PySem
def v_ {C:z0m->Prop}(h:∀a,C [a]):∀us:z0m,us.length=1->C us
 | [a],_=>h a
def Jg {C:z0m->Prop}(h:∀a b,C [a,b]):∀us:z0m,us.length=2->C us
 | [a,b],_=>h a b
def Qh {C:z0m->Prop}(h:∀a b c,C [a,b,c]):∀us:z0m,us.length=3->C us
 | [a,b,c],_=>h a b c
def ZH {C:z0m->Prop}(h:∀a b c d,C [a,b,c,d]):∀us:z0m,us.length=4->C us
 | [a,b,c,d],_=>h a b c d
def e_ (K:aU)(x:Str)(st:Stmt):Prop:=∃(g:Addr)(oc:Value)(od an:z0l)(sl:z0a)(kV dc pm cd ct:Value),PySem.W.nsIn K mainGlobals x=some (some (.ref g)) /\
 K.lookup g=some ⟨oc,od,.func (PySem.W.fnOf x x (cW st) (cg st) (az st) .none kV dc pm an cd ct),sl⟩/\PySem.W.codeIn K cd x=true/\PySem.W.keepIn K (.ref g)=true
def e_.get {K:aU}{h:Heap}{x:Str}(X:K.In h)(G:h.Ns mainGlobals mg)(H:e_ K x st):∃g gd,iU K x x st g gd/\mg x=some (.ref g):=by
 obtain⟨g,oc,od,an,sl,kV,dc,pm,cd,ct,a,l,c,k⟩:=H;exact⟨g,_,Ik (st:=st) l c k,oy X G a⟩
def Fi (K:aU)(x:Str)(st:Stmt)(T:Addr):Prop:=∃(g:Addr)(oc:Value)(od an:z0l)(sl:z0a)(kV dc pm:Value)(c:Addr)(ct:Value),PySem.W.nsIn K mainGlobals x=some (some (.ref g)) /\
 K.lookup g=some ⟨oc,od,.func (PySem.W.fnOf x x (cW st) (cg st) (az st) .none kV dc pm an (.ref c) ct),sl⟩/\PySem.W.codeIn K (.ref c) x=true/\PySem.W.codeHdIn K c T=true/\PySem.W.keepIn K (.ref g)=true
def Fi.get {K:aU}{h:Heap}{x:Str}{T:Addr}(X:K.In h)(G:h.Ns mainGlobals mg)(H:Fi K x st T):∃g gd,zQ K x x st g gd T/\mg x=some (.ref g):=by
 obtain⟨g,oc,od,an,sl,kV,dc,pm,c,ct,a,l,d,e,k⟩:=H;exact⟨g,_,⟨⟨oc,od,kV,dc,pm,an,c,ct,sl,rfl,l,d,e⟩,k⟩,oy X G a⟩
def zQ.binds {K:aU}{x qual:Str}{f T:Addr}{ps:z0s}(F:zQ K x qual st f fd T)
  (h:∀(kV doc pm:Value)(an:z0l)(dP ct:Value)(us:z0m),us.length=ps.length->bindArgs (PySem.W.fnOf x qual (cW st) (cg st) (az st) .none kV doc pm an dP ct) ⟨us,[]⟩=pure (ps.zip us)):Binds K fd ps []:=by
 obtain⟨oc,od,kV,doc,pm,an,c,ct,wW,rfl,lk,xA,_⟩:=F.ex;exact .all (h kV doc pm an (.ref c) ct)
def Cb (K:aU)(C:Addr)(m qual:Str)(st:Stmt):Prop:=∃(g:Addr)(oc:Value)(od an:z0l)(sl:z0a)(kV dc pm cd ct:Value),PySem.W.findIn K (.ref C) m=some (some (.ref g)) /\
 K.lookup g=some ⟨oc,od,.func (PySem.W.fnOf m qual (cW st) (cg st) (az st) .none kV dc pm an cd ct),sl⟩/\PySem.W.codeIn K cd qual=true/\PySem.W.keepIn K (.ref g)=true/\PySem.W.isFn K (.ref g)=true
def Cb.get {K:aU}(H:Cb K C m qual st):∃g gd,iU K m qual st g gd/\Meth K C m g:=by
 obtain⟨g,oc,od,an,sl,kV,dc,pm,cd,ct,a,l,c,k,i⟩:=H;exact⟨g,_,Ik (st:=st) l c k,⟨a,i,k⟩⟩
def e_.c {K:aU}{h:Heap}{x:Str}{k:Nat}{ps:z0s}(H:e_ K x st)(X:K.In h)(G:h.Ns mainGlobals mg)
  (b:∀(kV doc pm:Value)(an:z0l)(dP ct:Value)(us:z0m),us.length=ps.length->bindArgs (PySem.W.fnOf x x (cW st) (cg st) (az st) .none kV doc pm an dP ct) ⟨us,[]⟩=pure (ps.zip us))
  (o:∀{f:Addr}{fd:FuncData},iU K x x st f fd->mg x=some (.ref f)->Binds K fd ps []->bS P w K mg base fC k f fd ps sp):aM P w K mg base k x ps sp:=by
 obtain⟨f,fd,F,m⟩:=H.get X G;have B:=F.binds b;exact⟨f,fd,o F m B,B,F.kp,m⟩
def hD {K:aU}{x:Str}(g c:Addr)(pm:Value)(h:(PySem.W.nsIn K mainGlobals x,K.lookup g,PySem.W.codeIn K (.ref c) x,PySem.W.keepIn K (.ref g))=(some (some (.ref g)),some ⟨.type "function",none,.func (PySem.W.fnOf x x (cW st) (cg st) (az st) .none .none .none pm none (.ref c) .none),#[]⟩,true,true)):e_ K x st:=by
 simp only [jV] at h;exact⟨g,_,_,_,_,_,_,_,_,_,h.1,h.2.1,h.2.2.1,h.2.2.2⟩
def hC {K:aU}{x:Str}{T:Addr}(g c:Addr)(pm:Value)(h:(PySem.W.nsIn K mainGlobals x,K.lookup g,PySem.W.codeIn K (.ref c) x,PySem.W.codeHdIn K c T,PySem.W.keepIn K (.ref g))=(some (some (.ref g)),some ⟨.type "function",none,.func (PySem.W.fnOf x x (cW st) (cg st) (az st) .none .none .none pm none (.ref c) .none),#[]⟩,true,true,true)):Fi K x st T:=by
 simp only [jV] at h;exact⟨g,_,_,_,_,_,_,_,c,_,h.1,h.2.1,h.2.2.1,h.2.2.2.1,h.2.2.2.2⟩
def hM {K:aU}(g c:Addr)(pm:Value)(h:(PySem.W.findIn K (.ref C) m,K.lookup g,PySem.W.codeIn K (.ref c) qual,PySem.W.keepIn K (.ref g),PySem.W.isFn K (.ref g))=(some (some (.ref g)),some ⟨.type "function",none,.func (PySem.W.fnOf m qual (cW st) (cg st) (az st) .none .none .none pm none (.ref c) .none),#[]⟩,true,true,true)):Cb K C m qual st:=by
 simp only [jV] at h;exact⟨g,_,_,_,_,_,_,_,_,_,h.1,h.2.1,h.2.2.1,h.2.2.2.1,h.2.2.2.2⟩
end L2
namespace gM
open PySem L2 ST M11
def OW (K:aU)(C:Addr)(m qual:Str)(st:Stmt):Prop:=∃(g:Addr)(oc:Value)(od an:z0l)(sl:z0a)(kV dc pm cd ct:Value)(T:Addr)(o:Obj) (n:Nat),PySem.W.findIn K (.ref C) m=some (some (.ref g)) /\
 K.lookup g=some ⟨oc,od,.func (PySem.W.fnOf m qual (cW st) (cg st) (az st) (.ref T) kV dc pm an cd ct),sl⟩/\PySem.W.codeIn K cd qual=true/\K.lookup T=85/\o.data=.seq #[.none] n/\PySem.W.keepIn K (.ref g)=true/\PySem.W.isFn K (.ref g)=true
def OW.get {K:aU}(H:OW K C m qual st):∃g gd,Fj K m qual st g gd/\PySem.W.findIn K (.ref C) m=some (some (.ref g))/\PySem.W.isFn K (.ref g)=true:=by
 obtain⟨g,oc,od,an,sl,kV,dc,pm,cd,ct,T,o,n,a,l,c,t,d,k,i⟩:=H;exact⟨g,_,⟨⟨oc,od,kV,dc,pm,an,cd,ct,sl,T,o,n,rfl,l,c,t,d⟩,k⟩,a,i⟩
structure Top (K:aU)(C Cg C3 T1 T2 T3:Addr)(tm:Tok):Prop where
 nB:PySem.W.nsIn K mainGlobals "BeginTable"=some (some (.ref C))
 nG:PySem.W.nsIn K mainGlobals "Grammar"=some (some (.ref Cg))
 nL:PySem.W.nsIn K mainGlobals "LeastTrees"=some (some (.ref C3))
 nM:PySem.W.nsIn K mainGlobals "MOST_RULES"=some (some (.int 60 tm))
 v8:PySem.W.nsIn K mainGlobals "set"=some none
 c_:PySem.W.nsIn K mainGlobals "sorted"=some none
 h0:e_ K "heads_of" AH
 h1:e_ K "numbers_by_name" Gb
 h2:e_ K "standings_by_part" M7
 h3:e_ K "rule_size" oW
 h4:e_ K "empty_by_name" rC
 h5:e_ K "words_in" AA
 h6:e_ K "found_empties" rD
 h7:e_ K "first_places" wF
 h8:e_ K "way_back" M5
 h9:e_ K "steps_with_like_rows" AD
 Yb:e_ K "find_loop" Gd
 h11:e_ K "refuse_twice" AB
 h12:e_ K "names_met" M8
 h13:e_ K "clashes_of" wK
 h14:e_ K "levels_of" wG
 X_:e_ K "level_of_rule" rp
 h16:e_ K "put_aside" AK
 h17:e_ K "put_right" Ga
 h18:e_ K "_law_cell_at" Gg
 h19:e_ K "_law_rules" AE
 h20:e_ K "_law_strengths" M6
 h21:e_ K "_law_deeds" wJ
 h22:e_ K "_law_strength" i4
 h23:e_ K "_law_aside" wH
 XA:e_ K "law" DS
 Xg:e_ K "settled_sizes" nA
 Xm:e_ K "refuse_faults" wD
 hL:Fi K "least_sizes" rq T1
 hG:Fi K "greatest_empty_sizes" wI T2
 hLB:Fi K "least_by_part" nE T3
 mL1:Cb K C3 "__init__" "LeastTrees.__init__" AG
 mB1:Cb K C "__init__" "BeginTable.__init__" AJ
 mB2:Cb K C "find_begins" "BeginTable.find_begins" Gf
 mB3:Cb K C "words_of_part" "BeginTable.words_of_part" AF
 mG1:OW K Cg "__init__" "Grammar.__init__" rB
 pgB:PySem.W.plainGet K C Str.empty=true
 hdB:PySem.W.hasDictIn K C=true
 poB:PySem.W.plainOver K C=true
 saB:PySem.W.findIn K (.ref C) "__setattr__"=some (some (.builtin "object.__setattr__"))
 mkB:PySem.W.makesIn K C=true
 kpB:PySem.W.keepIn K (.ref C)=true
 pgG:PySem.W.plainGet K Cg Str.empty=true
 hdG:PySem.W.hasDictIn K Cg=true
 poG:PySem.W.plainOver K Cg=true
 saG:PySem.W.findIn K (.ref Cg) "__setattr__"=some (some (.builtin "object.__setattr__"))
 mkG:PySem.W.makesIn K Cg=true
 kpG:PySem.W.keepIn K (.ref Cg)=true
 pgL:PySem.W.plainGet K C3 Str.empty=true
 hdL:PySem.W.hasDictIn K C3=true
 poL:PySem.W.plainOver K C3=true
 saL:PySem.W.findIn K (.ref C3) "__setattr__"=some (some (.builtin "object.__setattr__"))
 mkL:PySem.W.makesIn K C3=true
 kpL:PySem.W.keepIn K (.ref C3)=true
 B9:PySem.W.findIn K (.ref C) "empties"=some none
 I8:PySem.W.findIn K (.ref C) "empty"=some none
 Ff:PySem.W.findIn K (.ref C) "begins"=some none
 Fe:PySem.W.findIn K (.ref C) "firsts"=some none
 IX:PySem.W.findIn K (.ref C3) "rules"=some none
 IZ:PySem.W.findIn K (.ref C3) "empty"=some none
 IY:PySem.W.findIn K (.ref C3) "least"=some none
 Fd:PySem.W.findIn K (.ref C3) "hollow"=some none
 uj:PySem.W.findIn K (.ref C3) "beginnings"=some none
 I0:PySem.W.findIn K (.ref Cg) "rules"=some none
 xV:PySem.W.findIn K (.ref Cg) "strengths"=some none
 tD:PySem.W.findIn K (.ref Cg) "begin_table"=some none
 xW:PySem.W.findIn K (.ref Cg) "standings"=some none
 tu:PySem.W.findIn K (.ref Cg) "small_trees"=some none
 Vk:PySem.W.nsIn K mainGlobals "len"=some none
 MD:PySem.W.nsIn K mainGlobals "range"=some none
 yh:PySem.W.nsIn K mainGlobals "isinstance"=some none
 MC:PySem.W.nsIn K mainGlobals "tuple"=some none
 Qd:PySem.W.nsIn K mainGlobals "list"=some none
 Qe:PySem.W.nsIn K mainGlobals "dict"=some none
 Vo:PySem.W.nsIn K mainGlobals "all"=some none
 Vn:PySem.W.nsIn K mainGlobals "any"=some none
 Vh:PySem.W.nsIn K mainGlobals "str"=some none
 Vm:PySem.W.nsIn K mainGlobals "int"=some none
 Qf:PySem.W.nsIn K mainGlobals "bool"=some none
 Ah:PySem.W.nsIn K mainGlobals "enumerate"=some none
 Vg:PySem.W.nsIn K mainGlobals "sum"=some none
 Vj:PySem.W.nsIn K mainGlobals "max"=some none
 Vi:PySem.W.nsIn K mainGlobals "min"=some none
def all_mk {l:PySem.W.OpenLaw}{K:aU}{h:Heap}(X:K.In h)(G:h.Ns mainGlobals mg)(hfa:mg "law"=some (.ref fa))(tp:Top K C Cg C3 T1 T2 T3 tm) :
  ∃fd:FuncData,(∀(s:Shared)(v:Value),BindsTo s fd ⟨[v],[]⟩ [("_law_script",v)])/\∀base:Heap,K.In base->base.Ns mainGlobals mg->tL mg base->bS l.prog w K mg base fC 9 fa fd ["_law_script"] (CB K T1 T2 T3):=by
 have T:Txt mg:=⟨d8 X G tp.Vk,d8 X G tp.MD,d8 X G tp.yh,d8 X G tp.MC,d8 X G tp.Qd,d8 X G tp.Qe,d8 X G tp.Vo,d8 X G tp.Vn,d8 X G tp.Vh,d8 X G tp.Vm,d8 X G tp.Qf,d8 X G tp.Ah,d8 X G tp.Vg,d8 X G tp.Vj,d8 X G tp.Vi⟩;obtain⟨Mh,Mm,zR,LG⟩:=tp.Xg.get X G;have Mr:=zR.binds (ps:=["rules","sizes","better"]) λ_ _ _ _ _ _=>by exact Qh λ_ _ _=>rfl
 obtain⟨Sy,Ta,Jf,Rf⟩:=tp.Xm.get X G;have Ti:=Jf.binds (ps:=["rules","strengths"]) λ_ _ _ _ _ _=>by exact Jg λ_ _=>rfl
 obtain⟨f_L,d_L,Zw,m_L⟩:=tp.hL.get X G;have b_L:=Zw.binds (ps:=["rules"]) 446
 obtain⟨f_G,d_G,Zx,m_G⟩:=tp.hG.get X G;have b_G:=Zx.binds (ps:=["rules"]) 446
 obtain⟨Yh,YM,OZ,Wz⟩:=tp.hLB.get X G;have Y3:=OZ.binds (ps:=["rules"]) 446
 obtain⟨Yk,aay,TR,Rh⟩:=tp.mB1.get;have Y7:=TR.binds (ps:=["self","rules"]) λ_ _ _ _ _ _=>by exact Jg λ_ _=>rfl
 obtain⟨aas,aax,TQ,WC⟩:=tp.mB2.get;have Y6:=TQ.binds (ps:=["self","number","rule"]) λ_ _ _ _ _ _=>by exact Qh λ_ _ _=>rfl
 obtain⟨aar,aaw,TN,WB⟩:=tp.mB3.get;have Y5:=TN.binds (ps:=["self","part"]) λ_ _ _ _ _ _=>by exact Jg λ_ _=>rfl
 obtain⟨Yi,aau,TM,Rg⟩:=tp.mL1.get;have Y4:=TM.binds (ps:=["self","rules","begin_table"]) λ_ _ _ _ _ _=>by exact Qh λ_ _ _=>rfl
 obtain⟨Yj,aav,O0,WA,W3⟩:=tp.mG1.get;have cB:BC K C:=⟨⟨tp.pgB,tp.hdB,tp.poB,tp.saB⟩,tp.B9,tp.I8,tp.Ff,tp.Fe⟩;have cG:GC K Cg:=⟨⟨tp.pgG,tp.hdG,tp.poG,tp.saG⟩,tp.I0,tp.xV,tp.tD,tp.xW,tp.tu⟩;have cL:LC K C3:=⟨⟨tp.pgL,tp.hdL,tp.poL,tp.saL⟩,tp.IX,tp.IZ,tp.IY,tp.Fd,tp.uj⟩;have kL:Mk K C3 Yi:=⟨tp.mkL,Rg.at_,Rg.fn,tp.kpL⟩;have kB:Mk K C Yk:=⟨tp.mkB,Rh.at_,Rh.fn,tp.kpB⟩;have kG:Mk K Cg Yj:=⟨tp.mkG,WA,W3,tp.kpG⟩;obtain⟨f9,d9,F9,m9⟩:=tp.XA.get X G;have e:=hfa.symm.trans m9;cases e;obtain⟨oc,od,kV,doc,pm,an,dP,ct,wW,eL,lk,xA⟩:=F9.ex;refine⟨d9,λs v=>?_,λbase _ _ Sr=>?_⟩
 .rw [eL];exact .of_eq rfl
 have c0:=tp.h0.c (P:=l.prog) (w:=w) (base:=base) X G 451 λF m B=>G_ F T;have c1:=tp.h1.c (P:=l.prog) (w:=w) (base:=base) X G 451 λF m B=>Kb F T c0;have c2:=tp.h2.c (P:=l.prog) (w:=w) (base:=base) X G 451 λF m B=>Nr F T;have c3:=tp.h3.c (P:=l.prog) (w:=w) (base:=base) X G (λ_ _ _ _ _ _=>by exact Jg λ_ _=>rfl) λF m B=>yK F T;have c4:=tp.h4.c (P:=l.prog) (w:=w) (base:=base) X G (λ_ _ _ _ _ _=>by exact Jg λ_ _=>rfl) λF m B=>A_ F T;have c5:=tp.h5.c (P:=l.prog) (w:=w) (base:=base) X G 451 λF m B=>G3 F T;have c6:=tp.h6.c (P:=l.prog) (w:=w) (base:=base) X G 451 λF m B=>Ba F T;have c7:=tp.h7.c (P:=l.prog) (w:=w) (base:=base) X G (λ_ _ _ _ _ _=>by exact Jg λ_ _=>rfl) λF m B=>Ed F T;have c8:=tp.h8.c (P:=l.prog) (w:=w) (base:=base) X G (λ_ _ _ _ _ _=>by exact Qh λ_ _ _=>rfl) λF m B=>Np F T;have c9:=tp.h9.c (P:=l.prog) (w:=w) (base:=base) X G 451 λF m B=>G5 F T c6 c0;have c10:=tp.Yb.c (P:=l.prog) (w:=w) (base:=base) X G 451 λF m B=>Kc F T c9 c8;have c11:=tp.h11.c (P:=l.prog) (w:=w) (base:=base) X G 451 λF m B=>G4 F T;have c12:=tp.h12.c (P:=l.prog) (w:=w) (base:=base) X G 451 λF m B=>Nu F T;have Mp:=tp.h13.c (P:=l.prog) (w:=w) (base:=base) X G 451 λF m B=>Hf F T (d8 X G tp.c_) (d8 X G tp.v8);have c14:=tp.h14.c (P:=l.prog) (w:=w) (base:=base) X G 451 λF m B=>Ee F T;have YY:=tp.X_.c (P:=l.prog) (w:=w) (base:=base) X G (λ_ _ _ _ _ _=>by exact Jg λ_ _=>rfl) λF m B=>A8 F T;have c16:=tp.h16.c (P:=l.prog) (w:=w) (base:=base) X G (λ_ _ _ _ _ _=>by exact ZH λ_ _ _ _=>rfl) λF m B=>Hh F T cG (YY.mono nofun);have c17:=tp.h17.c (P:=l.prog) (w:=w) (base:=base) X G (λ_ _ _ _ _ _=>by exact Jg λ_ _=>rfl) λF m B=>Nt F T cG (d8 X G tp.c_) (d8 X G tp.v8) (c14.mono nofun) (Mp.mono nofun) (c16.mono nofun);have c18:=tp.h18.c (P:=l.prog) (w:=w) (base:=base) X G (λ_ _ _ _ _ _=>by exact Jg λ_ _=>rfl) λF m B=>Ke F T;have c19:=tp.h19.c (P:=l.prog) (w:=w) (base:=base) X G 451 λF m B=>G6 F T (c18.mono nofun);have c20:=tp.h20.c (P:=l.prog) (w:=w) (base:=base) X G 451 λF m B=>Nq F T;have c21:=tp.h21.c (P:=l.prog) (w:=w) (base:=base) X G (λ_ _ _ _ _ _=>by exact Qh λ_ _ _=>rfl) λF m B=>He F T (d8 X G tp.c_) (d8 X G tp.v8);have c22:=tp.h22.c (P:=l.prog) (w:=w) (base:=base) X G (λ_ _ _ _ _ _=>by exact Jg λ_ _=>rfl) λF m B=>yJ F T;have c23:=tp.h23.c (P:=l.prog) (w:=w) (base:=base) X G (λ_ _ _ _ _ _=>by exact ZH λ_ _ _ _=>rfl) λF m B=>Ef F T (d8 X G tp.c_) (c22.mono nofun);have YV:aM l.prog w K mg base 2 "settled_sizes" ["rules","sizes","better"] (h_ K zW rP.1 rP.2.1 rP.2.2.1 M11.bl):=⟨Mh,Mm,A6 zR T,Mr,zR.kp,LG⟩;have YW:aM l.prog w K mg base 2 "settled_sizes" ["rules","sizes","better"] (h_ K LH Bk.1 Bk.2.1 Bk.2.2.1 M11.bg):=⟨Mh,Mm,A7 zR T,Mr,zR.kp,LG⟩;have c_L:aM l.prog w K mg base 3 "least_sizes" ["rules"] (qk K T1):=⟨f_L,d_L,G9 Zw T Sr c5 YV,b_L,Zw.kp,m_L⟩;have c_G:aM l.prog w K mg base 3 "greatest_empty_sizes" ["rules"] (wq K T2):=⟨f_G,d_G,Ha Zx Sr YW,b_G,Zx.kp,m_G⟩;have Tf:aM l.prog w K mg base 4 "refuse_faults" ["rules","strengths"] (rh K T1 T2):=⟨Sy,Ta,Ec Jf T (oy X G tp.nM) c11 c_L c0 c12 c10 c_G,Ti,Jf.kp,Rf⟩;have YX:aM l.prog w K mg base 4 "least_by_part" ["rules"] (oS K T1 T3):=⟨Yh,YM,A9 OZ T Sr (d8 X G tp.c_) (c0.mono nofun) c_L (c1.mono nofun) (c3.mono nofun),Y3,OZ.kp,Wz⟩;have Wb:=G7 (P:=l.prog) (w:=w) (base:=base) TN T cB;have Wc:=Kd TQ T cB c7 Wb WB Y5;have Wd:=Hg TR T cB c6 c0 Wc WC Y6;have V_:=G8 TM T cB cL YX (c4.mono nofun);have Wa:=Hc O0 T cG (Tf.mono nofun) (c2.mono nofun) (Wd.mono nofun) kB Y7 (oy X G tp.nB) V_ kL Y4 (oy X G tp.nL);exact Nv F9 T (d8 X G tp.c_) (c18.mono nofun) (c19.mono nofun) (c20.mono nofun) (c21.mono nofun) (c23.mono nofun) (c17.mono nofun) cG kG (Wa.mono nofun) (Ig O0) (Ie O0) (oy X G tp.nG)
def walk {l:PySem.W.OpenLaw}{q:Program}{loose:z0s}{d:DefRec}{K:Params->aU}(T1 T2 T3 c1 c2 c3:Addr)(LD:T1≠T2)(LA:T1≠T3)(Lz:T2≠T3)(hn:l.most=some 63)(Se:d.params.defaults=[])
  (hY:∀(w:World)(h:Heap),YP w h->(K w.params).In h/\∀T∈[T3,T2,T1],h.get? T=some (PySem.W.tabObj #[]))
  (hK1:∀w:World,(K w.params).lookup T1=none)(hK2:∀w:World,(K w.params).lookup T2=none)(hK3:∀w:World,(K w.params).lookup T3=none)(hC1:∀w:World,PySem.W.codeHdIn (K w.params) c1 T1=true)(hC2:∀w:World,PySem.W.codeHdIn (K w.params) c2 T2=true)(hC3:∀w:World,PySem.W.codeHdIn (K w.params) c3 T3=true)
  (F:∀(w:World)(mg:z0c)(fa:Addr)(h:Heap),(K w.params).In h->h.Ns mainGlobals mg->mg d.name=some (.ref fa) ->
   ∃fd:FuncData,(∀(s:Shared)(u:Value),BindsTo s fd ⟨[u],[]⟩ [("_law_script",u)])/\∀base:Heap,(K w.params).In base->base.Ns mainGlobals mg->tL mg base->bS l.prog w (K w.params) mg base fC 9 fa fd ["_law_script"] (CB (K w.params) T1 T2 T3)) :
  PySem.W.WalkO q loose XP YP l.row.toRowW d [] (λf vs=>PySem.call f vs) :=
 L2.FO (n:=63) (k:=9) (x := "_law_script") (CX:=λ_=>fC) (sp:=λw=>CB (K w.params) T1 T2 T3) hn nofun Se ⟨rfl,nofun,nofun,rfl⟩ hY (λw T hT=>by
  rcases aX.mp hT with e | hT
  .subst e;exact⟨hK3 w,c3,hC3 w⟩
  rcases aX.mp hT with e | hT
  .subst e;exact⟨hK2 w,c2,hC2 w⟩
  rw [bA.mp hT];exact⟨hK1 w,c1,hC1 w⟩) F (λ_ H a ns hl _ hT hS=>⟨a,ns,rfl,hS,hl,⟨⟨#[],hT T1 88,by trivial,.inl rfl⟩,⟨#[],hT T2 88,by trivial,.inl rfl⟩,⟨#[],hT T3 88,by trivial,.inl rfl⟩,LD,LA,Lz⟩,λ_=>rfl⟩) λ_ _ _ _ _ z=>z
end gM
set_option maxHeartbeats 0
end
namespace HD
open PySem PySem.W L2
def Vv (P:Params):gM.Top (K P) 132 394 365 275 280 309 573:=⟨nofun,nofun,nofun,nofun,nofun,nofun,
 hD 26 25 HD.m1 (nofun),
 hD 36 35 HD.m1 (nofun),
 hD 43 42 HD.m1 (nofun),
 hD 317 316 HD.m9 (nofun),
 hD 322 321 HD.m9 (nofun),
 hD 31 30 HD.m1 (nofun),
 hD 75 74 HD.m4 (nofun),
 hD 82 81 HD.m4 (nofun),
 hD 273 272 HD.m6 (nofun),
 hD 266 265 HD.m6 (nofun),
 hD 261 260 HD.m6 (nofun),
 hD 302 301 HD.m8 (nofun),
 hD 307 306 HD.m8 (nofun),
 hD 48 47 HD.m2 (nofun),
 hD 60 59 HD.m3 (nofun),
 hD 70 69 HD.m3 (nofun),
 hD 65 64 HD.m3 (nofun),
 hD 53 52 HD.m3 (nofun),
 hD 405 404 HD.C4 (nofun),
 hD 412 411 HD.C4 (nofun),
 hD 417 416 HD.C4 (nofun),
 hD 422 421 HD.C4 (nofun),
 hD 429 428 HD.C4 (nofun),
 hD 434 433 HD.C4 (nofun),
 hD 439 438 HD.C4 (nofun),
 hD 290 289 HD.m7 (nofun),
 hD 295 294 HD.m8 (nofun),
 hC 278 277 HD.m7 (nofun),
 hC 285 284 HD.m7 (nofun),
 hC 312 311 HD.m9 (nofun),
 hM 334 333 HD.m9 (nofun),
 hM 94 93 HD.m4 (nofun),
 hM 101 100 HD.m4 (nofun),
 hM 108 107 HD.m4 (nofun),
 ⟨384,.type "function",none,none,#[],.none,.none,.str "wright.grammars" 684,.ref 383,.none,377,⟨183,none,.seq #[.none] 0,#[]⟩,0,nofun,nofun,nofun,nofun,rfl,nofun,nofun⟩,nofun,nofun,nofun,nofun,nofun,nofun,nofun,nofun,nofun,nofun,nofun,nofun,nofun,nofun,nofun,nofun,nofun,nofun,nofun,nofun,nofun,nofun,nofun,nofun,nofun,nofun,nofun,nofun,nofun,nofun,nofun,nofun,nofun,nofun,nofun,nofun,nofun,nofun,nofun,nofun,nofun,nofun,nofun,nofun,nofun,nofun,nofun⟩
end HD
theorem PySem.Challenge.cw_wright_k47_strengths_holds : PySem.Challenge.rw_wright_k47_strengths.Holds := by
 refine HD.hold ?_ ?hw
 case hw=>w_witness2
 refine gM.walk (l:=PySem.Challenge.rw_wright_k47_strengths) (K:=HD.K) 275 280 309 277 284 311 nofun nofun nofun rfl HD.Q3 (λw h Y=>⟨PySem.W.km_in_of Y,PySem.W.km_tabs_of Y⟩) (λw=>by kernel_rfl) (λw=>by kernel_rfl) (λw=>by kernel_rfl) (λw=>by kernel_rfl) (λw=>by kernel_rfl) (λw=>by kernel_rfl) ?F;intro w mg fa h KX G R1;exact gM.all_mk KX G R1 (HD.Vv w.params)
