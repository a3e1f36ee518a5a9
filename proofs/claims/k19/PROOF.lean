import PyProof.Rows.All
import Wide.All
import OpenK.AllK
import Wide.FinOn
import Lean
import PyProof.EqAt
import PyProof.EqKinds
import PyProof.TupleCall
import KE.KNestM
import PyProof.IsiH_list
import PyProof.RaisesAny
import KE.KDictOf
import PyProof.CollectWalk
import PyProof.CompFree
import KE.KDictList
import PyProof.NeKinds
import PyProof.ConsumeWalk
import PyProof.StrBlockI
import PyProof.EnumFor
import PyProof.TupleIter
import PyProof.EnumMake
import KE.KLam
import PyProof.DictUpdate
import PyProof.SeqI3
import PyProof.DictWalks
import PyProof.ConsumeS
import PyProof.Rows.CallKwBuiltin
import PyProof.StrCalls2
import PyProof.StrLawsTight
import PyProof.StrLawsChain
import PyProof.Rows.StrItems
import PyProof.AutoListH
import PyProof.StrOps
import PyProof.StrOps2
import PyProof.StrCalls
import PyProof.Rows.StrPins
import PyProof.Rows.StrDouble
import PyProof.Rows.StrJoin2
import PyProof.ZipIter
import PyProof.ListNew
import KE.KRevSl
import PyProof.ListTruth
import PyProof.Rows.StrBool
import KE.KDictLaws
import KE.KSortKey
import KE.KTryMore
import PyProof.InstStoreFacts
import PyProof.ExcInit
import PyProof.ExcClass3
import PyProof.ExcBaseAll.ValueError
import PyProof.FString
import PyProof.RulesAs
import PyProof.RulesDel
import PyProof.ExcAttrAll.ValueError
import PyProof.ReprRoads
import PyProof.StrLawsRepr
import PyProof.Draws
import PyProof.EnumIter
import PyProof.Rows.MinMaxN
import PySem.Challenge.RW_wright_k19_vast_trees
set_option Elab.async false
set_option linter.all false
set_option maxRecDepth 100000
set_option hygiene false
local macro_rules
|`(56)=>`((·.1))
|`(108)=>`(by simp)
|`(111)=>`(some o)
|`(113)=>`(List aB)
|`(115)=>`(List V)
|`(116)=>`((bI rfl))
|`(121)=>`(Inv X ai σ H s)
|`(125)=>`((by simp))
|`(127)=>`(Sum.inr z)
|`(128)=>`((.lst []))
|`(140)=>`(List (aR×V))
|`(143)=>`(rs.map V.ref)
|`(144)=>`((λ_ _=>rfl))
|`(145)=>`((Sum.inr z))
|`(146)=>`((model X.prog X.w))
|`(147)=>`((model prog w))
|`(148)=>`(St->Hp->Prop)
|`(159)=>`(⟨_,rfl⟩)
|`(162)=>`((rs.map V.ref))
|`(163)=>`(.int (i:Int))
|`(178)=>`(s.heap.get? b=some o)
|`(179)=>`(s.heap.objs.size+1)
|`(182)=>`(i3 rfl rfl rfl rfl nofun)
|`(184)=>`(some (.dK kvs))
|`(185)=>`(.type "tuple")
|`(186)=>`((λvs H Q E h=>?_))
|`(190)=>`((s.heap.objs.size+1))
|`(195)=>`((λdB A outer s H vs Q E hr h=>?_))
|`(197)=>`(.ref s.heap.objs.size)
|`(198)=>`(λp=>(g p).getD 0)
|`(210)=>`(bx (by rw [aC];omega))
|`(215)=>`(by simpa using hb)
|`(216)=>`({ s with heap:=h' })
|`(217)=>`(some (.lst (ts.map V.ref)))
|`(235)=>`((.lst (rs.map V.ref)))
|`(247)=>`({ s with toks:=s.toks+1 })
|`(248)=>`(λy H4=>H4 D=some (.lst ys)/\ys.length < sizeLine/\W (i+1) m' (ys++[y]) σ2 (upd H4 D (.lst (ys++[y]))))
|`(250)=>`((∀ru∈aa,ru.2.length<=8))
|`(251)=>`(λ_ _ _ _ _ _=>by exact xJ λ_=>rfl)
|`(254)=>`(aj (λz=>by rw [z,hD] at hb;cases hb))
|`(266)=>`((λz=>decide (z∈bo.map (·.1))))
|`(267)=>`((x == ("__debug__":Str))=false)
|`(269)=>`(cE (ha pos ai s σ H _ I h) λus s1 aW=>?_)
|`(270)=>`((cE (ha pos ai s σ H _ I h) λus s1 aW=>?_))
|`(285)=>`({ cls:=.type "dict",data:=.dict #[] })
|`(286)=>`(some (.builtin "ValueError.__new__"))
|`(292)=>`(starEach (e::es) X.env=(false,eval e X.env)::starEach es X.env)
|`(293)=>`((λ_ _ _ _ _ _=>by exact xJ λ_=>rfl))
|`(300)=>`(eY (jR P w) P w K mg base N qual scope f cd A outer s₀ H₀ E)
|`(302)=>`({ cls:=.type "list_iterator",data:=.fields #[.ref l,.int 0 0] })
|`(304)=>`((tF X scope cl G2.objs.size s2 H2 (ts++js.map (·.2)) fp))
|`(318)=>`(eY (jR P w) P w K mg base N qual scope g cd A outer s₀ H₀ E)
|`(321)=>`(g x σ H' λσ2 H2=>tb { D with nx:=N,ct:=N,bk:=D.nx } σ2 H2)
|`(338)=>`(λh' eb=>⟨rfl,I.turned (t':=s.toks) (λb o hb e=>eb b o hb e) f0 f1 f3 f4 f5⟩)
|`(341)=>`(⟨λi m σ H=>m=xs.length - i/\i<=xs.length/\Pv i σ H,⟨xs.length,by simp,d6 _,h0⟩,?_⟩)
|`(346)=>`(.inr ⟨⟨xs,xs[i],q,by simp [iM]⟩,Pv (i+1),λσ' H' p'=>⟨xs.length - (i+1),∅,rfl,iM,p'⟩,λx H' y=>?_⟩)
|`(413)=>`(λσ2 H2=>tif σ2 H2 λb H3=>if b=true then te σ2 H3 λy H4=>H4 D=some (.lst ys)/\ys.length < sizeLine/\Pv (i+1) (ys++[y]) σ2 (upd H4 D (.lst (ys++[y]))) else Pv (i+1) ys σ2 H3)
|`(416)=>`(⟨ok.mod,ok.kind,ok.glob,ok.blt,ok.above,ok.inj,ok.has,ok.LN,ok.hd,ok.frames,ok.Ii,ok.Km,ok.bs,ok.ES,ok.yx,ok.xt,ok.mM,ok.IA⟩)
|`(417)=>`((specialIn K (.ref W) "__getattribute__",readsIn K W (.type "type"),findCls K (.ref W) (.type "type") "__init__",handedIn (.builtin "ValueError.__init__"),nsIn K mainGlobals "WrightError",nsIn K mainGlobals "ValueError",specialIn K (.builtin "object.__class__") "__get__",takesIn K (.builtin "object.__class__"))=(some (some (.builtin "type.__getattribute__")),true,some (.val (.builtin "ValueError.__init__")),true,some (some (.ref W)),some none,some (some (.builtin "getset_descriptor.__get__")),some true))
|`(418)=>`((findIn K (.ref C) "__getattribute__",findIn K (.ref C) "__getattr__",mroIn K C (.type "BaseException"),mroIn K C (.type "object"),findIn K (.ref C) "__class__",kitCls K (.ref C) (.ref C),findIn K (.ref C) fld,findIn K (.ref C) "__init__")=(some (some (.builtin "BaseException.__getattribute__")),some none,some true,some true,some (some (.builtin "object.__class__")),some true,some none,some (some (.ref f))))
local macro_rules | `(tactic| omega) => `(tactic| first | lia | omega (config := {}))
local macro_rules | `(∅) => `(by omega)
local macro_rules | `(nofun) => `(by first | decide +kernel | kernel_rfl)
abbrev z0a:=Array (Option PySem.Value)
abbrev z0b:=PySem.Value->PySem.Shared->Prop
abbrev z0c:=PySem.Str->Option PySem.Value
abbrev z0d:=List (PySem.Str×PySem.Value)
abbrev z0e:=List (PySem.Addr×PySem.Obj)
abbrev z0f:=List (PySem.Str×PySem.Addr)
abbrev z0g:=List (Nat×Nat)
abbrev z0h:=List (PySem.Str×Nat)
abbrev z0i:=List (Nat×PySem.Str)
abbrev z0j:=Option PySem.Value
abbrev z0k:=Array PySem.Value
abbrev z0l:=Option PySem.Addr
abbrev z0m:=List PySem.Value
abbrev z0n:=Option Int
abbrev z0o:=List PySem.Addr
abbrev z0p:=List PySem.Expr
abbrev z0q:=List PySem.Stmt
abbrev z0r:=List PySem.Str
abbrev z0s:=List Int
abbrev z0t:=List Nat
def bI:=@Or.inl
abbrev aV:=PySem.W.Frag
def oU:0<=PySem.sizeLine:=by decide
def EJ:1<=PySem.sizeLine:=by decide
def lX:2<=PySem.sizeLine:=by decide
def O4:3<=PySem.sizeLine:=by decide
def TH:4<=PySem.sizeLine:=by decide
def zl5:5<=PySem.sizeLine:=by decide
def zl6:6<=PySem.sizeLine:=by decide
def zl9:9<=PySem.sizeLine:=by decide
def TJ:12<=PySem.sizeLine:=by decide
def aC.{u,v}:=@List.length_map.{u,v}
def a_:=@PySem.Heap.get?_push_of_some
def bM.{u}:=@List.getElem?_eq_some_iff.{u}
def ax:=@PySem.wpAny_bind
def b9.{u,v}:=@Option.map_eq_some_iff.{u,v}
def bB.{u,v}:=@List.getElem?_map.{u,v}
def cf.{u}:=@List.mem_of_getElem?.{u}
def cw.{u}:=@List.mem_cons_of_mem.{u}
def bA.{u,v}:=@List.map_append.{u,v}
def cx.{u}:=@List.mem_cons_self.{u}
def bD.{u}:=@List.mem_singleton.{u}
def aG:=@Nat.le_refl
def bO.{u}:=@List.length_append.{u}
def cN.{u}:=@List.getElem?_eq_getElem.{u}
def aS.{u}:=@List.mem_cons.{u}
def aP:=@PySem.Heap.lt_size
def cu:=@PySem.Heap.get?_push_size
def aK:=@PySem.wpAny_pure
def cb.{u}:=@List.size_toArray.{u}
def bC.{u,v}:=@List.map_cons.{u,v}
def bp:=@Nat.ne_of_lt
def cM.{u}:=@List.take_add_one.{u}
def bT:=@PySem.Paired.length
def cD:=@PySem.PassesOwn.never
def dj:=@Bool.false_ne_true
def az.{u}:=@if_neg.{u}
def cK.{u}:=@List.mem_append.{u}
def aA.{u}:=@if_pos.{u}
def c_.{u}:=@List.length_cons.{u}
def dX:=@Nat.lt_of_lt_of_le
def dJ:=@of_decide_eq_true
def fY:=@PySem.F.plainAttrs_list
def gF:=@PySem.F.type_list_append
def gE:=@PySem.F.slot_list_append
def iz:=@PyProof.Rows.boot_isinstance
def fO.{u}:=@List.mem_append_right.{u}
def dI.{u}:=@List.take_length.{u}
def dW.{u}:=@List.all_eq_true.{u}
def cI:=@Nat.le_trans
def d7.{u}:=@List.length_take.{u}
def cQ.{u,v}:=@List.mem_map.{u,v}
def eE.{u}:=@List.append_nil.{u}
def gC:=@PySem.W.mg_none_of
def i9.{u}:=@Option.isSome_iff_exists.{u}
def cH:=@PySem.wpAny_mono
def ff:=@decide_eq_true
def i8.{u}:=@List.length_filter_le.{u}
def gB:=@decide_eq_false
def dU:=@PySem.wpAny_field
def d6:=@Nat.zero_le
def i7.{u,v}:=@List.mem_map_of_mem.{u,v}
def gU.{u}:=@List.mem_filter.{u}
def jY:=@PySem.Heap.get?_update_other
def iP.{u}:=@List.append_assoc.{u}
def i6.{u}:=@List.filter_append.{u}
def ib:=@Bool.eq_iff_iff
def lE.{u}:=@List.take_of_length_le.{u}
def jX.{u}:=@List.mem_append_left.{u}
def ix.{u}:=@List.length_nil.{u}
def h_:=@PySem.boot_len
def p8.{u}:=@List.getD_eq_getElem?_getD.{u}
def jW.{u}:=@beq_eq_false_iff_ne.{u}
def jM:=@PySem.wpAny_Call_Name_kw
def iO.{u}:=@List.nodup_cons.{u}
def hZ.{u}:=@List.sum_cons.{u}
def q9:=@PyProof.Rows.callWith_type1
def fX:=@Int.le_refl
def jL:=@Nat.lt_succ_self
def jK:=@Bool.and_eq_true
def nq.{u}:=@List.getElem?_of_mem.{u}
def jV:=@PySem.wpAny_pyIter_list
def p6:=@PySem.wpAny_callSpecial?_slot
def p5:=@PySem.F.plainAttrs_str
def jJ.{u}:=@Option.some.inj.{u}
def gA:=@PySem.Paired.snoc
def lC:=@PySem.wpAny_setField_rec
def pZ:=@PySem.wpAny_loadPart'
def iw:=@Nat.ne_of_gt
def i5:=@PySem.Heap.size_push
def i4.{u,v}:=@Prod.mk.injEq.{u,v}
def pY.{u}:=@List.mem_iff_getElem.{u}
def iN.{u,v,w}:=@List.map_map.{u,v,w}
def pX:=@PySem.codeAny_call_builtin
def nj.{u}:=@List.nodup_append.{u}
def pW.{u}:=@Array.length_toList.{u}
def jU:=@PySem.wpAny_seqItems
def jI:=@PySem.wpAny_holding
def ni.{u}:=@List.not_mem_nil.{u}
def ng.{u}:=@List.length_drop.{u}
def m_.{u}:=@List.filter_cons.{u}
def q8:=@PySem.StrLaws.glued_eq_join
def qZ:=@PySem.Heap.get?_update_self
def jT:=@PySem.W.mg_of
def jS:=@Nat.lt_irrefl
def pV:=@PySem.Calls.spliced_cons
def pU.{u,v}:=@Option.isSome_map.{u,v}
def pT:=@Int.toNat_natCast
def pS:=@Bool.eq_false_iff
def mZ.{u}:=@List.nil_append.{u}
def pR:=@PySem.wpAny_truthy_bool
def j8:=@PySem.wpAny_newObj_type
def fC:=@PySem.wpAny_call
def j7:=@Nat.le_add_right
def j6.{u}:=@List.getElem_mem.{u}
def hJ:=@Nat.le_succ
def jr.{u}:=@List.nodup_nil.{u}
def jq:=@List.mem_range
def j5:=@PySem.wpAny_call_entry
def lW:=@PySem.Obj.data_mapFields
def rB:=@PyProof.Rows.boot_tuple
def dA.{u}:=@Ne.symm.{u}
def oS.{u,v}:=@List.map_congr_left.{u,v}
def lV.{u}:=@beq_self_eq_true.{u}
def iY:=@PySem.codeAny_mono
def oR:=@Nat.lt_of_le_of_lt
def oQ.{u,v}:=@List.map_singleton.{u,v}
def iA:=@PySem.sizeLine_eq
def oP:=@List.length_range
def oO:=@PySem.tupleKind_room_in1
def v_.{u}:=@List.getElem?_append_right.{u}
def v9.{u}:=@Array.getElem?_eq_some_iff.{u}
def rA:=@Bool.and_eq_true_iff
def lU:=@PySem.wpAny_passesOwn
def v8.{u}:=@List.drop_eq_getElem_cons.{u}
def oN.{u,v}:=@List.mem_flatMap.{u,v}
def oM.{u,v}:=@List.getElem_map.{u,v}
def oK:=@PySem.wpAny_pyIter_enum
def j4:=@PySem.wpAny_attempt
def rq:=@PySem.mem_of_lookup
def rp.{u}:=@Array.toList_append.{u}
def j3:=@Nat.le_of_lt
def jZ.{u,v}:=@List.map_nil.{u,v}
def v7.{u,v}:=@List.length_filterMap_le.{u,v}
def vZ:=@PySem.F.slot_tuple_iterator_next
def ro:=@PySem.Around.under_plainId
def lS:=@PySem.wpAny_setField
def rm:=@PySem.W.callWith_K
def oJ.{u}:=@List.find?_cons.{u}
def vY.{u}:=@List.getElem?_set_self.{u}
def vX:=@PySem.F.slot_list_getattribute
def vW:=@PySem.wpAny_getItem_str_slice
def oH:=@PySem.codeAny_builtin
def vV:=@PySem.F.type_str_join
def vU:=@PySem.F.slot_str_join
def lR:=@Nat.zero_add
def lQ:=@Nat.lt_trans
def vT.{u}:=@List.length_singleton.{u}
def rj.{u}:=@List.getElem_inj.{u}
def vS:=@PySem.StrLaws.join_length_le
def vR.{u}:=@List.mem_of_mem_take.{u}
def vQ:=@PySem.Calls.callWith_builtin
def jo:=@PySem.wpAny_rule
def ri:=@PySem.wpAny_loadPart_at
def rh:=@PySem.Calls.spliced_nil
def oG:=@Bool.true_and
def lP:=@PySem.wpAny_typeOf
def vP:=@PySem.wpAny_pyNext_list_end
def lO.{u,v}:=@Sum.inr.inj.{u,v}
def vO.{u}:=@Option.some_ne_none.{u}
def rg.{u,v}:=@Option.map_some.{u,v}
def vN:=@PySem.Obj.isFreed_of_fields
def rf:=@Nat.not_lt_zero
def vM:=@PySem.F.slot_enumerate_next
def vL:=@PySem.wpAny_loadName_local
def vK.{u,v}:=@List.mem_filterMap.{u,v}
def vJ:=@PySem.Heap.get?_none_of_le
def vI:=@PySem.Calls.evalArgs_plain
def vH.{u}:=@Array.append_empty.{u}
def oF:=@PySem.strLen_append
def oE:=@PySem.plainId_quiet
def zP.{u}:=@List.getElem?_append_left.{u}
def rb:=@PySem.wpAny_execs_nil
def zO:=@PySem.F.slot_dict_update
def vG:=@Nat.lt_succ_of_lt
def vF.{u,v}:=@List.foldl_append.{u,v}
def vE:=@PySem.Heap.SameBut.update
def zN:=@PySem.wpAny_letOwnedTupleGo_enum
def zM:=@PySem.F.plainAttrs_dict
def q_.{u}:=@List.any_cons.{u}
def zL:=@Int.eq_ofNat_of_zero_le
def vD:=@PySem.wpAny_pyIter_tuple
def zK.{u}:=@List.drop_of_length_le.{u}
namespace L2
open PySem PySem.Spec PyProof.Rows
abbrev aR:=Sum Int Str
def sI:aR->Value->Bool
 | .inl k,v=>Value.isInt k v
 | .inr x,v=>Value.isStrOf x v
def Vs (w:World):aR->Int
 | .inl k=>hashInt k
 | .inr x=>hashStr w x
def cY:∀{k:aR}{v:Value},sI k v=true->(∃i t,k=Sum.inl i/\v=Value.int i t)\/(∃x t,k=Sum.inr x/\v=Value.str x t)
 | .inl i,v,h=>by
  obtain⟨t,e⟩:=Value.isInt_shape (k:=i) (v:=v) h;exact .inl ⟨i,t,rfl,e⟩
 | .inr x,v,h=>by
  obtain⟨t,e⟩:=Value.isStrOf_shape (x:=x) (v:=v) h;exact .inr ⟨x,t,rfl,e⟩
def DP (i:Int)(t:Tok):sI (.inl i) (.int i t)=true:=by simp [sI,Value.isInt]
def DO (x:Str)(t:Tok):sI (.inr x) (.str x t)=true:=by simp [sI,Value.isStrOf]
def Nm (a b:Int):decide ((Sum.inl a:aR)=Sum.inl b)=(a == b):=by
 by_cases e:a=b
 .subst e;simp
 have h:¬(Sum.inl a:aR)=Sum.inl b:=λq=>e (Sum.inl.inj q);rw [gB h];exact(jW.mpr e).symm
def Nj (a b:Str):decide ((Sum.inr a:aR)=Sum.inr b)=decide (a=b):=by
 by_cases e:a=b
 .subst e;simp
 have h:¬(Sum.inr a:aR)=Sum.inr b:=λq=>e (lO q);rw [gB h,gB e]
def Nl (a:Int)(b:Str):decide ((Sum.inl a:aR)=Sum.inr b)=false:=gB (λq=>nomatch q)
def Nk (a:Str) (b:Int):decide ((Sum.inr a:aR)=Sum.inl b)=false:=gB (λq=>nomatch q)
def aX (prog:Program)(w:World):PySem.KeyKind prog w aR where
 is:=sI
 hash:=Vs w
 inj:=λv a b ha hb=>by
  rcases cY ha with ⟨i,t,rfl,rfl⟩ | ⟨x,t,rfl,rfl⟩
  .rcases cY hb with ⟨j,u,rfl,e⟩ | ⟨y,u,rfl,e⟩
   .injection e with e1 _;rw [e1]
   exact nomatch e
  rcases cY hb with ⟨j,u,rfl,e⟩ | ⟨y,u,rfl,e⟩
  .exact nomatch e
  injection e with e1 _;rw [e1]
 byValue:=λk v h=>by
  rcases cY h with ⟨i,t,rfl,rfl⟩ | ⟨x,t,rfl,rfl⟩ <;> rfl
 pyHash:=λhv h=>by
  rcases cY hv with ⟨i,t,rfl,rfl⟩ | ⟨x,t,rfl,rfl⟩
  .exact wpAny_pyHash_int h
  exact wpAny_pyHash_str h
 eqBool:=λhu hv h=>by
  rcases cY hu with ⟨i,t,rfl,rfl⟩ | ⟨x,t,rfl,rfl⟩
  .rcases cY hv with ⟨j,u,rfl,rfl⟩ | ⟨y,u,rfl,rfl⟩
   .rw [Nm] at h;exact wpAny_eqBool_int h
   rw [Nl] at h;exact SeqAt.EqAt.int_str i t y u _ _ _ _ h
  rcases cY hv with ⟨j,u,rfl,rfl⟩ | ⟨y,u,rfl,rfl⟩
  .rw [Nk] at h;exact SeqAt.EqAt.str_int x t j u _ _ _ _ h
  rw [Nj] at h;exact wpAny_eqBool_str h
 «strs»:=λk x t v h=>by
  rcases cY h with ⟨i,u,rfl,e⟩ | ⟨y,u,rfl,e⟩
  .exact nomatch e
  injection e with e1 _;subst e1;cases v <;> rfl
def yD (prog:Program)(w:World) (i:Int)(t:Tok):(aX prog w).is (.inl i) (.int i t)=true:=DP i t
def yC (prog:Program)(w:World)(x:Str)(t:Tok):(aX prog w).is (.inr x) (.str x t)=true:=DO x t
inductive V where
 | dq | bl (b:Bool) | int (i:Int) | str (x:Str) | BG (b:Array UInt8) | NV (b:UInt64) | ref (a:Addr) | ty (n:String)
 deriving DecidableEq
def RelV:V->Value->Prop
 | .dq,u=>u=Value.none
 | .bl b,u=>u=Value.bool b
 | .int i,u=>∃t,u=Value.int i t
 | .str x,u=>∃t,u=Value.str x t
 | .BG b,u=>∃t,u=Value.bytes b t
 | .NV b,u=>∃t,u=Value.float b t
 | .ref a,u=>u=Value.ref a
 | .ty n,u=>u=Value.type n
abbrev aY:115->z0m->Prop:=Paired RelV
theorem aY.length {xs:115}{us:z0m}(r:aY xs us):xs.length=us.length:=bT r
theorem aY.get:∀{xs:115}{us:z0m}{i:Nat}{x:V},aY xs us->xs[i]?=some x->∃u,us[i]?=some u/\RelV x u
 | _,_,_,_,.nil,e=>by simp at e
 | _,_,0,_,.cons r _,e=>by simp at e;subst e;exact⟨_,rfl,r⟩
 | _,_,i+1,x,.cons _ t,e=>by
  obtain⟨u,h1,h2⟩:=aY.get (i:=i) (x:=x) t (by simpa using e);exact⟨u,by simpa using h1,h2⟩
theorem aY.append:∀{xs ys:115}{us ws:z0m},aY xs us->aY ys ws->aY (xs++ys) (us++ws)
 | _,_,_,_,.nil,s=>s
 | _,_,_,_,.cons r t,s=>.cons r (aY.append t s)
theorem aY.take:∀{xs:115}{us:z0m}(n:Nat),aY xs us->aY (xs.take n) (us.take n)
 | _,_,0,_=>.nil
 | _,_,_+1,.nil=>.nil
 | _,_,n+1,.cons r t=>.cons r (aY.take n t)
theorem aY.drop:∀{xs:115}{us:z0m}(n:Nat),aY xs us->aY (xs.drop n) (us.drop n)
 | _,_,0,r=>r
 | _,_,_+1,.nil=>.nil
 | _,_,n+1,.cons _ t=>aY.drop n t
def iJ:Option V->z0j->Prop
 | some v,some u=>RelV v u
 | none,none=>True
 | _,_=>False
def KV {κ:Type}:List (κ×V)->List (κ×Value)->Prop:=Paired λ(p:κ×V)(q:κ×Value)=>p.1=q.1/\RelV p.2 q.2
def kV:aR->V
 | .inl i=>.int i
 | .inr x=>.str x
inductive HO where
 | lst (xs:115)
 | tup (xs:115)
 | dK (kvs:140) | dT (kvs:List (List aR×V))
 | set (S:Int->Bool) (n:Nat)
 | ins (C dx:Addr)(fs:List (Str×V))
 | own (x:Addr)
 | xd (fs:List (Str×V))
 | met (f x:Addr)
 | Im (lo hi:Int)
 | kT (o:Obj)(u:HO)
 | ub (ps:z0k)
 | ext (φ:Heap->Prop)
abbrev Hp:=Addr->Option HO
def upd (H:Hp)(a:Addr)(o:HO):Hp:=λb=>if b=a then 111 else H b
def ae {a:Addr}{o:HO}:upd H a o a=111:=by unfold upd;rw [aA rfl]
def aj {a b:Addr}{o:HO}(h:b≠a):upd H a o b=H b:=by unfold upd;rw [az h]
def ie {a:Addr}{o u:HO}:upd (upd H a o) a u=upd H a u:=by
 funext b;unfold upd;split <;> rfl
def P9 {H:Hp}{a b:Addr}{o u:HO}(h:H a=111)(h':H b=some u)(d:o≠u):a≠b:=by
 intro e;subst e;rw [h] at h';exact d (jJ h')
def aq {H:Hp}{a b:Addr}{o:HO}(h:H a=111)(h':H b=none):a≠b:=by
 intro e;subst e;rw [h] at h';cases h'
section
variable (P:Program)(w:World)
def b8 (H:Hp)(h:Heap)(a:Addr):HO->Prop
 | .lst xs=>xs.length<=sizeLine/\∃(aN:z0m) (n:Nat),aY xs aN/\h.get? a=some { cls:=.type "list",data:=.seq aN.toArray n }
 | .tup xs=>xs.length<=sizeLine/\∃aN:z0m,aY xs aN/\IsTup h a aN.toArray
 | .dK kvs=>kvs.length<=sizeLine/\(a == sysModules)=false/\∃vs,KV kvs vs/\h.DictOf (aX P w) a vs
 | .dT kvs=>kvs.length<=sizeLine/\(a == sysModules)=false/\∃xs:List (List aR×Addr×Value),
   Paired (λ(p:List aR×V)(q:List aR×Addr×Value)=>p.1=q.1/\H q.2.1=some (.tup (p.1.map kV))/\RelV p.2 q.2.2) kvs xs /\
   ∃o es ep,h.get? a=111/\o.ExactDict/\o.data=.dict es ep/\es.toList=xs.map (entryOfKey (tupleKind (aX P w)))/\(xs.map 56).Nodup
 | .set S n=>h.SetOf (intKind P w) a S n
 | .ins C dx fs=>H dx=some (.own a)/\fs.length<=1000/\dx≠a/\h.get? a=some (PySem.W.instObj C dx) /\
   ∃mA,h.Ns1 dx mA/\(∀f,iJ (fs.lookup f) (mA f))/\PySem.Within mA (fs.map 56)
 | .own _=>∃o,h.get? a=111
 | .xd fs=>∃mA,h.Ns1 a mA/\∀f,iJ (fs.lookup f) (mA f)
 | .Im lo hi=>∃t u v,h.get? a=some { cls:=.type "range",data:=.fields #[.int lo t,.int hi u,.int 1 v] }
 | .kT o u=>h.get? a=111/\b8 H h a u
 | .ub ps=>h.get? a=some { cls:=.none,data:=.fields ps }
 | .met f x=>h.get? a=some (PySem.W.methodObj (.ref f) (.ref x))
 | .ext φ=>φ h/\(∃o,h.get? a=111)/\∀h1 h2:Heap,φ h1->(∀o,h1.get? a=111->h2.get? a=111)->φ h2
def lM (H:Hp)(h:Heap):Prop:=∀a o,H a=111->b8 P w H h a o
end
section
variable {P:Program}{w:World}{H H':Hp}{h h':Heap}{a:Addr}{o:HO}
theorem b8.lt (x:b8 P w H h a o):a < h.objs.size:=by
 cases o with
 | lst xs=>obtain⟨_,_,_,_,e⟩:=x;exact aP e
 | tup xs=>obtain⟨_,_,_,p⟩:=x;exact p.lt
 | dK kvs=>obtain⟨_,_,_,_,o,_,_,e,_⟩:=x;exact aP e
 | dT kvs=>obtain⟨_,_,_,_,o,_,_,e,_⟩:=x;exact aP e
 | set S n=>obtain⟨o,_,_,_,e,_⟩:=x;exact aP e
 | ins C dx fs=>obtain⟨_,_,_,e,_⟩:=x;exact aP e
 | own y=>obtain⟨_,e⟩:=x;exact aP e
 | xd fs=>obtain⟨_,⟨_,_,_,e,_⟩,_⟩:=x;exact aP e
 | Im lo hi=>obtain⟨_,_,_,e⟩:=x;exact aP e
 | kT ob u=>obtain⟨e,_⟩:=x;exact aP e
 | ub ps=>exact aP (show h.get? a=some _ from x)
 | met f y=>exact aP (show h.get? a=some _ from x)
 | ext φ=>obtain⟨_,⟨_,e⟩,_⟩:=x;exact aP e
theorem Paired.ij {α β:Type}{F G:α->β->Prop}:∀{l₁:List α}{l₂:List β},Paired F l₁ l₂->(∀a b,F a b->G a b)->Paired G l₁ l₂
 | _,_,.nil,_=>.nil
 | _,_,.cons r t,f=>.cons (f _ _ r) (Paired.ij t f)
def b8.gH (x:b8 P w H h a o)(k:∀b u,(b=a\/H b=some (.own a))->h.get? b=some u->h'.get? b=some u)
  (ho:∀b,H b=some (.own a)->H' b=some (.own a))(ht:∀b xs,H b=some (.tup xs)->H' b=some (.tup xs)):b8 P w H' h' a o:=by
 induction o with
 | lst xs=>obtain⟨z,aN,n,r,e⟩:=x;exact⟨z,aN,n,r,k _ _ (.inl rfl) e⟩
 | tup xs=>obtain⟨z,aN,r,ob,e,c⟩:=x;exact⟨z,aN,r,ob,k _ _ (.inl rfl) e,c⟩
 | dK kvs=>obtain⟨z,y,vs,r,ob,es,ep,e,c⟩:=x;exact⟨z,y,vs,r,ob,es,ep,k _ _ (.inl rfl) e,c⟩
 | dT kvs =>
  obtain⟨z,y,xs,r,ob,es,ep,e,c⟩:=x;exact⟨z,y,xs,Paired.ij r λp q z=>⟨z.1,ht _ _ z.2.1,z.2.2⟩,ob,es,ep,k _ _ (.inl rfl) e,c⟩
 | set S n=>obtain⟨ob,es,ep,t,e,c⟩:=x;exact⟨ob,es,ep,t,k _ _ (.inl rfl) e,c⟩
 | ins C dx fs =>
  obtain⟨d,z,ne,e,mA,⟨od,es,ep,e2,c⟩,r⟩:=x;exact⟨ho _ d,z,ne,k _ _ (.inl rfl) e,mA,⟨od,es,ep,k _ _ (.inr d) e2,c⟩,r⟩
 | own y=>obtain⟨ob,e⟩:=x;exact⟨ob,k _ _ (.inl rfl) e⟩
 | xd fs=>obtain⟨mA,⟨od,es,ep,e,c⟩,r⟩:=x;exact⟨mA,⟨od,es,ep,k _ _ (.inl rfl) e,c⟩,r⟩
 | Im lo hi=>obtain⟨t,u,v,e⟩:=x;exact⟨t,u,v,k _ _ (.inl rfl) e⟩
 | kT ob u ih=>obtain⟨e,q⟩:=x;exact⟨k _ _ (.inl rfl) e,ih q⟩
 | ub ps =>
  have e:h.get? a=some { cls:=.none,data:=.fields ps }:=x;show h'.get? a=some { cls:=.none,data:=.fields ps };exact k a _ (.inl rfl) e
 | met f y =>
  have e:h.get? a=some (PySem.W.methodObj (.ref f) (.ref y)):=x;show h'.get? a=some (PySem.W.methodObj (.ref f) (.ref y));exact k a _ (.inl rfl) e
 | ext φ=>obtain⟨p,⟨o,e⟩,st⟩:=x;exact⟨st _ _ p λo q=>k _ _ (.inl rfl) q,⟨o,k _ _ (.inl rfl) e⟩,st⟩
theorem lM.lt (x:lM P w H h)(e:H a=111):a < h.objs.size:=(x a o e).lt
def lM.fresh (x:lM P w H h)(e:h.objs.size<=a):H a=none:=by
 cases q:H a with
 | none=>rfl
 | some u=>exact absurd (dX (x.lt q) e) (jS _)
def lM.kept (x:lM P w H h)(k:∀b u,h.get? b=some u->h'.get? b=some u):lM P w H h':=λa o e =>
 (x a o e).gH (λb u _ q=>k b u q) (λ_ q=>q) λ_ _ q=>q
def lM.laid (x:lM P w H h)(k:∀b u,h.get? b=some u->h'.get? b=some u)(hp:h.objs.size<=a)(new:b8 P w (upd H a o) h' a o):lM P w (upd H a o) h':=λb u e=>by
 have hn:=x.fresh hp;by_cases hb:b=a
 .subst hb;rw [ae] at e;cases e;exact new
 rw [aj hb] at e;exact(x b u e).gH (λc v _ q=>k c v q) (λc q=>by rw [aj (aq q hn)];exact q) λc xs q=>by rw [aj (aq q hn)];exact q
end
def Rd (H:Hp)(a:Addr)(u:HO):Prop:=H a=some u\/∃o,H a=some (.kT o u)
def Rd.ok {w:World}{a:Addr}{u:HO}(r:Rd H a u)(x:lM P w H h):b8 P w H h a u:=by
 rcases r with r | ⟨o,r⟩
 .exact x a u r
 obtain⟨_,q⟩:=x a _ r;exact q
def RT:Option HO->Prop
 | some (.lst _)=>True
 | some (.dK _)=>True
 | some (.dT _)=>True
 | some (.set _ _)=>True
 | some (.ins _ _ _)=>True
 | some (.ext _)=>True
 | _=>False
section
variable {P:Program}{w:World}{H:Hp}{h h':Heap}{x e:Addr}{o':HO}
def lM.write (ok:lM P w H h)(mu:RT (H x))(he:e=x\/H e=some (.own x))(k:∀b u,b≠e->h.get? b=some u->h'.get? b=some u)(OL:∃u,h'.get? e=some u)
  (new:b8 P w (upd H x o') h' x o'):lM P w (upd H x o') h':=λb u q=>by
 have P6:∀c y,H c=some (.own y)->c≠x:=λc y r z=>by subst z;rw [r] at mu;exact mu
 have UQ:∀c xs,H c=some (.tup xs)->c≠x:=λc xs r z=>by subst z;rw [r] at mu;exact mu
 by_cases hb:b=x
 .subst hb;rw [ae] at q;cases q;exact new
 rw [aj hb] at q;by_cases NH:b=e
 .have q':H b=some (.own x):=by
   rcases he with z | z
   .exact absurd (NH.trans z) hb
   rw [NH];exact z
  rw [q] at q';cases q';obtain⟨v,hv⟩:=OL;exact⟨v,by rw [NH];exact hv⟩
 refine(ok b u q).gH (λc v hc r=>k c v ?_ r) (λc r=>by rw [aj (P6 c b r)];exact r) λc xs r=>by rw [aj (UQ c xs r)];exact r
 rcases hc with rfl | hc
 .exact NH
 rintro rfl;rcases he with z | z
 .exact P6 c b hc z
 rw [hc] at z;cases z;exact hb rfl
end
structure Un (fs ex:z0o)(H H':Hp)(h h':Heap):Prop where
 keep:∀b o,h.get? b=111->H b=none->b∉fs->b∉ex->h'.get? b=111
 slot:∀b o,h.get? b=111->H b=none->b∈fs->b∉ex->∃sl,h'.get? b=some { o with slots:=sl }
 free:∀b o,h.get? b=111->H b=none->b∉ex->H' b=none
 there:∀b o,h.get? b=111->b∉ex->∃o',h'.get? b=some o'
 rH:∀b xs,H b=some (.tup xs)->H' b=some (.tup xs)
 qF:∀b o u,H b=some (.kT o u)->H' b=some (.kT o u)
 qv:∀b ps,H b=some (.ub ps)->∃more,H' b=some (.ub (ps++more))
section
variable {fs LA ex ex':z0o}{H H1 H2:Hp}{h h1 h2 h':Heap}{a x e:Addr}{o:HO}
def Un.any (u:Un fs ex H H1 h h1){b:Addr}(q:h.get? b=some ob)(n:H b=none)(hx:b∉ex):∃sl,h1.get? b=some { ob with slots:=sl }:=by
 by_cases hb:b∈fs
 .exact u.slot b ob q n hb hx
 exact⟨ob.slots,u.keep b ob q n hb hx⟩
def Un.kept (k:∀b u,h.get? b=some u->h'.get? b=some u):Un fs ex H H h h' :=
 ⟨λb ob q _ _ _=>k b ob q,λb ob q _ _ _=>⟨ob.slots,k b ob q⟩,λ_ _ _ n _=>n,λb ob q _=>⟨ob,k b ob q⟩,λ_ _ q=>q,λ_ _ _ q=>q,λ_ ps q=>⟨#[],by rw [q];simp⟩⟩
def Un.refl:Un fs ex H H h h:=Un.kept λ_ _ q=>q
def Un.laid (k:∀b u,h.get? b=some u->h'.get? b=some u)(hp:h.objs.size<=a)(hn:H a=none):Un fs ex H (upd H a o) h h' where
 keep:=λb u q _ _ _=>k b u q
 slot:=λb u q _ _ _=>⟨u.slots,k b u q⟩
 free:=λb u q n _=>by rw [aj (bp (dX (aP q) hp))];exact n
 there:=λb u q _=>⟨u,k b u q⟩
 rH:=λb xs q=>by rw [aj (aq q hn)];exact q
 qF:=λb u xs q=>by rw [aj (aq q hn)];exact q
 qv:=λb ps q=>⟨#[],by rw [aj (aq q hn),q];simp⟩
def Un.write (mu:RT (H x))(he:e=x\/H e=some (.own x))(k:∀b u,b≠e->h.get? b=some u->h'.get? b=some u)(OL:∃u,h'.get? e=some u):Un fs ex H (upd H x o) h h':=by
 have hx:∀b,H b=none->b≠x:=λb n z=>by subst z;rw [n] at mu;exact mu
 have hb:∀b,H b=none->b≠e:=λb n z=>by
  subst z;rcases he with r | r
  .exact hx b n r
  rw [n] at r;cases r
 have hm:∀b u,H b=some u->¬RT (some u)->b≠x:=λb u q nm z=>by subst z;rw [q] at mu;exact nm mu
 refine⟨λb u q n _ _=>k b u (hb b n) q,λb u q n _ _=>⟨u.slots,k b u (hb b n) q⟩,λb u q n _=>by rw [aj (hx b n)];exact n,λb u q _=>?_,
  λb xs q=>by rw [aj (hm b _ q λz=>z)];exact q,λb u xs q=>by rw [aj (hm b _ q λz=>z)];exact q,λb ps q=>⟨#[],by rw [aj (hm b _ q λz=>z),q];simp⟩⟩
 by_cases NH:b=e
 .subst NH;exact OL
 exact⟨u,k b u NH q⟩
end
def Ig (h:Heap)(H:Hp):z0o:=(List.range h.objs.size).filter λa=>(H a).isSome
def uq (h:Heap)(H:Hp):Heap:=PySem.W.hideAll h (Ig h H)
def DT (h:Heap)(H:Hp):(uq h H).objs.size=h.objs.size:=PySem.W.hideAll_size _ _
def Hd {h:Heap}{b:Addr}{o:Obj}(e:h.get? b=111)(n:H b=none):(uq h H).get? b=111 :=
 PySem.W.hideAll_get _ e λhm=>by
  have q:(H b).isSome=true:=(gU.mp hm).2;rw [n] at q;simp at q
def JK {h:Heap}{b:Addr}{o:Obj}(e:(uq h H).get? b=111):h.get? b=111/\H b=none:=by
 have e':h.get? b=111:=PySem.W.of_hideAll (Ig h H) e;refine⟨e',?_⟩;cases q:H b with
 | none=>rfl
 | some x =>
  have hm:b∈Ig h H:=gU.mpr ⟨jq.mpr (aP e'),by simp [q]⟩;have z:(uq h H).get? b=none:=PySem.W.hideAll_none (Ig h H) hm;rw [z] at e;cases e
structure Mod (K:aV)(mg:z0c)(base:Heap):Prop where
 Li:K.In base
 glob:base.Ns mainGlobals mg
 blt:∃mb,base.Ns builtinsNs mb/\∀x:Str,x ≠ "__name__" -> mb x=bootBuiltins x
 nolimit:base.NoLimit
structure Cx where
 prog:Program
 w:World
 K:aV
 mg:Str->z0j
 base:Heap
 A:Around
 N:z0r
 s₀:Shared
 H₀:Hp
 env:Env
 outer:List Env
 stack:List Env
 ex:z0o
 fn:Str->Bool
 calm:Bool
 pn:z0e
 xe:Value->Shared->Prop
def qG (l:List Env):z0o:=l.filterMap (·.frame)
abbrev Cx.fs (X:Cx):z0o:=qG X.outer
def Ts (sc:Scope)(x:Str):Prop:=sc.names.lookup x=some .local\/sc.names.lookup x=some .cell\/sc.names.lookup x=some .free
def Loc (sc:Scope)(x:Str):Prop:=sc.names.lookup x=some .local\/sc.names.lookup x=some .cell
def Look (env:Env)(h:Heap)(m:z0c)(x:Str)(u:Value):Prop :=
 (env.kindOf x=some .local/\m x=some u)\/((env.kindOf x=some .cell\/env.kindOf x=some .free)/\∃c,env.cells.lookup x=some c/\h.IsCell c (some u))
structure Cx.Ok (X:Cx):Prop where
 mod:Mod X.K X.mg X.base
 kind:X.env.scope.kind=.function
 glob:X.env.globals=mainGlobals
 blt:X.env.builtins=builtinsNs
 above:X.s₀.heap.objs.size<=X.env.locals
 inj:∀x y c,X.env.cells.lookup x=some c->X.env.cells.lookup y=some c->x=y
 has:∀x,(X.env.kindOf x=some .cell\/X.env.kindOf x=some .free)->∃c,X.env.cells.lookup x=some c
 LN:∀x c,X.fn x=true->X.env.cells.lookup x=some c->X.s₀.heap.objs.size<=c
 hd:X.calm=true->X.A.handled=none
 frames:X.A.frames=some X.stack
 Ii:X.stack=X.outer\/(X.stack=X.env::X.outer/\X.env.frame=some X.env.locals)
 Km:∀b∈X.ex,b≠X.env.locals/\∀x c,X.env.cells.lookup x=some c->c≠b
 bs:∀b o,X.base.get? b=111->X.s₀.heap.get? b=111/\X.H₀ b=none
 ES:X.base.objs.size<=X.s₀.heap.objs.size
 yx:∀b o,X.base.get? b=111->b∉X.ex
 xt:∀b∈X.ex,b∉X.fs
 mM:X.s₀.heap.FunFrames X.base X.outer
 IA:∀b∈X.fs,X.H₀ b=none
structure Inv (X:Cx)(ai:z0e)(σ:List (Option V))(H:Hp)(s:Shared):Prop where
 ok:X.Ok
 os:s.os=X.s₀.os
 bare:AllBare s.gens
 base:Un X.fs X.ex X.H₀ H X.s₀.heap s.heap
 loc:∃m,s.heap.Ns X.env.locals m/\∀(i:Nat)(x:Str)(v:V),X.N[i]?=some x->σ[i]?=some (some v)->Ts X.env.scope x->∃u,RelV v u/\Look X.env s.heap m x u
 cell:∀x c,X.env.cells.lookup x=some c->∃v,s.heap.IsCell c v
 free:H X.env.locals=none
 iF:∀x c,X.env.cells.lookup x=some c->H c=none
 pin:∀p∈X.pn++ai,s.heap.get? p.1=some p.2/\H p.1=none/\p.1≠X.env.locals/\p.1∉X.fs/\∀v,p.2.data≠.cell v
 bw:lM X.prog X.w H s.heap
 len:σ.length=X.N.length
section
variable {X:Cx}{ai:z0e}{σ:List (Option V)}{H H':Hp}{s:Shared}{h':Heap}
def Cx.Ok.UT (ok:X.Ok){b:Addr}{o:Obj}(e:X.base.get? b=111):b∉X.fs:=λhb=>by
 have:=(ok.mM.mem hb).1;rw [e] at this;cases this
theorem Inv.bs (I:121):∀b o,X.base.get? b=111->178/\H b=none:=λb o e =>
 ⟨I.base.keep b o (I.ok.bs b o e).1 (I.ok.bs b o e).2 (I.ok.UT e) (I.ok.yx b o e),I.base.free b o (I.ok.bs b o e).1 (I.ok.bs b o e).2 (I.ok.yx b o e)⟩
def Inv.bk (I:121):∀b o,X.base.get? b=111->178:=λb o e=>(I.bs b o e).1
theorem Inv.mod (I:121):Mod X.K X.mg X.base:=I.ok.mod
def Inv.kx (I:121):X.K.In s.heap:=I.ok.mod.Li.keeps I.bk
def Inv.fr (I:121):∃m,Fr X.base X.env.locals s.heap m :=
 let ⟨m,hn,_⟩:=I.loc
 ⟨m,hn,I.bk,cI I.ok.ES I.ok.above⟩
theorem Inv.lt (I:121):X.env.locals < s.heap.objs.size:=let ⟨_,hn,_⟩:=I.loc;hn.lt
def Inv.sz (I:121):X.s₀.heap.objs.size<=s.heap.objs.size:=cI I.ok.above (j3 I.lt)
def Inv.US (I:121){a:Addr}(h:s.heap.objs.size<=a):a∉X.fs:=λhb=>by
 obtain⟨_,o,ho,_⟩:=I.ok.mM.mem hb;exact absurd (dX (aP ho) (cI I.sz h)) (jS _)
def Inv.LM (I:121):∀x c,X.env.cells.lookup x=some c->c≠X.env.locals:=λx c e z=>by
 obtain⟨v,o,ho,hd⟩:=I.cell x c e;obtain⟨m,⟨o',es,ep,J0,DU,_⟩,_⟩:=I.loc;rw [z,J0] at ho;cases ho;rw [DU] at hd;cases hd
theorem Inv.mM (I:121):s.heap.FunFrames X.base X.outer:=by
 have all:∀(l:List Env),(∀b∈qG l,b∈X.fs)->X.s₀.heap.FunFrames X.base l->s.heap.FunFrames X.base l:=by
  intro l
  induction l with
  | nil=>intro _ _;trivial
  | cons env r ih =>
   intro hs hl;obtain⟨hk,⟨L,o,hf,hn,ho,hd⟩,hr⟩:=hl;have hL:L∈X.fs:=hs L (by unfold qG;rw [List.filterMap_cons,hf];exact cx);obtain⟨sl,e⟩:=I.base.slot L o ho (I.ok.IA L hL) hL λz=>I.ok.xt L z hL;exact⟨hk,⟨L,_,hf,hn,e,hd⟩,ih (λb hb=>hs b (by unfold qG;rw [List.filterMap_cons,hf];exact cw _ hb)) hr⟩
 exact all X.outer (λ_ hb=>hb) I.ok.mM
theorem Inv.stack (I:121):s.heap.FunFrames X.base X.stack:=by
 rcases I.ok.Ii with e | ⟨e,hf⟩
 .rw [e];exact I.mM
 rw [e];obtain⟨m,hn,_⟩:=I.loc;refine .cons (by rw [I.ok.kind];decide) hf hn ?_ I.mM;exact vJ (cI I.ok.ES I.ok.above)
def Inv.wk (I:121):∀b∈qG X.stack,b∈X.env.locals::X.fs:=λb hb=>by
 rcases I.ok.Ii with e | ⟨e,hf⟩
 .rw [e] at hb;exact cw _ hb
 rw [e] at hb;unfold qG at hb;rw [List.filterMap_cons,hf] at hb;exact hb
def Inv.qK (I:121):∀b∈qG X.stack,H b=none:=λb hb=>by
 rcases aS.mp (I.wk b hb) with e | hb
 .rw [e];exact I.free
 obtain⟨_,o,ho,_⟩:=I.ok.mM.mem hb;exact I.base.free b o ho (I.ok.IA b hb) λz=>I.ok.xt b z hb
def Inv.step {g':Array GenState}{t':Nat}{d':Drawn}{ch:z0o}(I:121)
  (Iy:∀b∈ch,(b∈X.ex\/X.s₀.heap.objs.size<=b)/\b≠X.env.locals/\(∀x c,X.env.cells.lookup x=some c->c≠b)/\∀p∈X.pn++ai,p.1≠b)
  (keep:∀b o,b≠X.env.locals->b∉X.fs->b∉ch->178->H b=none->h'.get? b=111)
  (slot:∀b o,b≠X.env.locals->b∈X.fs->b∉ch->178->H b=none->∃sl,h'.get? b=some { o with slots:=sl })(free:∀b o,b∉ch->178->H b=none->H' b=none)
  (there:∀b o,b∉ch->178->∃o',h'.get? b=some o')
  (rH:∀b xs,H b=some (.tup xs)->H' b=some (.tup xs))(qF:∀b o u,H b=some (.kT o u)->H' b=some (.kT o u))(qv:∀b ps,H b=some (.ub ps)->∃more,H' b=some (.ub (ps++more)))
  (ns:∀m,s.heap.Ns X.env.locals m->h'.Ns X.env.locals m)(bw:lM X.prog X.w H' h')(hg:AllBare g') :
  Inv X ai σ H' { s with heap:=h',gens:=g',drawn:=d',toks:=t' }:=by
 have YN:∀b o,X.s₀.heap.get? b=111->b≠X.env.locals:=λb o e=>bp (dX (aP e) I.ok.above);have OD:∀b o,X.s₀.heap.get? b=111->b∉X.ex->b∉ch:=λb o e hx hb=>by
  rcases (Iy b hb).1 with z | z
  .exact hx z
  exact absurd (dX (aP e) z) (jS _)
 have cellK:∀x c,X.env.cells.lookup x=some c->∀v,s.heap.IsCell c v->h'.IsCell c v:=λx c e v ⟨o,ho,hd⟩=>by
  have P_:c∉ch:=λz=>(Iy c z).2.2.1 x c e rfl;by_cases hc:c∈X.fs
  .obtain⟨sl,q⟩:=slot c o (I.LM x c e) hc P_ ho (I.iF x c e);exact⟨_,q,hd⟩
  exact⟨o,keep c o (I.LM x c e) hc P_ ho (I.iF x c e),hd⟩
 refine⟨I.ok,I.os,hg,⟨λb o e n hb hx=>?_,λb o e n hb hx=>?_,λb o e n hx=>?_,λb o e hx=>?_,λb xs e=>rH b xs (I.base.rH b xs e),λb o xs e=>qF b o xs (I.base.qF b o xs e),λb ps e=>?_⟩,?_,λx c e=>?_,?_,λx c e=>?_,λp hp=>?_,bw,I.len⟩
 .exact keep b o (YN b o e) hb (OD b o e hx) (I.base.keep b o e n hb hx) (I.base.free b o e n hx)
 .obtain⟨sl,e1⟩:=I.base.slot b o e n hb hx;obtain⟨sl',e2⟩:=slot b _ (YN b o e) hb (OD b o e hx) e1 (I.base.free b o e n hx);exact⟨sl',e2⟩
 .obtain⟨o',e1⟩:=I.base.there b o e hx;exact free b o' (OD b o e hx) e1 (I.base.free b o e n hx)
 .obtain⟨o',e1⟩:=I.base.there b o e hx;exact there b o' (OD b o e hx) e1
 .obtain⟨m1,e1⟩:=I.base.qv b ps e;obtain⟨m2,e2⟩:=qv b _ e1;exact⟨m1++m2,by rw [e2,Array.append_assoc]⟩
 .obtain⟨m,hn,hl⟩:=I.loc;refine⟨m,ns m hn,λi x v e1 e2 e3=>?_⟩;obtain⟨u,r,l⟩:=hl i x v e1 e2 e3;refine⟨u,r,?_⟩;rcases l with l | ⟨k,c,e,z⟩
  .exact .inl l
  exact .inr ⟨k,c,e,cellK x c e _ z⟩
 .obtain⟨v,z⟩:=I.cell x c e;exact⟨v,cellK x c e v z⟩
 .obtain⟨m,⟨o,_,_,ho,_⟩,_⟩:=I.loc;exact free _ o (λz=>(Iy _ z).2.1 rfl) ho I.free
 .obtain⟨v,o,ho,hd⟩:=I.cell x c e;exact free c o (λz=>(Iy c z).2.2.1 x c e rfl) ho (I.iF x c e)
 obtain⟨e,n,ne,nf,d⟩:=I.pin p hp;have P_:p.1∉ch:=λz=>(Iy p.1 z).2.2.2 p hp rfl;exact⟨keep p.1 p.2 ne nf P_ e n,free p.1 p.2 P_ e n,ne,nf,d⟩
def Inv.un {t':Nat}(I:121)(u:Un X.fs [] H H' s.heap h')(bw:lM X.prog X.w H' h'):Inv X ai σ H' { s with heap:=h',toks:=t' }:=by
 obtain⟨m,⟨o,es,ep,ho,r⟩,_⟩:=id I.loc;obtain⟨sl,hL⟩:=u.any ho I.free 125;exact I.step (g':=s.gens) (d':=s.drawn) (ch:=[]) (λ_ z=>nomatch z) (λb o _ hb _ e n=>u.keep b o e n hb 125) (λb o _ hb _ e n=>u.slot b o e n hb 125) (λb o _ e n=>u.free b o e n 125) (λb o _ e=>u.there b o e 125) u.rH u.qF u.qv (λm' hm=>by
  obtain⟨o',SW,WV,J0,r'⟩:=hm;rw [ho] at J0;cases J0;exact⟨_,SW,WV,hL,r'⟩) bw I.bare
def Inv.call {g':Array GenState}{t':Nat}{d':Drawn}{ch:z0o}(I:121)(u:Un (qG X.stack) ch H H' s.heap h')(bw:lM X.prog X.w H' h')(hg:AllBare g')
  (Iy:∀b∈ch,(b∈X.ex\/X.s₀.heap.objs.size<=b)/\b≠X.env.locals/\(∀x c,X.env.cells.lookup x=some c->c≠b)/\∀p∈X.pn++ai,p.1≠b) :
  Inv X ai σ H' { s with heap:=h',gens:=g',drawn:=d',toks:=t' }:=by
 obtain⟨m,⟨o,es,ep,ho,r⟩,_⟩:=id I.loc;obtain⟨sl,hL⟩:=u.any ho I.free λz=>(Iy _ z).2.1 rfl;exact I.step (ch:=ch) Iy (λb o hL hb hc e n=>u.keep b o e n (λz=>(aS.mp (I.wk b z)).elim hL hb) hc) (λb o _ _ hc e n=>u.any e n hc) (λb o hc e n=>u.free b o e n hc) (λb o hc e=>u.there b o e hc) u.rH u.qF u.qv (λm' hm=>by
  obtain⟨o',SW,WV,J0,r'⟩:=hm;rw [ho] at J0;cases J0;exact⟨_,SW,WV,hL,r'⟩) bw hg
def Inv.turned {t':Nat}{it:Addr}(I:121)(k:∀b o,b≠it->178->h'.get? b=111)(hn:H it=none)(hL:it≠X.env.locals)
  (h1:it∈X.ex\/X.s₀.heap.objs.size<=it)(h2:∀x c,X.env.cells.lookup x=some c->c≠it)(h3:∀p∈X.pn++ai,p.1≠it):Inv X ai σ H { s with heap:=h',toks:=t' }:=by
 have YM:∀b u,H b=some u->b≠it:=λb u e z=>by rw [z,hn] at e;cases e
 refine I.step (g':=s.gens) (d':=s.drawn) (ch:=[it]) (λb hb=>?_) (λb o _ _ hc e _=>k b o (λz=>hc (by simp [z])) e) (λb o _ _ hc e _=>⟨o.slots,k b o (λz=>hc (by simp [z])) e⟩) (λ_ _ _ _ n=>n)
  (λb o hc e=>⟨o,k b o (λz=>hc (by simp [z])) e⟩) (λ_ _ e=>e) (λ_ _ _ e=>e) (λb ps e=>⟨#[],by rw [e];simp⟩) (λm hm=>?_) (λb u e=>?_) I.bare
 .have e:b=it:=215
  subst e;exact⟨h1,hL,h2,h3⟩
 .obtain⟨o,es,ep,ho,r⟩:=hm;exact⟨o,es,ep,k _ o (dA hL) ho,r⟩
 refine(I.bw b u e).gH (λc v hc q=>k c v ?_ q) (λ_ q=>q) λ_ _ q=>q;rcases hc with z | z
 .rw [z];exact YM b u e
 exact YM c _ z
def Inv.tok (I:121) (t:Nat):Inv X ai σ H { s with toks:=t }:=I.un (h':=s.heap) (t':=t) Un.refl I.bw
theorem Inv.kept (I:121)(k:∀b u,s.heap.get? b=some u->h'.get? b=some u):Inv X ai σ H { s with heap:=h',toks:=t' }:=I.un (Un.kept k) (I.bw.kept k)
theorem Inv.laid {a:Addr}{o:HO}(I:121)(k:∀b u,s.heap.get? b=some u->h'.get? b=some u)(hp:s.heap.objs.size<=a)(new:b8 X.prog X.w (upd H a o) h' a o) :
  Inv X ai σ (upd H a o) { s with heap:=h',toks:=t' }:=I.un (Un.laid k hp (I.bw.fresh hp)) (I.bw.laid k hp new)
theorem Inv.write {x e:Addr}{o:HO}(I:121)(mu:RT (H x))(he:e=x\/H e=some (.own x))(k:∀b u,b≠e->s.heap.get? b=some u->h'.get? b=some u)(OL:∃u,h'.get? e=some u)
  (new:b8 X.prog X.w (upd H x o) h' x o):Inv X ai σ (upd H x o) { s with heap:=h',toks:=t' }:=I.un (Un.write mu he k OL) (I.bw.write mu he k OL new)
def Inv.Ct (I:121)(h:∀p∈iS,s.heap.get? p.1=some p.2/\H p.1=none/\p.1≠X.env.locals/\p.1∉X.fs/\∀v,p.2.data≠.cell v):Inv X iS σ H s :=
 ⟨I.ok,I.os,I.bare,I.base,I.loc,I.cell,I.free,I.iF,λp hp=>(cK.mp hp).elim (λz=>I.pin p (jX _ z)) (h p),I.bw,I.len⟩
def so {N:z0r}(hN:N.Nodup){i j:Nat}{x:Str}(a:N[i]?=some x)(b:N[j]?=some x):i=j:=by
 obtain⟨h1,e1⟩:=bM.mp a;obtain⟨h2,e2⟩:=bM.mp b;exact(rj hN).mp (e1.trans e2.symm)
def uJ {E:z0b}{i:Nat}{x:Str}{v:V}{u:Value}{Q:Unit->Shared->Prop}(I:121)(hN:X.N.Nodup)(hi:X.N[i]?=some x)(hx:Loc X.env.scope x)(r:RelV v u)
  (h:∀s',Inv X ai (σ.set i (some v)) H s'->(∃a,Heap.SameBut a s.heap s'.heap/\(a=X.env.locals\/X.env.cells.lookup x=some a))->Q () s')(hf:X.fn x=true\/X.env.scope.names.lookup x=some .local:=by first | exact .inl rfl | exact .inr rfl | assumption):wpAny M A (storeName X.env x u) Q E s:=by
 obtain⟨m,hn,hl⟩:=id I.loc;have Wq:(X.env.scope.kind == .class || (X.env.scope.kind == .module && X.env.locals != X.env.globals))=false:=by rw [I.ok.kind];rfl
 have Zk:i < σ.length:=by rw [I.len];exact(bM.mp hi).1
 have LM:=I.LM;have tracked:∀{a:Addr}{h':Heap},(∃o,s.heap.get? a=111/\H a=none)->Heap.SameBut a s.heap h'->lM X.prog X.w H h':=λ{a h'} ha hs b ob e=>by
  obtain⟨_,_,n_⟩:=ha;refine(I.bw b ob e).gH (λc w' hc q=>(hs.2 c ?_).trans q) (λ_ q=>q) λ_ _ q=>q;rintro rfl;rcases hc with rfl | hc
  .rw [n_] at e;cases e
  rw [n_] at hc;cases hc
 rcases hx with hk | hk
 .refine wpAny_storeName_local hk hn (λh' Nz hs=>?_) Wq;obtain⟨oL,_,_,hoL,_⟩:=id hn;refine h _ ⟨I.ok,I.os,I.bare,⟨λb o e n hb hx=>?_,λb o e n hb hx=>?_,I.base.free,λb o e hx=>?_,I.base.rH,I.base.qF,I.base.qv⟩,⟨_,Nz,λj y v' e1 e2 e3=>?_⟩,λy c e=>?_,I.free,I.iF,λp hp=>?_,tracked ⟨oL,hoL,I.free⟩ hs,by simpa using I.len⟩ ⟨_,hs,.inl rfl⟩
  .exact(hs.2 b (bp (dX (aP e) I.ok.above))).trans (I.base.keep b o e n hb hx)
  .obtain⟨sl,e1⟩:=I.base.slot b o e n hb hx;exact⟨sl,(hs.2 b (bp (dX (aP e) I.ok.above))).trans e1⟩
  .obtain⟨o',e1⟩:=I.base.there b o e hx;exact⟨o',(hs.2 b (bp (dX (aP e) I.ok.above))).trans e1⟩
  .by_cases hj:j=i
   .subst hj;rw [hi] at e1;cases e1;rw [vY Zk] at e2;cases e2;exact⟨u,r,.inl ⟨hk,108⟩⟩
   rw [List.getElem?_set_ne (dA hj)] at e2;obtain⟨u',r',q⟩:=hl j y v' e1 e2 e3;refine⟨u',r',?_⟩;rcases q with ⟨k,e⟩ | ⟨k,c,e,z⟩
   .refine .inl ⟨k,?_⟩;have:y≠x:=λe=>hj (so hN e1 (e ▸ hi));simp [this,e]
   exact .inr ⟨k,c,e,z.sameBut hs (LM y c e)⟩
  .obtain⟨w',z⟩:=I.cell y c e;exact⟨w',z.sameBut hs (LM y c e)⟩
  obtain⟨e,n,ne,nf,d⟩:=I.pin p hp;exact⟨(hs.2 p.1 ne).trans e,n,ne,nf,d⟩
 have Wg:X.fn x=true:=by
  rcases hf with z | z
  .exact z
  rw [z] at hk;cases hk
 obtain⟨c,hc⟩:=I.ok.has x (.inl hk);obtain⟨w',z⟩:=I.cell x c hc;refine wpAny_storeName_cell I.ok.kind hk hc z (λh' iK hs=>?_);obtain⟨oc,zE,VZ⟩:=id z;refine h 216 ⟨I.ok,I.os,I.bare,⟨λb o e n hb hx=>?_,λb o e n hb hx=>?_,I.base.free,λb o e hx=>?_,I.base.rH,I.base.qF,I.base.qv⟩,⟨m,hn.sameBut hs (dA (LM x c hc)),λj y v' e1 e2 e3=>?_⟩,λy c' e=>?_,I.free,I.iF,λp hp=>?_,tracked ⟨oc,zE,I.iF x c hc⟩ hs,by simpa using I.len⟩ ⟨c,hs,.inr hc⟩
 .exact(hs.2 b (bp (dX (aP e) (I.ok.LN x c Wg hc)))).trans (I.base.keep b o e n hb hx)
 .obtain⟨sl,e1⟩:=I.base.slot b o e n hb hx;exact⟨sl,(hs.2 b (bp (dX (aP e) (I.ok.LN x c Wg hc)))).trans e1⟩
 .obtain⟨o',e1⟩:=I.base.there b o e hx;exact⟨o',(hs.2 b (bp (dX (aP e) (I.ok.LN x c Wg hc)))).trans e1⟩
 .by_cases hj:j=i
  .subst hj;rw [hi] at e1;cases e1;rw [vY Zk] at e2;cases e2;exact⟨u,r,.inr ⟨.inl hk,c,hc,iK⟩⟩
  rw [List.getElem?_set_ne (dA hj)] at e2;obtain⟨u',r',q⟩:=hl j y v' e1 e2 e3;refine⟨u',r',?_⟩;rcases q with q | ⟨k,c',e,z'⟩
  .exact .inl q
  refine .inr ⟨k,c',e,z'.sameBut hs ?_⟩;rintro rfl;exact hj (so hN e1 (I.ok.inj _ _ _ e hc ▸ hi))
 .by_cases Kg:c'=c
  .subst Kg;exact⟨_,iK⟩
  obtain⟨w2,z2⟩:=I.cell y c' e;exact⟨w2,z2.sameBut hs Kg⟩
 obtain⟨e,n,ne,nf,d⟩:=I.pin p hp;refine⟨(hs.2 p.1 ?_).trans e,n,ne,nf,d⟩;intro q;rw [q,zE] at e;have q':oc=p.2:=jJ e;exact d w' (by rw [<-q'];exact VZ)
def kc {E:z0b}{i:Nat}{x:Str}{v:V}{u:Value}{Q:Unit->Shared->Prop}(I:121)(hN:X.N.Nodup)(hi:X.N[i]?=some x)(hx:Loc X.env.scope x)(r:RelV v u)
  (h:∀s',Inv X ai (σ.set i (some v)) H s'->Q () s')(hf:X.fn x=true\/X.env.scope.names.lookup x=some .local:=by first | exact .inl rfl | exact .inr rfl | assumption):wpAny M A (storeName X.env x u) Q E s :=
 uJ I hN hi hx r (λs' I' _=>h s' I') hf
def Inv.CQ {s':Shared}(I:121)(ho:s'.os=s.os)(u:Un (qG X.stack) ch H H' s.heap s'.heap)(bw:lM X.prog X.w H' s'.heap)(hg:AllBare s'.gens)
  (Iy:∀b∈ch,(b∈X.ex\/X.s₀.heap.objs.size<=b)/\b≠X.env.locals/\(∀x c,X.env.cells.lookup x=some c->c≠b)/\∀p∈X.pn++ai,p.1≠b):Inv X ai σ H' s':=by
 obtain⟨h',g',d',t',o'⟩:=s';have e:o'=s.os:=ho;subst e;exact I.call (g':=g') (t':=t') (d':=d') u bw hg Iy
end
abbrev XK:=Value->z0l->Hp->Prop
abbrev St:=List (Option V)
abbrev bc (a:Addr):Option V:=some (.ref a)
abbrev VK:=V->Hp->Prop
abbrev TE:=St->Hp->VK->Prop
abbrev TT:=St->Hp->(Bool->Hp->Prop)->Prop
abbrev TA:=St->Hp->(115->Hp->Prop)->Prop
structure Ends where
 nx:148
 rt:VK
 bk:148:=λ_ _=>False
 ct:148:=λ_ _=>False
abbrev TS:=Ends->148
def EP (X:Cx)(ai:z0e)(σ:St)(Q:VK)(u:Value)(s':Shared):Prop:=∃v H',Inv X ai σ H' s'/\RelV v u/\Q v H'
def TP (X:Cx)(ai:z0e)(σ:St)(Q:Bool->Hp->Prop)(b:Bool)(s':Shared):Prop:=∃H',Inv X ai σ H' s'/\Q b H'
def AP (X:Cx)(ai:z0e)(σ:St)(Q:115->Hp->Prop)(us:z0m)(s':Shared):Prop:=∃vs H',Inv X ai σ H' s'/\aY vs us/\Q vs H'
def SP (X:Cx)(ai:z0e)(D:Ends)(f:Flow)(s':Shared):Prop :=
 match f with
 | .next=>∃σ' H',Inv X ai σ' H' s'/\D.nx σ' H'
 | .brk=>∃σ' H',Inv X ai σ' H' s'/\D.bk σ' H'
 | .cont=>∃σ' H',Inv X ai σ' H' s'/\D.ct σ' H'
 | .ret u=>∃v σ' H',Inv X ai σ' H' s'/\RelV v u/\D.rt v H'
def PE (X:Cx)(e:Expr)(t:TE):Prop :=
 ∀(ai:z0e)(s:Shared)(σ:St)(H:Hp)(Q:VK),121->t σ H Q->wpAny 146 X.A (eval e X.env) (EP X ai σ Q) X.xe s
def PT (X:Cx)(e:Expr)(t:TT):Prop :=
 ∀(ai:z0e)(s:Shared)(σ:St)(H:Hp)(Q:Bool->Hp->Prop),121->t σ H Q->wpAny 146 X.A (isTrue e X.env (eval e X.env)) (TP X ai σ Q) X.xe s
def PW (X:Cx)(e:Expr)(t:TT):Prop :=
 ∀(whole:Sem Value)(ai:z0e)(s:Shared)(σ:St)(H:Hp)(Q:Bool->Hp->Prop),121->t σ H Q->wpAny 146 X.A (isTrue e X.env whole) (TP X ai σ Q) X.xe s
def PW.pt {e:Expr}{t:TT}(h:PW X e t):PT X e t:=h _
def PA (X:Cx)(es:z0p)(t:TA):Prop :=
 ∀(pos:Pos)(ai:z0e)(s:Shared)(σ:St)(H:Hp)(Q:115->Hp->Prop),121->t σ H Q->wpAny 146 X.A (spliced (backTo pos (starEach es X.env))) (AP X ai σ Q) X.xe s
def PS (X:Cx)(st:Stmt)(t:TS):Prop :=
 ∀(ai:z0e)(s:Shared)(σ:St)(H:Hp)(D:Ends),121->t D σ H->wpAny 146 X.A (exec st X.env) (SP X ai D) X.xe s
def vC (X:Cx)(st:z0q)(t:TS):Prop :=
 ∀(ai:z0e)(s:Shared)(σ:St)(H:Hp)(D:Ends),121->t D σ H->wpAny 146 X.A (execs st X.env) (SP X ai D) X.xe s
def cE {α:Type}{t:Sem α}{Q Q':α->Shared->Prop}{E:z0b}(h:wpAny M A t Q E s)(hQ:∀a s,Q a s->Q' a s):wpAny M A t Q' E s:=cH h hQ λ_ _ x=>x
section
variable {X:Cx}
def bin {a b:Expr}{ta tb:TE}(ha:PE X a ta)(hb:PE X b tb){σ:St}{R:V->V->Hp->Prop}(I:121)(h:ta σ H λx H1=>tb σ H1 λy H2=>R x y H2)
  {α:Type}{Q:α->Shared->Prop}{f:Value->Value->Sem α}
  (hf:∀v u s2 x y H2,Inv X ai σ H2 s2->RelV x v->RelV y u->R x y H2->wpAny 146 X.A (f v u) Q X.xe s2) :
  wpAny 146 X.A (eval a X.env) (λv s₁=>wpAny 146 X.A (eval b X.env) (λu s₂=>wpAny 146 X.A (f v u) Q X.xe s₂) X.xe s₁) X.xe s:=by
 refine cE (ha ai s σ H _ I h) λv s1 aW=>?_;obtain⟨x,H1,I1,r1,q1⟩:=aW;refine cE (hb ai s1 σ H1 _ I1 q1) λu s2 aW=>?_;obtain⟨y,H2,I2,r2,q2⟩:=aW;exact hf v u s2 x y H2 I2 r1 r2 q2
inductive RL (o:Option (Option V))(R:V->Prop):Prop
|mk(v:V)(e:o=some (some v))(q:R v)
inductive XB (x:V)(R:Bool->Prop):Prop
|mk(c:Bool)(e:x=.bl c)(q:R c)
inductive XQ (x:V)(R:Int->Prop):Prop
|mk(i:Int)(e:x=.int i)(q:R i)
inductive XI0 (x y:V)(R:Int->Int->Prop):Prop
|mk(i j:Int)(e:x=.int i)(e2:y=.int j)(q:R i j)
inductive XI2 (x y:V)(C:Int->Int->Prop)(R:Int->Int->Prop):Prop
|mk(i j:Int)(e:x=.int i)(e2:y=.int j)(c:C i j)(q:R i j)
inductive LR (vs:115)(R:V->115->Prop):Prop
|mk(v:V)(r:115)(e:vs=v::r)(q:R v r)
inductive RM (v:V)(S:Addr->115->Prop) (n:Nat)(R:115->Prop):Prop
|mk(a:Addr)(xs:115)(e:v=.ref a)(s:S a xs)(l:xs.length=n)(q:R xs)
inductive Tq (x:V)(S:Addr->Prop)(R:Addr->Prop):Prop
|mk(a:Addr)(e:x=.ref a)(s:S a)(q:R a)
inductive XSq (x:V)(S:Addr->115->Prop)(R:115->Prop):Prop
|mk(a:Addr)(xs:115)(e:x=.ref a)(s:S a xs)(q:R xs)
inductive XC2 (S:Addr->115->Prop)(x y:V)(R:115->115->Prop):Prop
|mk(a b:Addr)(xs ys:115)(e:x=.ref a)(e2:y=.ref b)(s:S a xs)(s2:S b ys)(z:xs.length+ys.length<=sizeLine)(q:R xs ys)
inductive XRg (vs:115)(R:Int->Prop):Prop
|mk(j:Int)(e:vs=[.int j])(l:-(2 ^ 62)<=j)(u:j < 2 ^ 62)(q:R j)
inductive Tr (vs:115)(S:Addr->115->Prop)(R:Addr->Prop):Prop
|mk(a:Addr)(xs:115)(e:vs=[.ref a])(s:S a xs)(q:R a)
inductive Ky (xs:115)(S:Addr->115->Prop)(R:115->Prop):Prop
|mk(p:Addr)(ys:115)(e:xs=[.ref p])(s:S p ys)(q:R ys)
def gw (i:Nat):TE:=λσ H Q=>RL σ[i]? λv=>Q v H
def tC (v:V):TE:=λ_ H Q=>Q v H
def MU {i:Nat}{x:Str}(hN:X.N[i]?=some x)(hv:Ts X.env.scope x)(hd:267:=by decide)(sR:(x == ("__classdict__":Str))=false:=by decide):PE X (.Name x pos) (gw i):=by
 intro ai s σ H Q I h;obtain⟨v,e,h⟩:=h;obtain⟨m,hn,hl⟩:=I.loc;obtain⟨u,r,l⟩:=hl i x v hN e hv;have fin:EP X ai σ Q u s:=⟨v,H,I,r,h⟩;rcases l with ⟨hk,hm⟩ | ⟨hk,c,hc,ji⟩
 .exact wpAny_Name (vL I.ok.kind hk hn hm fin) hd
 rcases hk with hk | hk
 .exact wpAny_Name (wpAny_loadName_cell I.ok.kind hk hc ji fin) hd
 exact wpAny_Name (wpAny_loadName_free I.ok.kind hk hc ji fin sR) hd
def au {i j pos}:PE X (.Constant (.int i) j pos) (tC (.int i)):=λ_ _ _ H _ I h=>wpAny_Constant_int ⟨.int i,H,I.tok _,159,h⟩
def eO {b j pos}:PE X (.Constant (.bool b) j pos) (tC (.bl b)):=λ_ _ _ H _ I h=>Constant_bool ⟨.bl b,H,I,rfl,h⟩
def AI {j pos}:PE X (.Constant .none j pos) (tC .dq):=λ_ _ _ H _ I h=>Constant_none ⟨.dq,H,I,rfl,h⟩
def gk {x j pos}:PE X (.Constant (.str x) j pos) (tC (.str x)):=λ_ _ _ H _ I h=>Calls.Constant_str ⟨.str x,H,I.tok _,159,h⟩
def Gl (X:Cx)(x:Str):Prop:=X.env.kindOf x=some .globalImplicit
def iU {E:z0b}{σ:St}{x:Str}{u:Value}(I:121)(hg:Gl X x)(hm:X.mg x=some u)(h:Q u s)
  (hd:267:=by decide):wpAny 146 X.A (eval (.Name x pos) X.env) Q E s :=
 Calls.Name_function_global I.ok.kind hg (Calls.loadGlobal_global (by rw [I.ok.glob];exact I.mod.glob.keeps I.bk) hm h) hd
def gM {E:z0b}{σ:St}{x:Str}{u:Value}(I:121)(hg:Gl X x)(hm:X.mg x=none)(hv:bootBuiltins x=some u)(h:Q u s)
  (hn:x ≠ "__name__" := by decide)(hd:267:=by decide):wpAny 146 X.A (eval (.Name x pos) X.env) Q E s:=by
 obtain⟨mb,h1,h2⟩:=I.mod.blt;exact Calls.Name_function_global I.ok.kind hg (Calls.loadGlobal_builtin (by rw [I.ok.glob];exact I.mod.glob.keeps I.bk) hm (by rw [I.ok.blt];exact h1.keeps I.bk) ((h2 x hn).trans hv) h) hd
def df {x:Str}{v:V}{u:Value}{pos:Pos}(hg:Gl X x)(hm:X.mg x=some u)(r:RelV v u)(hd:267:=by decide):PE X (.Name x pos) (tC v) :=
 λ_ _ _ H _ I h=>iU I hg hm ⟨v,H,I,r,h⟩ hd
def Cz {x:Str}{v:V}{u:Value}{pos:Pos}(hg:Gl X x)(hm:X.mg x=none)(hv:bootBuiltins x=some u)(r:RelV v u)(hn:x ≠ "__name__" := by decide)(hd:267:=by decide):PE X (.Name x pos) (tC v) :=
 λ_ _ _ H _ I h=>gM I hg hm hv ⟨v,H,I,r,h⟩ hn hd
variable {a b:Expr}{ta tb:TE}{pos:Pos}
def PC (X:Cx)(op:CmpOp)(a b:Expr)(t:TE):Prop :=
 ∀(ai:z0e)(s:Shared)(σ:St)(H:Hp)(Q:VK),121->t σ H Q ->
  wpAny 146 X.A (eval a X.env) (λv s₁=>wpAny 146 X.A (eval b X.env) (λu s₂=>wpAny 146 X.A (compareOp op v u) (EP X ai σ Q) X.xe s₂) X.xe s₁) X.xe s
def yy (b:Expr)(h:op≠.In)(h2:op≠.NotIn):behindInMarks op b=false:=by
 have e1:(op == CmpOp.In)=false:=by cases op <;> first | rfl | exact absurd rfl h
 have e2:(op == CmpOp.NotIn)=false:=by cases op <;> first | rfl | exact absurd rfl h2
 cases b <;> simp [behindInMarks,e1,e2]
def T7 (ta:TE):TE:=λσ H Q=>ta σ H λx H1=>Q (.bl (decide (x=.dq))) H1
def RelV.GI {x:V}{v:Value}(r:RelV x v):(v == Value.none)=decide (x=.dq):=by
 cases x with
 | dq=>cases r;rfl
 | bl _=>cases r;rfl
 | int _=>obtain⟨t,rfl⟩:=r;rfl
 | str _=>obtain⟨t,rfl⟩:=r;rfl
 | BG _=>obtain⟨t,rfl⟩:=r;rfl
 | NV _=>obtain⟨t,rfl⟩:=r;rfl
 | ref _=>cases r;rfl
 | ty _=>cases r;rfl
def MX {j pos'}(ha:PE X a ta):PC X .Is a (.Constant .none j pos') (T7 ta):=by
 intro ai s σ H Q I h;refine cE (ha ai s σ H _ I h) λv s1 aW=>?_;obtain⟨x,H1,I1,r1,q1⟩:=aW;exact Constant_none (is_none_gen ⟨.bl _,H1,I1,by rw [r1.GI];rfl,q1⟩)
def tB (t:TE):TT:=λσ H Q=>t σ H λx H1=>XB x λc=>Q c H1
def Gd {t:TE}(h:PC X op a b t)(h1:behindInMarks op b=false:=by first | exact yy _ nofun nofun | rfl):PE X (.Compare a [op] [b] pos) t:=λai s σ H Q I hw=>wpAny_Compare1 (h ai s σ H Q I hw) h1
def eK {t:TE}(h:PC X op a b t)(h1:behindInMarks op b=false:=by first | exact yy _ nofun nofun | rfl):PT X (.Compare a [op] [b] pos) (tB t):=by
 intro ai s σ H Q I hw;refine wpAny_isTrue_Compare1 (cE (h ai s σ H _ I hw) λv s1 h1=>cE h1 λu s2 h2=>cE h2 λc s3 aW=>?_) h1;obtain⟨x,H1,I1,r1,q1⟩:=aW;obtain⟨d,rfl,q⟩:=q1;cases r1;exact pR ⟨H1,I1,q⟩
def fE {e:Expr}{t:TE}(h:PE X e t)(he:∀whole,isTrue e X.env whole=(do let v <-whole;standAt e.pos;holding [v] (truthy v)):=by intro _;rfl):PT X e (tB t):=by
 intro ai s σ H Q I hw;refine isTrue_plain (cE (h ai s σ H _ I hw) λv s1 aW=>?_) (he _);obtain⟨x,H1,I1,r1,q1⟩:=aW;obtain⟨d,rfl,q⟩:=q1;cases r1;exact pR ⟨H1,I1,q⟩
variable {tA R7:TT}{rest:z0p}
def Ub (t u:TT):TT:=λσ H Q=>t σ H λc H1=>if c=true then u σ H1 Q else Q false H1
def tOr (t u:TT):TT:=λσ H Q=>t σ H λc H1=>if c=true then Q true H1 else u σ H1 Q
def T5 (t:TT):TT:=λσ H Q=>t σ H λc H1=>Q (!c) H1
def gO (ha:PT X a tA):PW X (.BoolOp .And [a] pos) tA:=by
 intro wh ai s σ H Q I h;refine isTrue_and (cE (ha ai s σ H Q I h) λc s1 e=>?_);cases c with
 | true=>exact isTrue_and_nil e
 | false=>exact e
def ma (ha:PT X a tA):PW X (.BoolOp .Or [a] pos) tA:=by
 intro wh ai s σ H Q I h;refine isTrue_or (cE (ha ai s σ H Q I h) λc s1 e=>?_);cases c with
 | false=>exact isTrue_or_nil e
 | true=>exact e
def gK (ha:PT X a tA)(hb:PW X (.BoolOp .And (b::rest) pos) R7):PW X (.BoolOp .And (a::b::rest) pos) (Ub tA R7):=by
 intro wh ai s σ H Q I h;refine isTrue_and (cE (ha ai s σ H _ I h) λc s1 aW=>?_);obtain⟨H1,I1,q1⟩:=aW;cases c with
 | true=>exact hb wh ai s1 σ H1 Q I1 q1
 | false=>exact⟨H1,I1,q1⟩
def qg (ha:PT X a tA)(hb:PW X (.BoolOp .Or (b::rest) pos) R7):PW X (.BoolOp .Or (a::b::rest) pos) (tOr tA R7):=by
 intro wh ai s σ H Q I h;refine isTrue_or (cE (ha ai s σ H _ I h) λc s1 aW=>?_);obtain⟨H1,I1,q1⟩:=aW;cases c with
 | true=>exact⟨H1,I1,q1⟩
 | false=>exact hb wh ai s1 σ H1 Q I1 q1
def md (ha:PT X a tA):PT X (.UnaryOp .Not a pos) (T5 tA):=by
 intro ai s σ H Q I h;exact isTrue_not (ha ai s σ H (λc H1=>Q (!c) H1) I h)
def Pr (ta tb:TE):TE:=λσ H Q=>ta σ H λx H1=>XB x λc=>if c=true then tb σ H1 Q else Q (.bl false) H1
def Pc (ta:TE):TE:=λσ H Q=>ta σ H λx H1=>XB x λc=>Q (.bl (!c)) H1
def wM {op}{t:TE}(h:PE X a t):PE X (.BoolOp op [a] pos) t:=λai s σ H Q I hw=>BoolOp_one (h ai s σ H Q I hw)
def r_ (ha:PE X a ta)(hb:PE X (.BoolOp .And (b::rest) pos) tb):PE X (.BoolOp .And (a::b::rest) pos) (Pr ta tb):=by
 intro ai s σ H Q I h;refine BoolOp_and (cE (ha ai s σ H _ I h) λv s1 aW=>?_);obtain⟨x,H1,I1,r1,q1⟩:=aW;obtain⟨c,rfl,q1⟩:=q1;cases r1;refine pR ?_;cases c with
 | true=>exact hb ai s1 σ H1 Q I1 q1
 | false=>exact⟨.bl false,H1,I1,rfl,q1⟩
def MV (ha:PE X a ta):PE X (.UnaryOp .Not a pos) (Pc ta):=by
 intro ai s σ H Q I h;refine UnaryOp_ (cE (ha ai s σ H _ I h) λv s1 aW=>?_);obtain⟨x,H1,I1,r1,q1⟩:=aW;obtain⟨c,rfl,q1⟩:=q1;cases r1;exact not_of (pR ⟨.bl (!c),H1,I1,rfl,q1⟩)
def tIf (t:TT)(ta tb:TE):TE:=λσ H Q=>t σ H λc H1=>if c=true then ta σ H1 Q else tb σ H1 Q
def yo {c:Expr}(hc:PT X c tA)(ha:PE X a ta)(hb:PE X b tb):PE X (.IfExp c a b pos) (tIf tA ta tb):=by
 intro ai s σ H Q I h;refine wpAny_IfExp (cE (hc ai s σ H _ I h) λd s1 aW=>?_);obtain⟨H1,I1,q1⟩:=aW;cases d with
 | true=>exact ha ai s1 σ H1 Q I1 q1
 | false=>exact hb ai s1 σ H1 Q I1 q1
end
def aF (K:aV)(H:Hp)(a:Addr)(xs:115):Prop :=
 Rd H a (.lst xs) \/
  ∃(o:Obj)(aN:z0k) (n:Nat),K.lookup a=111/\o.cls=.type "list" /\ o.dict=none/\o.data=.seq aN n/\aN.size<=sizeLine/\aY xs aN.toList
def aZ (K:aV)(H:Hp)(a:Addr)(xs:115):Prop :=
 Rd H a (.tup xs) \/
  ∃(o:Obj)(aN:z0k) (n:Nat),K.lookup a=111/\o.cls=185 /\ o.data=.seq aN n/\aN.size<=sizeLine/\aY xs aN.toList
def XH:Value->Option V
 | .none=>some .dq
 | .bool b=>some (.bl b)
 | .int i _=>some (.int i)
 | .str x _=>some (.str x)
 | .bytes b _=>some (.BG b)
 | .float b _=>some (.NV b)
 | .ref a=>some (.ref a)
 | .type n=>some (.ty n)
 | _=>none
def RelV.abs {x:V}{u:Value}(r:RelV x u):XH u=some x:=by
 cases x with
 | dq=>cases r;rfl
 | bl _=>cases r;rfl
 | int _=>obtain⟨t,rfl⟩:=r;rfl
 | str _=>obtain⟨t,rfl⟩:=r;rfl
 | BG _=>obtain⟨t,rfl⟩:=r;rfl
 | NV _=>obtain⟨t,rfl⟩:=r;rfl
 | ref _=>cases r;rfl
 | ty _=>cases r;rfl
def RelV.inj {x y:V}{u:Value}(r:RelV x u)(q:RelV y u):x=y:=jJ (r.abs.symm.trans q.abs)
theorem aY.inj:∀{xs ys:115}{us:z0m},aY xs us->aY ys us->xs=ys
 | _,_,_,.nil,.nil=>rfl
 | _,_,_,.cons r t,.cons r' t'=>by rw [r.inj r',aY.inj t t']
section
variable {X:Cx}{ai:z0e}{σ:St}{H:Hp}{s:Shared}{a:Addr}{xs ys:115}
def aF.of {K:aV}(h:H a=some (.lst xs)):aF K H a xs:=.inl (.inl h)
def aZ.of {K:aV}(h:H a=some (.tup xs)):aZ K H a xs:=.inl (.inl h)
def Inv.list (I:121)(h:aF X.K H a xs):∃aN:z0m,aY xs aN/\PlainL s.heap a aN.toArray/\xs.length<=sizeLine:=by
 rcases h with h | ⟨o,aN,n,hk,hc,hd,hs,hz,r⟩
 .obtain⟨z,aN,n,r,e⟩:=h.ok I.bw;exact⟨aN,r,⟨_,n,e,rfl,rfl,rfl⟩,z⟩
 refine⟨aN.toList,r,⟨o,n,I.kx a o hk,hc,hd,by simpa using hs⟩,?_⟩;have e:=r.length;simp only [pW] at e;omega
def Inv.tuple (I:121)(h:aZ X.K H a xs):∃aN:z0m,aY xs aN/\IsTup s.heap a aN.toArray/\xs.length<=sizeLine:=by
 rcases h with h | ⟨o,aN,n,hk,hc,hs,hz,r⟩
 .obtain⟨z,aN,r,p⟩:=h.ok I.bw;exact⟨aN,r,p,z⟩
 refine⟨aN.toList,r,⟨o,I.kx a o hk,hc,n,by simpa using hs⟩,?_⟩;have e:=r.length;simp only [pW] at e;omega
def Inv.je (I:121)(h:aF X.K H a xs)(h':aF X.K H a ys):xs=ys:=by
 obtain⟨aN,r,⟨o,n,e,_,_,d⟩,_⟩:=I.list h;obtain⟨w_,r',⟨o',n',e',_,_,d'⟩,_⟩:=I.list h';rw [e] at e';cases e';rw [d] at d';injection d' with d1 _;have:aN=w_:=by simpa using congrArg Array.toList d1
 subst this;exact r.inj r'
def Inv.uF (I:121)(h:aZ X.K H a xs)(h':aZ X.K H a ys):xs=ys:=by
 obtain⟨aN,r,⟨o,e,_,n,d⟩,_⟩:=I.tuple h;obtain⟨w_,r',⟨o',e',_,n',d'⟩,_⟩:=I.tuple h';rw [e] at e';cases e';rw [d] at d';injection d' with d1 _;have:aN=w_:=by simpa using congrArg Array.toList d1
 subst this;exact r.inj r'
end
abbrev Cx.uf (X:Cx)(E:z0b):Cx:={ X with xe:=E }
abbrev Cx.JM (X:Cx):Cx:=X.uf λ_ _=>False
theorem Cx.Ok.uf {X:Cx}(ok:X.Ok)(E:z0b):(X.uf E).Ok :=
 416
def Cx.Ok.j_ {X:Cx}{E:z0b}(ok:(X.uf E).Ok):X.Ok :=
 416
section
variable {X:Cx}{ai:z0e}{σ:St}{H:Hp}{s:Shared}{E:z0b}
theorem Inv.uf (I:121)(E:z0b):Inv (X.uf E) ai σ H s:=⟨I.ok.uf E,I.os,I.bare,I.base,I.loc,I.cell,I.free,I.iF,I.pin,I.bw,I.len⟩
theorem Inv.j_ (I:Inv (X.uf E) ai σ H s):121:=⟨I.ok.j_,I.os,I.bare,I.base,I.loc,I.cell,I.free,I.iF,I.pin,I.bw,I.len⟩
theorem SP.j_ {D:Ends}{f:Flow}(h:SP (X.uf E) ai D f s'):SP X ai D f s':=by
 cases f with
 | next=>obtain⟨σ',H',I,q⟩:=h;exact⟨σ',H',I.j_,q⟩
 | brk=>obtain⟨σ',H',I,q⟩:=h;exact⟨σ',H',I.j_,q⟩
 | cont=>obtain⟨σ',H',I,q⟩:=h;exact⟨σ',H',I.j_,q⟩
 | ret u=>obtain⟨v,σ',H',I,r,q⟩:=h;exact⟨v,σ',H',I.j_,r,q⟩
theorem vC.JM {st:z0q}{t:TS}(h:vC X.JM st t):vC X st t:=λai s σ H D I hw =>
 cH (h ai s σ H D (I.uf _) hw) (λ_ _ q=>q.j_) λ_ _ z=>False.elim z
end
section
variable {X:Cx}{st:Stmt}{rest:z0q}{t u:TS}{e:Expr}{te:TE}{pos:Pos}
def Pd:TS:=λD σ H=>D.nx σ H
def Mm (t u:TS):TS:=λD σ H=>t { D with nx:=u D } σ H
def bL:vC X [] Pd:=λ_ _ σ H _ I h=>rb ⟨σ,H,I,h⟩
def ao (h1:PS X st t)(h2:vC X rest u):vC X (st::rest) (Mm t u):=by
 intro ai s σ H D I h;refine wpAny_execs_cons (cE (h1 ai s σ H { D with nx:=u D } I h) λf s1 q=>?_);cases f with
 | next =>
  obtain⟨σ',H',I',q⟩:=q;exact h2 ai s1 σ' H' D I' q
 | ret v=>exact q
 | brk=>exact q
 | cont=>exact q
def ar (h1:PS X st t):vC X [st] t:=by
 intro ai s σ H D I h;refine wpAny_execs_cons (cE (h1 ai s σ H D I h) λf s1 q=>?_);cases f with
 | next=>exact rb q
 | ret v=>exact q
 | brk=>exact q
 | cont=>exact q
def Ms:TS:=λD σ H=>D.bk σ H
def FY:PS X (.Break pos) Ms:=λ_ _ σ H _ I h=>wpAny_Break ⟨σ,H,I,h⟩
def Inv.quiet {σ:St}(I:121):interactive X.env=false:=by simp [interactive,I.ok.kind]
def Pl (te:TE):TS:=λD σ H=>te σ H λ_ H1=>D.nx σ H1
def cv (he:PE X e te)(hs:swapsWith e none pos.line X.env=pure false:=by rfl):PS X (.Expr e pos) (Pl te):=by
 intro ai s σ H D I h;refine wpAny_Expr_any (cE (he ai s σ H _ I h) λv s1 aW=>?_) I.quiet hs;obtain⟨x,H1,I1,r1,q1⟩:=aW;exact⟨σ,H1,I1,q1⟩
def T4 (te:TE):TS:=λD σ H=>te σ H D.rt
def br (he:PE X e te):PS X (.Return (some e) pos) (T4 te):=by
 intro ai s σ H D I h;refine wpAny_Return_some (cE (he ai s σ H _ I h) λv s1 aW=>?_);obtain⟨x,H1,I1,r1,q1⟩:=aW;exact⟨x,σ,H1,I1,r1,q1⟩
def T8 (c:TT)(t u:TS):TS:=λD σ H=>c σ H λb H1=>if b=true then t D σ H1 else u D σ H1
def cR {c:Expr}{a b:z0q}{tc:TT}(hc:PT X c tc)(ha:vC X a t)(hb:vC X b u):PS X (.If c a b pos) (T8 tc t u):=by
 intro ai s σ H D I h;refine wpAny_If (cE (hc ai s σ H _ I h) λd s1 aW=>?_);obtain⟨H1,I1,q1⟩:=aW;cases d with
 | true=>exact ha ai s1 σ H1 D I1 q1
 | false=>exact hb ai s1 σ H1 D I1 q1
def Mn:TS:=λ_ _ _=>False
def gh:PS X st Mn:=λ_ _ _ _ _ _ h=>h.elim
end
abbrev TG:=V->St->Hp->(148)->Prop
abbrev LS:=115->St->Hp->(148)->Prop
def PG (X:Cx)(target:Expr)(t:TG):Prop :=
 ∀(ai:z0e)(s:Shared)(σ:St)(H:Hp)(v:V)(u:Value)(Q:148),121->RelV v u->t v σ H Q ->
  wpAny 146 X.A (assign target X.env u) (λ_ s'=>∃σ' H',Inv X ai σ' H' s'/\Q σ' H') X.xe s
def RR (X:Cx)(ts:z0p)(t:LS):Prop :=
 ∀(ai:z0e)(s:Shared)(σ:St)(H:Hp)(vs:115)(us:z0m)(Q:148),121->aY vs us->t vs σ H Q ->
  wpAny 146 X.A (assignInOrder ((assignEach ts X.env).map (·.2)) us) (λ_ s'=>∃σ' H',Inv X ai σ' H' s'/\Q σ' H') X.xe s
abbrev XU:=V->V->Hp->VK->Prop
def PIp (X:Cx)(op:Operator)(t:XU):Prop :=
 ∀(ai:z0e)(s:Shared)(σ:St)(H:Hp)(x y:V)(v u:Value)(Q:VK),121->RelV x v->RelV y u->t x y H Q ->
  wpAny 146 X.A (inplaceOp op v u) (EP X ai σ Q) X.xe s
section
variable {X:Cx}{pos:Pos}
def eA (i:Nat):TG:=λv σ H Q=>Q (σ.set i (some v)) H
def ay {i:Nat}{x:Str}(hN:X.N.Nodup)(hi:X.N[i]?=some x)(hx:Loc X.env.scope x)(hf:X.fn x=true\/X.env.scope.names.lookup x=some .local:=by first | exact .inl rfl | exact .inr rfl | assumption):PG X (.Name x pos) (eA i):=by
 intro ai s σ H v u Q I r h;exact wpAny_assign_Name (kc I hN hi hx r (λs' I'=>⟨_,H,I',h⟩) hf)
def Hr:LS:=λvs σ H Q=>vs=[]/\Q σ H
def ky (t:TG)(u:LS):LS:=λvs σ H Q=>LR vs λv r=>t v σ H λσ' H'=>u r σ' H' Q
def cy:RR X [] Hr:=by
 intro ai s σ H vs us Q I r h;obtain⟨e,h⟩:=h;subst e;cases r;exact assignInOrder_nil ⟨σ,H,I,h⟩
def aI {e:Expr}{es:z0p}{t:TG}{u:LS}(h1:PG X e t)(h2:RR X es u)
  (hs:(assignEach (e::es) X.env).map (·.2)=assign e X.env::(assignEach es X.env).map (·.2):=by rfl):RR X (e::es) (ky t u):=by
 intro ai s σ H vs us Q I r h;obtain⟨v,vr,e1,h⟩:=h;subst e1;cases r with
 | cons r rr =>
  rw [hs];refine assignInOrder_cons (cE (h1 ai s σ H _ _ _ I r h) λ_ s1 aW=>?_);obtain⟨σ1,H1,I1,q1⟩:=aW;exact h2 ai s1 σ1 H1 _ _ Q I1 rr q1
def DY (K:aV) (n:Nat)(t:LS):TG:=λv σ H Q=>RM v (aZ K H) n λxs=>t xs σ H Q
def e_ {k:Nat}{t:LS}{n:Nat}(hc:X.calm=true)(h:RR X es t)
  (hn:(assignEach es X.env).length=n:=by rfl)(lI:(assignEach es X.env).findIdx? 56=none:=by rfl):PG X (.Tuple es k pos) (DY X.K n t):=by
 intro ai s σ H v u Q I r hw;obtain⟨a,xs,e1,hq,hl,hw⟩:=hw;subst e1;cases r;obtain⟨aN,rv,ht,hz⟩:=I.tuple hq;refine assign_Tuple_tuple (I.ok.hd hc) ht (by simp [hn,<-hl,rv.length]) lI λh' hx=>?_;have I1:Inv X ai σ H 216:=I.kept (t':=s.toks) λb o e=>hx b o (bp (aP e)) e;exact h ai _ σ H xs _ Q I1 (by simpa using rv) hw
def Pq (te:TE)(g:TG):TS:=λD σ H=>te σ H λx H1=>g x σ H1 D.nx
def aD {i:Nat}{x:Str}{e:Expr}{te:TE}{pos':Pos}(hN:X.N.Nodup)(hi:X.N[i]?=some x)(hx:Loc X.env.scope x)(he:PE X e te)(hs:swapsWith e (some (.Name x pos')) pos.line X.env=pure false:=by rfl)(hf:X.fn x=true\/X.env.scope.names.lookup x=some .local:=by first | exact .inl rfl | exact .inr rfl | assumption) :
  PS X (.Assign [.Name x pos'] e pos) (Pq te (eA i)):=by
 intro ai s σ H D I h;refine wpAny_Assign_Name (cE (he ai s σ H _ I h) λv s1 aW=>?_) hs;obtain⟨y,H1,I1,r1,q1⟩:=aW;exact kc I1 hN hi hx r1 (λs2 I2=>⟨_,H1,I2,q1⟩) hf
def Ua (i:Nat)(te:TE)(ti:XU):TS:=λD σ H=>∃x,σ[i]?=some (some x)/\te σ H λy H1=>ti x y H1 λz H2=>D.nx (σ.set i (some z)) H2
def FZ {i:Nat}{x:Str}{e:Expr}(hN:X.N.Nodup)(hi:X.N[i]?=some x)(hx:Loc X.env.scope x)(he:PE X e te)(ho:PIp X op ti)(hf:X.fn x=true\/X.env.scope.names.lookup x=some .local:=by first | exact .inl rfl | exact .inr rfl | assumption) :
  PS X (.AugAssign (.Name x pos') op e pos) (Ua i te ti):=by
 intro ai s σ H D I h;obtain⟨v,e1,h⟩:=h;obtain⟨m,hn,hl⟩:=I.loc;have vis:Ts X.env.scope x:=by rcases hx with k | k;exact .inl k;exact .inr (.inl k)
 obtain⟨u,r,l⟩:=hl i x v hi e1 vis;refine wpAny_AugAssign_Name ?_;have go:wpAny 146 X.A (eval e X.env) (λw s₂=>wpAny 146 X.A (inplaceOp op u w) (λr s₃=>wpAny 146 X.A (storeName X.env x r) (λ_=>SP X ai D .next) X.xe s₃) X.xe s₂) X.xe s:=by
  refine cE (he ai s σ H _ I h) λw s1 aW=>?_;obtain⟨y,H1,I1,r1,q1⟩:=aW;refine cE (ho ai s1 σ H1 v y u w _ I1 r r1 q1) λz s2 aW=>?_;obtain⟨zv,H2,I2,r2,q2⟩:=aW;exact kc I2 hN hi hx r2 (λs3 I3=>⟨_,H2,I3,q2⟩) hf
 rcases l with ⟨hk,hm⟩ | ⟨hk,c,hc,ji⟩
 .exact vL I.ok.kind hk hn hm go
 rcases hk with hk | hk
 .exact wpAny_loadName_cell I.ok.kind hk hc ji go
 rcases hx with k | k
 .have:X.env.scope.names.lookup x=some .free:=hk;rw [k] at this;cases this
 have:X.env.scope.names.lookup x=some .free:=hk;rw [k] at this;cases this
def ipI (f:Int->Int->Int):XU:=λx y H Q=>∃i j,x=.int i/\y=.int j/\Q (.int (f i j)) H
def G6:PIp X .Add (ipI λi j=>i+j):=by
 intro ai s σ H x y v u Q I r1 r2 h;obtain⟨i,j,e1,e2,q⟩:=h;subst e1;subst e2;obtain⟨t,rfl⟩:=r1;obtain⟨t',rfl⟩:=r2;exact iadd_int ⟨.int _,H,I.tok _,159,q⟩
end
section
variable {X:Cx}{pos:Pos}
def E9 (c:TT)(tb:TS):TS:=λD σ H=>∃W:Nat->148,(∃m,W m σ H)/\∀m σ H,W m σ H ->
 c σ H λb H1=>if b=true then ∃N:148,(∀σ' H',N σ' H'->∃m',m' < m/\W m' σ' H')/\tb { D with nx:=N,ct:=N,bk:=D.nx } σ H1 else D.nx σ H1
def iE {c:Expr}{body:z0q}{tc:TT}{tb:TS}(hp:PassesOwn 146 X.A X.env X.xe)(hc:PT X c tc)(hb:vC X body tb):PS X (.While c body [] pos) (E9 tc tb):=by
 intro ai s σ H D I h;obtain⟨W,⟨m0,w0⟩,turn⟩:=h;refine wpAny_While (codeAny_whileLoop (λn s'=>∃σ' H',Inv X ai σ' H' s'/\W n σ' H') ?_ m0 ⟨σ,H,I,w0⟩);rintro n s1 ⟨σ1,H1,I1,w1⟩;refine lU hp (cE (hc ai s1 σ1 H1 _ I1 (turn n σ1 H1 w1)) λb s2 aW=>?_);obtain⟨H2,I2,q2⟩:=aW;cases b with
 | true =>
  obtain⟨N,hN,q2⟩:=q2;rw [aA rfl];refine lU hp (cE (hb ai s2 σ1 H2 _ I2 q2) λf s3 q3=>?_);cases f with
  | next =>
   obtain⟨σ3,H3,I3,n3⟩:=q3;obtain⟨m',hm,w3⟩:=hN σ3 H3 n3;exact⟨m',hm,σ3,H3,I3,w3⟩
  | cont =>
   obtain⟨σ3,H3,I3,n3⟩:=q3;obtain⟨m',hm,w3⟩:=hN σ3 H3 n3;exact⟨m',hm,σ3,H3,I3,w3⟩
  | brk=>exact q3
  | ret v=>exact q3
 | false =>
  rw [az dj];exact rb ⟨σ1,H2,I2,q2⟩
end
structure It where
 go:Nat->Hp->Prop
 nu:Nat->Hp->V->Hp->Prop
 stop:Nat->Hp->Prop
def tX (X:Cx)(ai:z0e)(H:Hp)(b:Addr):Prop :=
 H b=none/\b≠X.env.locals/\b∉X.fs/\(b∈X.ex\/X.s₀.heap.objs.size<=b)/\(∀x c,X.env.cells.lookup x=some c->c≠b)/\∀p∈X.pn++ai,p.1≠b
def Inv.kA {σ:St}{s:Shared}{b:Addr}(I:121)(hb:s.heap.objs.size<=b)(hn:H' b=none):tX X ai H' b:=by
 refine⟨hn,iw (dX I.lt hb),I.US hb,.inr (cI I.sz hb),λx c e z=>?_,λp hp z=>?_⟩
 .obtain⟨v,q⟩:=I.cell x c e;exact absurd (dX q.lt (by rw [z];exact hb)) (jS _)
 exact absurd (dX (aP (I.pin p hp).1) (by rw [z];exact hb)) (jS _)
structure Turn (P:Program)(w:World)(K:aV)(tg:Expr)(J:It)(fp:z0o)(it:Addr)(tn:Nat->Heap->Prop):Prop where
 mem:it∈fp
 obj:∀i h,tn i h->∀b∈fp,∃o,h.get? b=111/\∀v,o.data≠.cell v
 keep:∀i h h',tn i h->(∀b∈fp,∀o,h.get? b=111->h'.get? b=111)->tn i h'
 item:∀(X:Cx),X.prog=P->X.w=w->X.K=K->X.calm=true->∀(i:Nat)(ai:z0e)(s:Shared)(σ:St)(H:Hp)(E:z0b),121->(∀b∈fp,tX X ai H b)->tn i s.heap->J.go i H ->
  wpAny (model P w) X.A (pyNext (.ref it)) (λr s1=>∃u,r=some u /\
   wpAny (model P w) X.A (letOwnedTupleGo tg (.ref it) u) (λ_ s2=>∃x H',Inv X ai σ H' s2/\RelV x u/\J.nu i H x H'/\tn (i+1) s2.heap/\∀b∈fp,H' b=none) E s1) E s
 done:∀(X:Cx),X.prog=P->X.w=w->X.K=K->X.calm=true->∀(i:Nat)(ai:z0e)(s:Shared)(σ:St)(H:Hp)(E:z0b),121->(∀b∈fp,tX X ai H b)->tn i s.heap->J.stop i H ->
  wpAny (model P w) X.A (pyNext (.ref it)) (λr s1=>r=none/\Inv X ai σ H s1) E s
 self:∀(A:Around) (i:Nat)(s:Shared)(Q:z0b)(E:z0b),tn i s.heap->Q (.ref it) s->wpAny (model P w) A (pyIter (.ref it)) Q E s
abbrev TI:=St->Hp->(It->Hp->Prop)->Prop
def PIE (X:Cx)(ai:z0e)(σ:St)(tg:Expr)(R:It->Hp->Prop)(Su:Value)(s2:Shared):Prop :=
 ∃(it:Addr)(fp:z0o)(tn:Nat->Heap->Prop)(J:It)(H':Hp),Su=.ref it/\Inv X ai σ H' s2/\Turn X.prog X.w X.K tg J fp it tn/\tn 0 s2.heap/\(∀b∈fp,tX X ai H' b)/\R J H'
def PI (X:Cx)(tg iter:Expr)(wi:TI):Prop :=
 ∀(ai:z0e)(s:Shared)(σ:St)(H:Hp)(R:It->Hp->Prop),121->wi σ H R ->
  wpAny 146 X.A (eval iter X.env) (λv s1=>wpAny 146 X.A (pyIter v) (PIE X ai σ tg R) X.xe s1) X.xe s
def CH {E:z0b}{s:Shared}{u:Value}{o:Obj}{n:String}{Q:Unit->Shared->Prop}(ho:s.heap.get? it=111)(hc:o.cls=.type n)(hd:o.data=.fields vs)
  (hn:["enumerate","zip","dict_itemiterator","dict_reverseitemiterator","odict_iterator","itertools.zip_longest","itertools.pairwise"].contains n=false)(hQ:Q () s):wpAny M A (letOwnedTupleGo tg (.ref it) u) Q E s:=by
 unfold letOwnedTupleGo;cases tg <;> first
  | exact aK hQ
  | (cases u <;> first
    | exact aK hQ
    | (refine ax (wpAny_load ho ?_)
       rw [hc,hd];show wpAny M A (if (["enumerate","zip","dict_itemiterator","dict_reverseitemiterator","odict_iterator","itertools.zip_longest","itertools.pairwise"].contains n && vs[0]? == some (rawInt _))=true then _ else _) Q E s;rw [az (by intro h;rw [hn,Bool.false_and] at h;cases h)];exact aK hQ))
def kF (K:aV)(a:Addr):It :=
 ⟨λi H=>∃xs x,aF K H a xs/\xs[i]?=some x,λi H x H'=>H'=H/\∀xs,aF K H a xs->xs[i]?=some x,λi H=>∃xs,aF K H a xs/\xs.length<=i⟩
def tV (K:aV)(a:Addr):It :=
 ⟨λi H=>∃xs x,aZ K H a xs/\xs[i]?=some x,λi H x H'=>H'=H/\∀xs,aZ K H a xs->xs[i]?=some x,λi H=>∃xs,aZ K H a xs/\xs.length<=i⟩
def Oj (lo:Int) (n:Nat):It:=⟨λi _=>i < n,λi H x H'=>H'=H/\x=.int (lo+i),λi _=>n<=i⟩
def C_ {w:World}{K:aV}(a it:Addr):Turn P w K tg (kF K a) [it] it (λi h=>h.IsListIter it a i) where
 mem:=108
 obj:=λi h st b hb=>by
  have e:b=it:=215
  subst e;obtain⟨o,e,c,d⟩:=st;exact⟨o,e,λv z=>by rw [d] at z;cases z⟩
 keep:=λi h h' st k=>st.at λo e=>k it 125 o e
 item:=by
  intro X hP hw hK hc i ai s σ H E I hf st hg;subst hP hw hK;obtain⟨xs,x,hq,hx⟩:=hg;obtain⟨aN,rv,p,hz⟩:=I.list hq;obtain⟨u,hu,ru⟩:=rv.get hx;obtain⟨f0,f1,f2,f3,f4,f5⟩:=hf it 125;refine wpAny_pyNext_list_item st p.isList (x:=u) (by simpa using hu) λh' qL sb=>?_;have I1:Inv X ai σ H 216:=I.turned (t':=s.toks) (λb o hb e=>(sb.2 b hb).trans e) f0 f1 f3 f4 f5;obtain⟨o,e,c,d⟩:=id qL;exact⟨u,rfl,CH (s:=216) e c d nofun ⟨x,H,I1,ru,⟨rfl,λys hy=>by rw [I.je hy hq];exact hx⟩,qL,λb hb=>(hf b hb).1⟩⟩
 done:=by
  intro X hP hw hK hc i ai s σ H E I hf st hg;subst hP hw hK;obtain⟨xs,hq,hx⟩:=hg;obtain⟨aN,rv,p,hz⟩:=I.list hq;obtain⟨f0,f1,f2,f3,f4,f5⟩:=hf it 125;have hl:=rv.length;exact vP (I.ok.hd hc) st p.isList (by simp;omega) 338
 self:=λ_ _ _ _ _ st h=>wpAny_pyIter_listiter st h
def zW {w:World}{K:aV}(a it:Addr):Turn P w K tg (tV K a) [it] it (λi h=>h.IsTupleIter it a i) where
 mem:=108
 obj:=λi h st b hb=>by
  have e:b=it:=215
  subst e;obtain⟨o,e,c,d⟩:=st;exact⟨o,e,λv z=>by rw [d] at z;cases z⟩
 keep:=λi h h' st k=>st.at λo e=>k it 125 o e
 item:=by
  intro X hP hw hK hc i ai s σ H E I hf st hg;subst hP hw hK;obtain⟨xs,x,hq,hx⟩:=hg;obtain⟨aN,rv,p,hz⟩:=I.tuple hq;obtain⟨u,hu,ru⟩:=rv.get hx;obtain⟨f0,f1,f2,f3,f4,f5⟩:=hf it 125;refine wpAny_pyNext_tuple_item st (show s.heap.IsTuple a aN.toArray from p) (x:=u) (by simpa using hu) λh' qL sb=>?_;have I1:Inv X ai σ H 216:=I.turned (t':=s.toks) (λb o hb e=>(sb.2 b hb).trans e) f0 f1 f3 f4 f5;obtain⟨o,e,c,d⟩:=id qL;exact⟨u,rfl,CH (s:=216) e c d nofun ⟨x,H,I1,ru,⟨rfl,λys hy=>by rw [I.uF hy hq];exact hx⟩,qL,λb hb=>(hf b hb).1⟩⟩
 done:=by
  intro X hP hw hK hc i ai s σ H E I hf st hg;subst hP hw hK;obtain⟨xs,hq,hx⟩:=hg;obtain⟨aN,rv,p,hz⟩:=I.tuple hq;obtain⟨f0,f1,f2,f3,f4,f5⟩:=hf it 125;have hl:=rv.length;exact wpAny_pyNext_tuple_end (I.ok.hd hc) st (show s.heap.IsTuple a aN.toArray from p) (by simp;omega) 338
 self:=λ_ _ _ _ _ st h=>wpAny_pyIter_tupleiter st h
def zX {w:World}{K:aV}(it:Addr) (lo:Int) (n:Nat):Turn P w K tg (Oj lo n) [it] it (λi h=>IsRangeIter h it (lo+(i:Nat) * 1) ((n:Int) - (i:Nat)) 1) where
 mem:=108
 obj:=λi h st b hb=>by
  have e:b=it:=215
  subst e;exact⟨_,st,λv z=>by
   have z':Data.fields _=Data.cell v:=z;cases z'⟩
 keep:=λi h h' st k=>k it 125 _ st
 item:=by
  intro X hP hw hK hc i ai s σ H E I hf st hg;subst hP hw hK;obtain⟨f0,f1,f2,f3,f4,f5⟩:=hf it 125;have W:=Walks.range (prog:=X.prog) (w:=X.w) (I.ok.hd hc) it lo 1 n;refine W.item i s _ _ hg st λv h' tk hv qL kk=>?_;obtain⟨t,rfl⟩:=hv;have I1:Inv X ai σ H { s with heap:=h',toks:=tk }:=I.turned (λb o hb e=>kk b o (215) e) f0 f1 f3 f4 f5;refine⟨_,rfl,CH (s:={ s with heap:=h',toks:=tk }) (n := "range_iterator") qL rfl rfl nofun ⟨.int (lo+i),H,I1,⟨t,?_⟩,⟨rfl,rfl⟩,qL,λb hb=>(hf b hb).1⟩⟩;rw [Int.mul_one]
 done:=by
  intro X hP hw hK hc i ai s σ H E I hf st hg;subst hP hw hK;obtain⟨f0,f1,f2,f3,f4,f5⟩:=hf it 125;exact wpAny_pyNext_range_end (I.ok.hd hc) st (by have:n<=i:=hg;omega) 338
 self:=λ_ _ _ _ _ st h=>wpAny_pyIter_rangeiter st h
section
variable {X:Cx}{tg:Expr}
def Lo (K:aV)(tl:TE):TI:=λσ H R=>tl σ H λx H1=>Tq x (λa=>∃xs,aF K H1 a xs) λa=>R (kF K a) H1
def Vw (K:aV)(tl:TE):TI:=λσ H R=>tl σ H λx H1=>Tq x (λa=>∃xs,aZ K H1 a xs) λa=>R (tV K a) H1
def bq {l:Expr}{tl:TE}(hl:PE X l tl):PI X tg l (Lo X.K tl):=by
 intro ai s σ H R I h;refine cE (hl ai s σ H _ I h) λv s1 aW=>?_;obtain⟨x,H1,I1,r1,q1⟩:=aW;obtain⟨a,e,⟨xs,hq⟩,q⟩:=q1;subst e;cases r1;obtain⟨aN,rv,p,hz⟩:=I1.list hq;refine jV p.isList ?_;refine⟨s1.heap.objs.size,[s1.heap.objs.size],_,_,H1,rfl,I1.kept (t':=s1.toks) λb o e=>a_ _ e,C_ a _,⟨_,cu _ rfl,rfl,rfl⟩,λb hb=>?_,q⟩;have e:b=s1.heap.objs.size:=215
 subst e;exact I1.kA (aG _) (I1.bw.fresh (aG _))
def hV {l:Expr}{tl:TE}(hl:PE X l tl):PI X tg l (Vw X.K tl):=by
 intro ai s σ H R I h;refine cE (hl ai s σ H _ I h) λv s1 aW=>?_;obtain⟨x,H1,I1,r1,q1⟩:=aW;obtain⟨a,e,⟨xs,hq⟩,q⟩:=q1;subst e;cases r1;obtain⟨aN,rv,p,hz⟩:=I1.tuple hq;refine vD (show s1.heap.IsTuple a aN.toArray from p) ?_;refine⟨s1.heap.objs.size,[s1.heap.objs.size],_,_,H1,rfl,I1.kept (t':=s1.toks) λb o e=>a_ _ e,zW a _,⟨_,cu _ rfl,rfl,rfl⟩,λb hb=>?_,q⟩;have e:b=s1.heap.objs.size:=215
 subst e;exact I1.kA (aG _) (I1.bw.fresh (aG _))
def yh {σ:St}{s:Shared}{R:It->Hp->Prop}{E:z0b}{lo hi:Int}{t u v:Tok}{tk:Nat}(I:121)(h1:-(2 ^ 62)<=lo)(h2:lo < 2 ^ 62)(h3:-(2 ^ 62)<=hi)(h4:hi < 2 ^ 62)
  (q:R (Oj lo (hi - lo).toNat) H):wpAny 146 X.A (pyIter (197)) (PIE X ai σ tg R) E { s with heap:=s.heap.push { cls:=.type "range",data:=.fields #[.int lo t,.int hi u,.int 1 v] },toks:=tk }:=by
 refine wpAny_pyIter_range (IsRange.new ..) (small_one h1 h2 h3 h4) ?_;have I1:Inv X ai σ H { s with heap:=s.heap.push { cls:=.type "range",data:=.fields #[.int lo t,.int hi u,.int 1 v] },toks:=tk }:=I.kept λb o e=>a_ _ e;refine⟨(s.heap.push { cls:=.type "range",data:=.fields #[.int lo t,.int hi u,.int 1 v] }).objs.size,[(s.heap.push { cls:=.type "range",data:=.fields #[.int lo t,.int hi u,.int 1 v] }).objs.size],_,_,H,rfl,
  I1.kept (t':=tk) λb o e=>a_ _ e,zX _ lo (hi - lo).toNat,?_,λb hb=>?_,q⟩
 .have e1:lo+((0:Nat):Int) * 1=lo:=108
  have e2:(((hi - lo).toNat:Nat):Int) - ((0:Nat):Int)=Builtin.Range.rangeSize lo hi 1:=by rw [rangeSize_one];split <;> omega
  show IsRangeIter _ _ (lo+((0:Nat):Int) * 1) ((((hi - lo).toNat:Nat):Int) - ((0:Nat):Int)) 1;rw [e1,e2];exact cu _ rfl
 have e:b=(s.heap.push { cls:=.type "range",data:=.fields #[.int lo t,.int hi u,.int 1 v] }).objs.size:=215
 subst e;exact I1.kA (aG _) (I1.bw.fresh (aG _))
def Qw (ta:TA):TI:=λσ H R=>ta σ H λvs H1=>XRg vs λj=>R (Oj 0 j.toNat) H1
def Qv (ta:TA):TI:=λσ H R=>ta σ H λvs H1=>∃i j:Int,vs=[.int i,.int j]/\(-(2 ^ 62)<=i/\i < 2 ^ 62/\-(2 ^ 62)<=j/\j < 2 ^ 62)/\R (Oj i (j - i).toNat) H1
def kQ {a:Expr}{ta:TA}{p pos:Pos}(hg:Gl X "range")(hm:X.mg "range"=none)(ha:PA X [a] ta)(hs:starEach [a] X.env=[(false,eval a X.env)]:=by rfl):PI X tg (.Call (.Name "range" p) [a] [] pos) (Qw ta):=by
 intro ai s σ H R I h;refine Call_ (gM I hg hm boot_range (q9 270 hs rfl));obtain⟨vs,H1,I1,r1,q1⟩:=aW;obtain⟨j,e,q1,q2,q⟩:=q1;subst e;cases r1 with
 | cons r rr =>
  cases rr;obtain⟨t,rfl⟩:=r;exact call_range_1 (yh I1 ∅ ∅ q1 q2 (by simpa using q))
def Dp {a b:Expr}{ta:TA}(hg:Gl X "range")(hm:X.mg "range"=none)(ha:PA X [a,b] ta)(hs:starEach [a,b] X.env=[(false,eval a X.env),(false,eval b X.env)]:=by rfl)(Lr:starEach [b] X.env=[(false,eval b X.env)]:=by rfl) :
  PI X tg (.Call (.Name "range" p) [a,b] [] pos) (Qv ta):=by
 intro ai s σ H R I h;refine Call_ (gM I hg hm boot_range (q9 270 (by rw [hs,Lr]) (by rw [Lr];rfl)));obtain⟨vs,H1,I1,r1,q1⟩:=aW;obtain⟨i,j,e,⟨q1,q2,q3,q4⟩,q⟩:=q1;subst e;cases r1 with
 | cons r rr =>
  cases rr with
  | cons r' rr =>
   cases rr;obtain⟨t,rfl⟩:=r;obtain⟨t',rfl⟩:=r';exact call_range_2 (yh I1 q1 q2 q3 q4 q)
def T9 (wi:TI)(g:TG)(tb:TS):TS:=λD σ H=>wi σ H λJ H1=>∃W:Nat->Nat->148,(∃m,W 0 m σ H1)/\∀i m σ H,W i m σ H ->
 (J.stop i H/\D.nx σ H)\/(J.go i H/\∃N:148,(∀σ' H',N σ' H'->∃m',m' < m/\W (i+1) m' σ' H')/\∀x H',J.nu i H x H'->321)
def pq (fp:z0o)(h:Heap):z0e:=fp.filterMap λb=>(h.get? b).map λo=>(b,o)
def fJ {h:Heap}{b:Addr}{o:Obj}(hb:b∈fp)(e:h.get? b=111):(b,o)∈pq fp h:=vK.mpr ⟨b,hb,by rw [e];rfl⟩
def Dy {h:Heap}{p:Addr×Obj}(hp:p∈pq fp h):p.1∈fp/\h.get? p.1=some p.2:=by
 obtain⟨b,hb,e⟩:=vK.mp hp;cases q:h.get? b with
 | none=>rw [q] at e;cases e
 | some o =>
  rw [q] at e;have e':(b,o)=p:=jJ e;subst e';exact⟨hb,q⟩
def Inv.pinned {σ:St}{s:Shared}(I:121)(hf:∀b∈fp,tX X ai H b)(ho:∀b∈fp,∃o,178/\∀v,o.data≠.cell v):Inv X (ai++pq fp s.heap) σ H s :=
 I.Ct λp hp=>(cK.mp hp).elim (λz=>I.pin p (fO _ z)) λz=>by
  obtain⟨hb,e⟩:=Dy z;obtain⟨f0,f1,f2,_⟩:=hf p.1 hb;obtain⟨o,e',d⟩:=ho p.1 hb;rw [e] at e';cases e';exact⟨e,f0,f1,f2,d⟩
def Inv.jb {σ:St}(I:Inv X (ai++pl) σ H s):121:=I.Ct λp hp=>I.pin p (fO _ (jX _ hp))
def b_ {iter:Expr}{body:z0q}{wi:TI}{g:TG}{tb:TS}{pos:Pos}(hp:PassesOwn 146 X.A X.env X.xe)(hc:X.calm=true)(hi:PI X tg iter wi)(hg:PG X tg g)(hb:vC X body tb)
  (hs:∀x,foldedSetIterable iter X.env x=pure x:=by intro _;rfl):PS X (.For tg iter body [] pos) (T9 wi g tb):=by
 intro ai s σ H D I h;refine wpAny_For (cE (hi ai s σ H _ I h) λv s1 h1=>cE h1 λSu s2 h2=>?_) hs;obtain⟨it,fp,tn,J,H2,e,I2,T,Ij,f2,W,⟨m0,w0⟩,turn⟩:=h2;subst e;have rK:∀{H':Hp},(∀b∈fp,H' b=none)->∀b∈fp,tX X ai H' b:=λhn b hb=>⟨hn b hb,(f2 b hb).2⟩;refine codeAny_forLoop_any (λn s'=>∃i σ' H',Inv X ai σ' H' s'/\tn i s'.heap/\(∀b∈fp,H' b=none)/\W i n σ' H') ?_ m0 ⟨0,σ,H2,I2,Ij,λb hb=>(f2 b hb).1,w0⟩;rintro n s3 ⟨i,σ3,H3,I3,Pw,ZK,w3⟩;rcases turn i n σ3 H3 w3 with ⟨stop,qn⟩ | ⟨go,N,hN,step⟩
 .refine lU hp (cE (T.done X rfl rfl rfl hc i ai s3 σ3 H3 X.xe I3 (rK ZK) Pw stop) λr s4 ⟨hr,I4⟩=>?_);subst hr;exact rb ⟨σ3,H3,I4,qn⟩
 refine lU hp (cE (T.item X rfl rfl rfl hc i ai s3 σ3 H3 X.xe I3 (rK ZK) Pw go) λr s4 ⟨u,hr,h4⟩=>?_);subst hr;refine lU hp (cE h4 λ_ s5 aW=>?_);obtain⟨x,H5,I5,r5,y5,Df,Ri⟩:=aW;have I5':=I5.pinned (rK Ri) (T.obj _ _ Df);refine lU hp (cE (hg _ s5 σ3 H5 x u _ I5' r5 (step x H5 y5)) λ_ s6 aW=>?_);obtain⟨σ6,H6,I6,q6⟩:=aW;refine lU hp (cE (hb _ s6 σ6 H6 _ I6 q6) λf s7 q7=>?_);have again:∀{σ7:St}{H7:Hp},Inv X (ai++pq fp s5.heap) σ7 H7 s7->N σ7 H7->∃m,m < n/\∃i σ' H',Inv X ai σ' H' s7/\tn i s7.heap/\(∀b∈fp,H' b=none)/\W i m σ' H':=λ{σ7 H7} I7 n7=>by
  obtain⟨m',hm,w7⟩:=hN σ7 H7 n7;refine⟨m',hm,i+1,σ7,H7,I7.jb,T.keep _ _ _ Df λb hb o e=>(I7.pin (b,o) (fO _ (fO _ (fJ hb e)))).1,λb hb=>?_,w7⟩;obtain⟨o,e,d⟩:=T.obj _ _ Df b hb;exact(I7.pin (b,o) (fO _ (fO _ (fJ hb e)))).2.1
 cases f with
 | next=>obtain⟨σ7,H7,I7,n7⟩:=q7;exact again I7 n7
 | cont=>obtain⟨σ7,H7,I7,n7⟩:=q7;exact again I7 n7
 | brk=>obtain⟨σ7,H7,I7,q7⟩:=q7;exact⟨σ7,H7,I7.jb,q7⟩
 | ret v=>obtain⟨x7,σ7,H7,I7,r7,q7⟩:=q7;exact⟨x7,σ7,H7,I7.jb,r7,q7⟩
end
def du {K:aV}{a:Addr}{xs:115}{g:TG}{tb:TS}{D:Ends}{σ:St}(Pv:Nat->148)(h0:Pv 0 σ H)(hl:∀i σ H,i<=xs.length->Pv i σ H->aF K H a xs)
  (hs:∀i x σ H,xs[i]?=some x->Pv i σ H->g x σ H λσ2 H2=>tb { D with nx:=Pv (i+1),ct:=Pv (i+1),bk:=D.nx } σ2 H2)(hd:∀σ H,Pv xs.length σ H->D.nx σ H) :
  ∃W:Nat->Nat->148,(∃m,W 0 m σ H)/\∀i m σ H,W i m σ H ->
   ((kF K a).stop i H/\D.nx σ H)\/((kF K a).go i H/\∃N:148,(∀σ' H',N σ' H'->∃m',m' < m/\W (i+1) m' σ' H')/\∀x H',(kF K a).nu i H x H'->321):=by
 refine 341;rintro i m σ H ⟨rfl,hi,p⟩;have q:=hl i σ H hi p;by_cases iM:i < xs.length
 .refine 346;obtain⟨e,y⟩:=y;subst e;exact hs i x σ _ (y xs q) p
 have e:i=xs.length:=by omega
 subst e;exact .inl ⟨⟨xs,q,aG _⟩,hd σ H p⟩
def xq {K:aV}{a:Addr}{xs:115}{g:TG}{tb:TS}{D:Ends}{σ:St}(Pv:Nat->148)(h0:Pv 0 σ H)(hl:∀i σ H,i<=xs.length->Pv i σ H->aZ K H a xs)
  (hs:∀i x σ H,xs[i]?=some x->Pv i σ H->g x σ H λσ2 H2=>tb { D with nx:=Pv (i+1),ct:=Pv (i+1),bk:=D.nx } σ2 H2)(hd:∀σ H,Pv xs.length σ H->D.nx σ H) :
  ∃W:Nat->Nat->148,(∃m,W 0 m σ H)/\∀i m σ H,W i m σ H ->
   ((tV K a).stop i H/\D.nx σ H)\/((tV K a).go i H/\∃N:148,(∀σ' H',N σ' H'->∃m',m' < m/\W (i+1) m' σ' H')/\∀x H',(tV K a).nu i H x H'->321):=by
 refine 341;rintro i m σ H ⟨rfl,hi,p⟩;have q:=hl i σ H hi p;by_cases iM:i < xs.length
 .refine 346;obtain⟨e,y⟩:=y;subst e;exact hs i x σ _ (y xs q) p
 have e:i=xs.length:=by omega
 subst e;exact .inl ⟨⟨xs,q,aG _⟩,hd σ H p⟩
def jk {lo:Int}{n:Nat}{g:TG}{tb:TS}{D:Ends}{σ:St}(Pv:Nat->148)(h0:Pv 0 σ H)
  (hs:∀i σ H,i < n->Pv i σ H->g (.int (lo+i)) σ H λσ2 H2=>tb { D with nx:=Pv (i+1),ct:=Pv (i+1),bk:=D.nx } σ2 H2)(hd:∀σ H,Pv n σ H->D.nx σ H) :
  ∃W:Nat->Nat->148,(∃m,W 0 m σ H)/\∀i m σ H,W i m σ H ->
   ((Oj lo n).stop i H/\D.nx σ H)\/((Oj lo n).go i H/\∃N:148,(∀σ' H',N σ' H'->∃m',m' < m/\W (i+1) m' σ' H')/\∀x H',(Oj lo n).nu i H x H'->321):=by
 refine⟨λi m σ H=>m=n - i/\i<=n/\Pv i σ H,⟨n,108,d6 _,h0⟩,?_⟩;rintro i m σ H ⟨rfl,hi,p⟩;by_cases iM:i < n
 .refine .inr ⟨iM,Pv (i+1),λσ' H' p'=>⟨n - (i+1),∅,rfl,iM,p'⟩,λx H' y=>?_⟩;obtain⟨e,y⟩:=y;subst e y;exact hs i σ _ iM p
 have e:i=n:=by omega
 subst e;exact .inl ⟨aG _,hd σ H p⟩
def E4 {c:TT}{tb:TS}{D:Ends}{σ:St}(Pv:148)(μ:St->Hp->Nat)(h0:Pv σ H)
  (hs:∀σ H,Pv σ H->c σ H λb H1=>if b=true then tb { D with nx:=λσ' H'=>Pv σ' H'/\μ σ' H' < μ σ H,ct:=λσ' H'=>Pv σ' H'/\μ σ' H' < μ σ H,bk:=D.nx } σ H1 else D.nx σ H1)
  (mono:∀σ H Q Q',(∀b H1,Q b H1->Q' b H1)->c σ H Q->c σ H Q'):E9 c tb D σ H:=by
 refine⟨λm σ H=>m=μ σ H/\Pv σ H,⟨_,rfl,h0⟩,?_⟩;rintro m σ H ⟨rfl,p⟩;refine mono σ H _ _ (λb H1 q=>?_) (hs σ H p);cases b with
 | true=>exact⟨_,λσ' H' ⟨p',l⟩=>⟨_,l,rfl,p'⟩,q⟩
 | false=>exact q
abbrev R2:=V->V->Hp->VK->Prop
def oy (X:Cx)(f:Value->Value->Sem Value)(r:R2):Prop :=
 ∀(ai:z0e)(s:Shared)(σ:St)(H:Hp)(x y:V)(v u:Value)(Q:VK),121->RelV x v->RelV y u->r x y H Q ->
  wpAny 146 X.A (f v u) (EP X ai σ Q) X.xe s
def XS (X:Cx)(f:Value->Sem Value)(r:V->Hp->VK->Prop):Prop :=
 ∀(ai:z0e)(s:Shared)(σ:St)(H:Hp)(x:V)(v:Value)(Q:VK),121->RelV x v->r x H Q ->
  wpAny 146 X.A (f v) (EP X ai σ Q) X.xe s
def fu (X:Cx)(f:Value)(r:115->Hp->VK->Prop):Prop :=
 ∀(ai:z0e)(s:Shared)(σ:St)(H:Hp)(xs:115)(us:z0m)(Q:VK),121->aY xs us->r xs H Q ->
  wpAny 146 X.A (call f us) (EP X ai σ Q) X.xe s
def XT (X:Cx)(r:V->Hp->(Bool->Hp->Prop)->Prop):Prop :=
 ∀(ai:z0e)(s:Shared)(σ:St)(H:Hp)(x:V)(v:Value)(Q:Bool->Hp->Prop),121->RelV x v->r x H Q ->
  wpAny 146 X.A (truthy v) (TP X ai σ Q) X.xe s
def R6 (r:R2)(ta tb:TE):TE:=λσ H Q=>ta σ H λx H1=>tb σ H1 λy H2=>r x y H2 Q
def tUn (r:V->Hp->VK->Prop)(ta:TE):TE:=λσ H Q=>ta σ H λx H1=>r x H1 Q
def rI (C:Int->Int->Prop)(g:Int->Int->V):R2:=λx y H Q=>XI2 x y C λi j=>Q (g i j) H
def K7 (g:Int->Int->V):R2:=λx y H Q=>XI0 x y λi j=>Q (g i j) H
def rU (g:Int->V):V->Hp->VK->Prop:=λx H Q=>XQ x λi=>Q (g i) H
section
variable {X:Cx}{a b c:Expr}{ta tb tc:TE}{pos:Pos}
def Od (ha:PE X a ta)(hb:PE X b tb){σ:St}{R:V->V->Hp->Prop}(I:121)
  (h:ta σ H λx H1=>tb σ H1 λy H2=>R x y H2){f:Value->Value->Sem Value}
  (hf:∀v u s2 x y H2,Inv X ai σ H2 s2->RelV x v->RelV y u->R x y H2->wpAny 146 X.A (f v u) Q X.xe s2) :
  wpAny 146 X.A (eval a X.env) (λv s₁=>wpAny 146 X.A (eval b X.env) (λu s₂=>wpAny 146 X.A (f v u) Q X.xe s₂) X.xe s₁) X.xe s:=by
 refine cE (ha ai s σ H _ I h) λv s1 aW=>?_;obtain⟨x,H1,I1,r1,q1⟩:=aW;refine cE (hb ai s1 σ H1 _ I1 q1) λu s2 aW=>?_;obtain⟨y,H2,I2,r2,q2⟩:=aW;exact hf v u s2 x y H2 I2 r1 r2 q2
def aU {op:Operator}{r:R2}(ho:oy X (binaryOp op) r)(ha:PE X a ta)(hb:PE X b tb):PE X (.BinOp a op b pos) (R6 r ta tb):=by
 intro ai s σ H Q I h;exact wpAny_BinOp (Od ha hb I h λv u s2 x y H2 I2 rx ry q=>ho ai s2 σ H2 x y v u Q I2 rx ry q)
def yk {r:V->Hp->VK->Prop}(ho:XS X (unaryOp op) r)(ha:PE X a ta):PE X (.UnaryOp op a pos) (tUn r ta):=by
 intro ai s σ H Q I h;refine UnaryOp_ (cE (ha ai s σ H _ I h) λv s1 aW=>?_);obtain⟨x,H1,I1,r1,q1⟩:=aW;exact ho ai s1 σ H1 x v Q I1 r1 q1
def UG {f:Value->Value->Sem Value}{C:Int->Int->Prop}{g:Int->Int->Int}
  (rule:∀(i j:Int)(t u:Tok)(s:Shared)(Q:z0b)(E:z0b),C i j->Q (.int (g i j) s.toks) 247->wpAny 146 X.A (f (.int i t) (.int j u)) Q E s) :
  oy X f (rI C λi j=>.int (g i j)):=by
 intro ai s σ H x y v u Q I rx ry h;obtain⟨i,j,rfl,rfl,hc,q⟩:=h;obtain⟨t,rfl⟩:=rx;obtain⟨t',rfl⟩:=ry;exact rule i j t t' s _ _ hc ⟨.int (g i j),H,I.tok _,159,q⟩
def P2 {f:Value->Value->Sem Value}{g:Int->Int->Int}
  (rule:∀(i j:Int)(t u:Tok)(s:Shared)(Q:z0b)(E:z0b),Q (.int (g i j) s.toks) 247->wpAny 146 X.A (f (.int i t) (.int j u)) Q E s) :
  oy X f (K7 λi j=>.int (g i j)):=by
 intro ai s σ H x y v u Q I rx ry h;obtain⟨i,j,rfl,rfl,q⟩:=h;obtain⟨t,rfl⟩:=rx;obtain⟨t',rfl⟩:=ry;exact rule i j t t' s _ _ ⟨.int (g i j),H,I.tok _,159,q⟩
def JD {f:Value->Value->Sem Value}{g:Int->Int->Bool}
  (rule:∀(i j:Int)(t u:Tok)(s:Shared)(Q:z0b)(E:z0b),Q (.bool (g i j)) s->wpAny 146 X.A (f (.int i t) (.int j u)) Q E s) :
  oy X f (K7 λi j=>.bl (g i j)):=by
 intro ai s σ H x y v u Q I rx ry h;obtain⟨i,j,rfl,rfl,q⟩:=h;obtain⟨t,rfl⟩:=rx;obtain⟨t',rfl⟩:=ry;exact rule i j t t' s _ _ ⟨.bl (g i j),H,I,rfl,q⟩
def Yc (i j:Int):Prop:=0 < j/\j < 1073741824
def Ou (i j:Int):Prop:=(-(2 ^ 64) < i/\i < 2 ^ 64)\/(-(2 ^ 64) < j/\j < 2 ^ 64)
def Ou.ok {i j:Int}(h:Ou i j):IntMulOk i j:=by
 rcases h with ⟨h1,h2⟩ | ⟨h1,h2⟩
 .exact .of_left (intBits_le_64 h1 h2)
 exact .of_right (intBits_le_64 h1 h2)
def dQ:oy X (binaryOp .Add) (K7 λi j=>.int (i+j)):=P2 λ_ _ _ _ _ _ _ q=>add_int q
def wQ:oy X (binaryOp .Sub) (K7 λi j=>.int (i - j)):=P2 λ_ _ _ _ _ _ _ q=>sub_int q
def AL:oy X (binaryOp .Mult) (rI Ou λi j=>.int (i * j)):=UG λ_ _ _ _ _ _ _ hc q=>mul_int q hc.ok
def gS:oy X (binaryOp .FloorDiv) (rI Yc λi j=>.int (i / j)):=UG λi j _ _ _ _ _ hc q=>by
 have h1:(0:Int) < j:=hc.1;have h2:j < 1073741824:=hc.2;exact floordiv_int ∅ (by rw [Int.fdiv_eq_ediv_of_nonneg i ∅];exact q) (.inl (PyProof.noPylong_small ∅))
def eQ:oy X (binaryOp .Mod) (rI (λ_ j=>0 < j) λi j=>.int (i % j)):=UG λi j _ _ _ _ _ hc q=>by
 have h1:(0:Int) < j:=hc;exact mod_int' ∅ (by rw [Int.fmod_eq_emod_of_nonneg i ∅];exact q)
def unI {f:Value->Sem Value}{g:Int->Int}
  (rule:∀(i:Int)(t:Tok)(s:Shared)(Q:z0b)(E:z0b),Q (.int (g i) s.toks) 247->wpAny 146 X.A (f (.int i t)) Q E s) :
  XS X f (rU λi=>.int (g i)):=by
 intro ai s σ H x v Q I rx h;obtain⟨i,rfl,q⟩:=h;obtain⟨t,rfl⟩:=rx;exact rule i t s _ _ ⟨.int (g i),H,I.tok _,159,q⟩
def rE:XS X (unaryOp .USub) (rU λi=>.int (-i)):=unI λ_ _ _ _ _ q=>neg_int q
end
def PD:V->V->Bool
 | .dq,.dq=>true | .dq,.int _=>true | .int _,.dq=>true | .dq,.bl _=>true | .bl _,.dq=>true | .dq,.str _=>true | .str _,.dq=>true
 | .int _,.int _=>true | .bl _,.bl _=>true | .str _,.str _=>true | .BG _,.BG _=>true
 | .int _,.str _=>true | .str _,.int _=>true | .bl _,.str _=>true | .str _,.bl _=>true
 | _,_=>false
def rEq:R2:=λx y H Q=>PD x y=true/\Q (.bl (decide (x=y))) H
def rNe:R2:=λx y H Q=>PD x y=true/\Q (.bl (!decide (x=y))) H
def CN {i j:Int}:decide (V.int i=V.int j)=(i == j):=by
 rw [ib];simp
def HH {i j:Bool}:decide (V.bl i=V.bl j)=(i == j):=by
 rw [ib];simp
def CM {i j:Str}:decide (V.str i=V.str j)=(i == j):=by
 rw [ib];simp
def CO {i j:Array UInt8}:decide (V.BG i=V.BG j)=(i.toList == j.toList):=by
 rw [ib];cases i;cases j;simp
section
variable {X:Cx}{a b c:Expr}{ta tb tc:TE}{pos:Pos}
def cm {σ:St}{Q:VK}{k k':Bool}(I:121)(q:Q (.bl k) H)(e:k=k'):EP X ai σ Q (.bool k') s:=by
 subst e;exact⟨.bl k,H,I,rfl,q⟩
def qj:oy X (compareOp .Eq) rEq:=by
 intro ai s σ H x y v u Q I rx ry h;obtain⟨hs,q⟩:=h;cases x with
 | dq =>
  cases rx;cases y with
  | dq=>cases ry;exact PySem.EqNone.eq_none_none (cm I q 125)
  | bl j=>cases ry;exact PySem.EqNone.eq_none_bool (cm I q 125)
  | int j=>obtain⟨t',rfl⟩:=ry;exact PySem.EqNone.eq_none_int (cm I q 125)
  | str j=>obtain⟨t',rfl⟩:=ry;exact PySem.EqNone.eq_none_str (cm I q 125)
  | _=>exact absurd (show false=true from hs) dj
 | bl i =>
  cases rx;cases y with
  | dq=>cases ry;exact PySem.EqNone.eq_bool_none (cm I q 125)
  | bl j=>cases ry;exact eq_bool (cm I q HH)
  | str j=>obtain⟨t',rfl⟩:=ry;exact PySem.EqMixed.eq_bool_str (cm I q 125)
  | _=>exact absurd (show false=true from hs) dj
 | int i =>
  obtain⟨t,rfl⟩:=rx;cases y with
  | dq=>cases ry;exact PySem.EqNone.eq_int_none (cm I q 125)
  | int j=>obtain⟨t',rfl⟩:=ry;exact eq_int (cm I q CN)
  | str j=>obtain⟨t',rfl⟩:=ry;exact PySem.EqMixed.eq_int_str (cm I q 125)
  | _=>exact absurd (show false=true from hs) dj
 | str i =>
  obtain⟨t,rfl⟩:=rx;cases y with
  | dq=>cases ry;exact PySem.EqNone.eq_str_none (cm I q 125)
  | bl j=>cases ry;exact PySem.EqMixed.eq_str_bool (cm I q 125)
  | int j=>obtain⟨t',rfl⟩:=ry;exact PySem.EqMixed.eq_str_int (cm I q 125)
  | str j=>obtain⟨t',rfl⟩:=ry;exact eq_str (cm I q CM)
  | _=>exact absurd (show false=true from hs) dj
 | BG i =>
  obtain⟨t,rfl⟩:=rx;cases y with
  | BG j=>obtain⟨t',rfl⟩:=ry;exact PySem.W.eq_bytes (cm I q CO)
  | _=>exact absurd (show false=true from hs) dj
 | _=>cases y <;> exact absurd (show false=true from hs) dj
def K_:oy X (compareOp .NotEq) rNe:=by
 intro ai s σ H x y v u Q I rx ry h;obtain⟨hs,q⟩:=h;cases x with
 | dq =>
  cases rx;cases y with
  | dq=>cases ry;exact PySem.EqNone.ne_none_none (cm I q 125)
  | bl j=>cases ry;exact PySem.EqNone.ne_none_bool (cm I q 125)
  | int j=>obtain⟨t',rfl⟩:=ry;exact PySem.EqNone.ne_none_int (cm I q 125)
  | str j=>obtain⟨t',rfl⟩:=ry;exact PySem.EqNone.ne_none_str (cm I q 125)
  | _=>exact absurd (show false=true from hs) dj
 | bl i =>
  cases rx;cases y with
  | dq=>cases ry;exact PySem.EqNone.ne_bool_none (cm I q 125)
  | bl j=>cases ry;exact ne_bool (cm I q (congrArg not HH))
  | str j=>obtain⟨t',rfl⟩:=ry;exact PySem.EqMixed.ne_bool_str (cm I q 125)
  | _=>exact absurd (show false=true from hs) dj
 | int i =>
  obtain⟨t,rfl⟩:=rx;cases y with
  | dq=>cases ry;exact PySem.EqNone.ne_int_none (cm I q 125)
  | int j=>obtain⟨t',rfl⟩:=ry;exact ne_int (cm I q (congrArg not CN))
  | str j=>obtain⟨t',rfl⟩:=ry;exact PySem.EqMixed.ne_int_str (cm I q 125)
  | _=>exact absurd (show false=true from hs) dj
 | str i =>
  obtain⟨t,rfl⟩:=rx;cases y with
  | dq=>cases ry;exact PySem.EqNone.ne_str_none (cm I q 125)
  | bl j=>cases ry;exact PySem.EqMixed.ne_str_bool (cm I q 125)
  | int j=>obtain⟨t',rfl⟩:=ry;exact PySem.EqMixed.ne_str_int (cm I q 125)
  | str j=>obtain⟨t',rfl⟩:=ry;exact ne_str (cm I q (congrArg not CM))
  | _=>exact absurd (show false=true from hs) dj
 | BG i =>
  obtain⟨t,rfl⟩:=rx;cases y with
  | BG j=>obtain⟨t',rfl⟩:=ry;exact PySem.W.ne_bytes (cm I q (congrArg not CO))
  | _=>exact absurd (show false=true from hs) dj
 | _=>cases y <;> exact absurd (show false=true from hs) dj
def qi:oy X (compareOp .Lt) (K7 λi j=>.bl (decide (i < j))):=JD λ_ _ _ _ _ _ _ q=>lt_int q
def P0:oy X (compareOp .LtE) (K7 λi j=>.bl (decide (i<=j))):=JD λ_ _ _ _ _ _ _ q=>le_int q
def sk:oy X (compareOp .Gt) (K7 λi j=>.bl (decide (j < i))):=JD λ_ _ _ _ _ _ _ q=>gt_int q
def P1:oy X (compareOp .GtE) (K7 λi j=>.bl (decide (j<=i))):=JD λ_ _ _ _ _ _ _ q=>ge_int q
def JB:oy X (compareOp .IsNot) (λx y H Q=>y=.dq/\Q (.bl (!decide (x=.dq))) H):=by
 intro ai s σ H x y v u Q I rx ry h;obtain⟨rfl,q⟩:=h;cases ry;refine isnot_none_gen (cm I q ?_);cases x <;> first
  | (cases rx;rfl)
  | (obtain⟨t,rfl⟩:=rx;rfl)
def bz (b:Expr){op:CmpOp}(h:op≠.In:=by decide)(h2:op≠.NotIn:=by decide):behindInMarks op b=false:=by
 have e1:(op == CmpOp.In)=false:=by cases op <;> first | rfl | exact absurd rfl h
 have e2:(op == CmpOp.NotIn)=false:=by cases op <;> first | rfl | exact absurd rfl h2
 cases b <;> simp [behindInMarks,e1,e2]
def kS {r:R2}(ho:oy X (compareOp op) r)(ha:PE X a ta)(hb:PE X b tb)(hm:behindInMarks op b=false):PE X (.Compare a [op] [b] pos) (R6 r ta tb):=by
 intro ai s σ H Q I h;exact wpAny_Compare1 (Od ha hb I h λv u s2 x y H2 I2 rx ry q=>ho ai s2 σ H2 x y v u Q I2 rx ry q) hm
def Pa (t:TE):TT:=λσ H Q=>t σ H λx H'=>XB x λk=>Q k H'
def bf {op:CmpOp}{r:R2}(ho:oy X (compareOp op) r)(ha:PE X a ta)(hb:PE X b tb)(hm:behindInMarks op b=false):PT X (.Compare a [op] [b] pos) (Pa (R6 r ta tb)):=by
 intro ai s σ H Q I h;refine wpAny_isTrue_Compare1 (cE (ha ai s σ H _ I h) λv s1 ⟨x,H1,I1,r1,q1⟩=>cE (hb ai s1 σ H1 _ I1 q1) λu s2 ⟨y,H2,I2,r2,q2⟩ =>
  cE (ho ai s2 σ H2 x y v u _ I2 r1 r2 q2) λc s3 ⟨z,H3,I3,r3,k,e,q3⟩=>?_) hm
 subst e;cases r3;exact pR ⟨H3,I3,q3⟩
def EA (K:aV)(x:V)(H:Hp)(k:Bool):Prop :=
 match x with
 | .dq=>k=false
 | .bl b=>k=b
 | .int i=>k=(i != 0)
 | .str y=>y.length<=sizeLine/\k=((y.length:Int) != 0)
 | .BG y=>y.size<=sizeLine/\k=((y.size:Int) != 0)
 | .ref p=>(∃xs,aF K H p xs/\k=!xs.isEmpty)\/(∃xs,aZ K H p xs/\k=!xs.isEmpty)\/∃kvs,H p=184/\k=!kvs.isEmpty
 | _=>False
def Bc {κ:Type}{kvs:List (κ×V)}{vs:List (κ×Value)}(r:KV kvs vs):(!vs.isEmpty)=!kvs.isEmpty:=by
 cases r <;> rfl
def sL {xs:115}{aN:z0m}(r:aY xs aN):(!aN.toArray.isEmpty)=!xs.isEmpty:=by
 cases r <;> simp
def mr:(sizeLine:Nat) < 2 ^ 63:=by rw [iA];decide
def Mi:XT X (λx H Q=>∃k,EA X.K x H k/\Q k H):=by
 intro ai s σ H x v Q I rx h;obtain⟨k,e,q⟩:=h;have hl:=mr;have hs:sizeLine=16777216:=iA;cases x with
 | dq =>
  cases rx;have e':k=false:=e;subst e';exact truthy_none ⟨H,I,q⟩
 | bl b =>
  cases rx;have e':k=b:=e;subst e';exact pR ⟨H,I,q⟩
 | int i =>
  obtain⟨t,rfl⟩:=rx;have e':k=(i != 0):=e;subst e';exact PySem.P.truthy_int ⟨H,I,q⟩
 | str y =>
  obtain⟨t,rfl⟩:=rx;obtain⟨hy,e'⟩:y.length<=sizeLine/\k=((y.length:Int) != 0):=e;subst e';exact PySem.P.truthy_str ∅ ⟨H,I.tok _,q⟩
 | BG y =>
  obtain⟨t,rfl⟩:=rx;obtain⟨hy,e'⟩:y.size<=sizeLine/\k=((y.size:Int) != 0):=e;subst e';exact PySem.W.truthy_bytes ∅ ⟨H,I.tok _,q⟩
 | ref p =>
  cases rx;have e':(∃xs,aF X.K H p xs/\k=!xs.isEmpty)\/(∃xs,aZ X.K H p xs/\k=!xs.isEmpty)\/∃kvs,H p=184/\k=!kvs.isEmpty:=e;rcases e' with ⟨xs,hx,e'⟩ | ⟨xs,hx,e'⟩ | ⟨kvs,hx,e'⟩
  .subst e';obtain⟨aN,r,pl,hz⟩:=I.list hx;have bN:=r.length;exact wpAny_truthy_list pl.isList (by simp only [cb];omega) ⟨H,I.tok _,by rw [sL r];exact q⟩
  .subst e';obtain⟨aN,r,pl,hz⟩:=I.tuple hx;have bN:=r.length;exact truthy_tuple pl (by simp only [cb];omega) ⟨H,I.tok _,by rw [sL r];exact q⟩
  subst e';obtain⟨hz,hS,vs,r,m⟩:kvs.length<=sizeLine/\(p == sysModules)=false/\∃vs,KV kvs vs/\s.heap.DictOf (aX X.prog X.w) p vs:=I.bw p _ hx;have bN:kvs.length=vs.length:=bT r;exact wpAny_truthy_dict hS m ∅ ⟨H,I.tok _,by rw [Bc r];exact q⟩
 | _=>exact(show False from e).elim
def iD (ha:PE X a ta)(he:∀whole,isTrue a X.env whole=(do let v <-whole;standAt a.pos;holding [v] (truthy v))) :
  PT X a (λσ H Q=>ta σ H λx H'=>∃k,EA X.K x H' k/\Q k H'):=by
 intro ai s σ H Q I h;refine isTrue_plain (cE (ha ai s σ H _ I h) λv s1 aW=>?_) (he _);obtain⟨x,H1,I1,r1,q1⟩:=aW;exact Mi ai s1 σ H1 x v Q I1 r1 q1
def jz:oy X (binaryOp .Add) (λx y H Q=>∃i j,x=.str i/\y=.str j/\i.length+j.length<=sizeLine/\Q (.str (i++j)) H):=by
 intro ai s σ H x y v u Q I rx ry h;obtain⟨i,j,rfl,rfl,hz,q⟩:=h;obtain⟨t,rfl⟩:=rx;obtain⟨t',rfl⟩:=ry;exact add_str (λt' tk=>⟨.str (i++j),H,I.tok _,159,q⟩) hz
def vals1 {x:V}(r:aY [x] us):∃u,us=[u]/\RelV x u:=by
 cases r with
 | cons r1 r2=>cases r2;exact⟨_,rfl,r1⟩
def vals2 {x y:V}(r:aY [x,y] us):∃u w',us=[u,w']/\RelV x u/\RelV y w':=by
 cases r with
 | cons r1 r2 =>
  cases r2 with
  | cons r3 r4=>cases r4;exact⟨_,_,rfl,r1,r3⟩
def Ep (hc:X.calm=true):fu X (.builtin "max") (λxs H Q=>∃i j,xs=[.int i,.int j]/\Q (.int (if j > i then j else i)) H):=by
 intro ai s σ H xs us Q I r h;obtain⟨i,j,rfl,q⟩:=h;obtain⟨u,w',rfl,⟨t,rfl⟩,⟨t',rfl⟩⟩:=vals2 r;refine max_two_ints (I.ok.hd hc) λh' tk k=>⟨_,H,I.kept k,?_,q⟩;by_cases hj:j > i
 .rw [aA hj,aA hj];exact 159
 rw [az hj,az hj];exact 159
end
structure BK (h:Heap)(x dx C:Addr)(mA:z0c):Prop where
 obj:h.get? x=some (PySem.W.instObj C dx)
 ns:h.Ns1 dx mA
 ne:dx≠x
def u4 {h:Heap}{dx:Addr}(n:h.Ns1 dx mA):∃od,h.get? dx=some od/\∀name,PySem.W.lookIn name od=some (mA name):=by
 obtain⟨o,es,ep,ho,hd,hk,_,hm⟩:=n;refine⟨o,ho,λname=>?_⟩;have e:=hm name;unfold nsFind findBy at e;rw [<-Array.find?_toList] at e;unfold PySem.W.lookIn;rw [hd];dsimp only
 split
 .rename_i y q
  rw [q] at e;exact congrArg some e
 rename_i q
 rw [q] at e;have a:es.toList.any (·.refKey)=false:=by
  rw [List.any_eq_false];intro y hy;obtain⟨z,t,Wa⟩:=hk y (Array.mem_toList_iff.mp hy);simp [DictEntry.refKey,Wa]
 have a':¬es.toList.any (·.refKey)=true:=by rw [a];exact dj
 rw [az a'];exact congrArg some e
def BK.look {x dx C:Addr}(I:BK h x dx C mA):∃od,PySem.W.InstAt h x (PySem.W.instObj C dx) C (some od)/\∀name,PySem.W.lookIn name od=some (mA name) :=
 let ⟨od,ho,hl⟩:=u4 I.ns
 ⟨od,⟨I.obj,rfl,rfl,ho⟩,hl⟩
section
variable {prog:Program}{w:World}{A:Around}{E:z0b}{s:Shared}{K:aV}{x dx C f:Addr}{mA:z0c}{name:Str}{v:Value}
def get_map (X:K.In s.heap)(I:BK s.heap x dx C mA)(hg:PySem.W.plainGet K C name=true)(hh:PySem.W.hasDictIn K C=true)
  (ha:PySem.W.findIn K (.ref C) name=some none)(hv:mA name=some v)(hv':PySem.W.handedIn v=true)(h:Q v 247) :
  wpAny 147 A (getAttr (.ref x) name expr) Q E s:=by
 obtain⟨od,J,hl⟩:=I.look;exact PySem.W.get_value X J (PySem.W.plainGet_of hg).1 (PySem.W.findObj_own hh ha rfl (by rw [hl,hv])) hv' h
def Hn {Q:Value×z0m->Shared->Prop}(X:K.In s.heap)(I:BK s.heap x dx C mA)(hg:PySem.W.plainGet K C name=true)
  (hf:PySem.W.findIn K (.ref C) name=some (some (.ref f)))(ht:PySem.W.isFn K (.ref f)=true)(hv:mA name=none)(h:Q (.ref f,[.ref x]) s) :
  wpAny 147 A (getMethod (.ref x) name pl) Q E s:=by
 obtain⟨od,J,hl⟩:=I.look;exact PySem.W.method_fn X J (PySem.W.plainGet_of hg).1 (PySem.W.plainGet_of hg).2 hf (beq_iff_eq.mp ht) (by show (PySem.W.lookIn name od).map (·.isSome)=some false;rw [hl,hv];rfl) h
def IX {ns:z0r}{Q:Unit->Shared->Prop}(X:K.In s.heap)(I:BK s.heap x dx C mA)
  (hs:PySem.W.findIn K (.ref C) "__setattr__"=some (some (.builtin "object.__setattr__")))(hp:PySem.W.plainOver K C=true)(ht:PySem.W.takerIn K C name=some none)(hh:PySem.W.hasDictIn K C=true)
  (hw:PySem.Within mA ns)(hsz:ns.length<=sizeLine)
  (h:∀h',BK h' x dx C (λy=>if y=name then some v else mA y)->Heap.SameBut dx s.heap h'->Q () { s with heap:=h',toks:=s.toks+2 }) :
  wpAny 147 A (setAttr (.ref x) name v) Q E s:=by
 obtain⟨od,J,hl⟩:=I.look;refine PySem.W.set_plain X J hs (PySem.W.osa_open (s:=247) (r:=none) X J hp ht λb=>?_);obtain⟨cd,hc,DU⟩:=PySem.W.any_some hh;have hx:s.heap.get? x=some ⟨.ref C,some dx,.plain,#[]⟩:=I.obj;refine ax (aK (ax (ax (wpAny_loadPart hx (ax (PySem.W.Looks.here (s:=247) (PySem.W.looks_clsIn X hc) ?_))))));rw [DU];refine aK (a:=some dx) (ax (aK (ax ?_)));refine wpAny_nsSet1 (s:=247) I.ns λh' Lu Lr=>?_;obtain⟨oD,esD,epD,V1,Wl,Wr⟩:=Lu.count (PySem.Within.cons name v hw);refine ax (wpAny_lookBehind V1 (by rw [Wl];exact pastItsLine_dict (cI Wr (by rw [c_];omega))) ?_);exact aK (h _ ⟨(Lr.2 _ (dA I.ne)).trans I.obj,Lu,I.ne⟩ Lr)
def yF {R:Result->Shared->Prop}(X:K.In s.heap)(hm:PySem.W.makesIn K C=true)
  (hi:PySem.W.findIn K (.ref C) "__init__"=some (some (.ref f)))(hf:PySem.W.typeIn K (.ref f)=some (.type "function"))
  (h:codeAny 147 (A.under (.builtin "type.__call__" ⟨.ref C::vs,kw⟩)) (.call (.ref f) ⟨.ref 190::vs,kw⟩) (PySem.W.InitBack 190 R)
   { s with heap:=(s.heap.push PySem.W.emptyDict).push (PySem.W.instObj C s.heap.objs.size) }) :
  codeAny 147 A (.call (.ref C) ⟨vs,kw⟩) R s:=by
 obtain⟨hh,g,d,t,os⟩:=s;exact PySem.W.make_core (PySem.W.makes_of X hm) (PySem.W.looks_findIn X hi) (λself=>PySem.W.bind_fn X self hf) (.inl rfl) h
end
def dN (f:Str)(v:V):List (Str×V)->List (Str×V)
 | []=>[(f,v)]
 | (g,x)::r=>if g=f then (g,v)::r else (g,x)::dN f v r
theorem qk (f g:Str)(v:V):∀fs:List (Str×V),(dN f v fs).lookup g=if g=f then some v else fs.lookup g
 | []=>by
  show List.lookup g [(f,v)]=_;by_cases h:g=f
  .have hb:(g == f)=true:=beq_iff_eq.mpr h;simp only [List.lookup,hb,aA h]
  have hb:(g == f)=false:=jW.mpr h;simp only [List.lookup,hb,az h]
 | (k,x)::r=>by
  have ih:=qk f g v r;rw [show dN f v ((k,x)::r)=(if k=f then (k,v)::r else (k,x)::dN f v r) from rfl];by_cases hk:k=f
  .rw [aA hk];by_cases h:g=k
   .have hb:(g == k)=true:=beq_iff_eq.mpr h;simp only [List.lookup,hb,aA (h.trans hk)]
   have hb:(g == k)=false:=jW.mpr h;simp only [List.lookup,hb,az (λe:g=f=>h (e.trans hk.symm))]
  rw [az hk];by_cases h:g=k
  .have hb:(g == k)=true:=beq_iff_eq.mpr h;simp only [List.lookup,hb,az (λe:g=f=>hk (h.symm.trans e))]
  have hb:(g == k)=false:=jW.mpr h;simp only [List.lookup,hb];exact ih
theorem pC (f:Str)(v:V):∀fs:List (Str×V),f∈(dN f v fs).map 56/\∀g,g∈fs.map 56->g∈(dN f v fs).map 56
 | []=>⟨by simp [dN],λg h=>by simp at h⟩
 | (k,x)::r=>by
  obtain⟨i1,i2⟩:=pC f v r;rw [show dN f v ((k,x)::r)=(if k=f then (k,v)::r else (k,x)::dN f v r) from rfl];by_cases hk:k=f
  .rw [aA hk];subst hk;exact⟨108,λg h=>by simpa using h⟩
  rw [az hk];refine⟨?_,λg h=>?_⟩
  .rw [bC];exact cw _ i1
  rw [bC] at h ⊢;rcases aS.mp h with e | e
  .exact aS.mpr (.inl e)
  exact cw _ (i2 g e)
theorem ql (f:Str)(v:V):∀fs:List (Str×V),(dN f v fs).length<=fs.length+1
 | []=>by simp [dN]
 | (k,x)::r=>by
  have ih:=ql f v r;rw [show dN f v ((k,x)::r)=(if k=f then (k,v)::r else (k,x)::dN f v r) from rfl];by_cases hk:k=f
  .rw [aA hk,c_,c_];omega
  rw [az hk,c_,c_];omega
def iJ.some_of {v:V}{o:z0j}(r:iJ (some v) o):∃u,o=some u/\RelV v u:=by
 cases o with
 | none=>exact(show False from r).elim
 | some u=>exact⟨u,rfl,r⟩
def iJ.none_of {o:z0j}(r:iJ none o):o=none:=by
 cases o with
 | none=>rfl
 | some u=>exact(show False from r).elim
def vb {v:V}{u:Value}(r:RelV v u):PySem.W.handedIn u=true:=by
 cases v with
 | dq=>cases (show u=Value.none from r);rfl
 | bl b=>cases (show u=Value.bool b from r);rfl
 | int i=>obtain⟨t,e⟩:=(show ∃t,u=Value.int i t from r);cases e;rfl
 | str x=>obtain⟨t,e⟩:=(show ∃t,u=Value.str x t from r);cases e;rfl
 | BG b=>obtain⟨t,e⟩:=(show ∃t,u=Value.bytes b t from r);cases e;rfl
 | NV b=>obtain⟨t,e⟩:=(show ∃t,u=Value.float b t from r);cases e;rfl
 | ref a=>cases (show u=Value.ref a from r);rfl
 | ty n=>cases (show u=Value.type n from r);rfl
section
variable {P:Program}{w:World}{H H':Hp}{h h':Heap}{a C dx:Addr}{fs LA:List (Str×V)}
def xb (bw:lM P w H h)(e:H a=some (.ins C dx fs)):∃mA,BK h a dx C mA/\(∀f,iJ (fs.lookup f) (mA f))/\PySem.Within mA (fs.map 56)/\fs.length<=1000/\H dx=some (.own a):=by
 obtain⟨d,z,ne,ob,mA,n,r,q⟩:=(show b8 P w H h a (.ins C dx fs) from bw a _ e);exact⟨mA,⟨ob,n,ne⟩,r,q,z,d⟩
end
structure C4 (K:aV)(C:Addr):Prop where
 pg:PySem.W.plainGet K C Str.empty=true
 hd:PySem.W.hasDictIn K C=true
 po:PySem.W.plainOver K C=true
 sa:PySem.W.findIn K (.ref C) "__setattr__"=some (some (.builtin "object.__setattr__"))
def C4.get {K:aV}(c:C4 K C)(f:Str):PySem.W.plainGet K C f=true:=c.pg
def de (K:aV)(C:Addr)(f:Str):Prop:=PySem.W.findIn K (.ref C) f=some none
def de.O9 {K:aV}{f:Str}(n:de K C f):PySem.W.takerIn K C f=some none:=by
 unfold PySem.W.takerIn;rw [show PySem.W.findIn K (.ref C) f=some none from n];rfl
structure Meth (K:aV)(C:Addr)(m:Str)(f:Addr):Prop where
 at_:PySem.W.findIn K (.ref C) m=some (some (.ref f))
 fn:PySem.W.isFn K (.ref f)=true
 kp:PySem.W.keepIn K (.ref f)=true
section
variable {X:Cx}{ai:z0e}{σ:St}{H:Hp}{s:Shared}{a C dx:Addr}{fs:List (Str×V)}{f:Str}{v:V}{A:Around}{E:z0b}
def Bl {b:Bool}(I:121)(e:H a=some (.ins C dx fs))(c:C4 X.K C)(n:de X.K C f)(l:fs.lookup f=some v)
  (h:∀u s',Inv X ai σ H s'->RelV v u->Q u s'):wpAny 146 A (getAttr (.ref a) f b) Q E s:=by
 obtain⟨mA,O,r,_,_,_⟩:=xb I.bw e;obtain⟨u,hu,ru⟩:=iJ.some_of (v:=v) (o:=mA f) (by rw [<-l];exact r f);exact get_map I.kx O (c.get f) c.hd n hu (vb ru) (h u _ (I.tok _) ru)
def mK {g:Addr}{Q:Value×z0m->Shared->Prop}(I:121)(e:H a=some (.ins C dx fs))(c:C4 X.K C)(k:Meth X.K C m g)(l:fs.lookup m=none)
  (h:Q (.ref g,[.ref a]) s):wpAny 146 A (getMethod (.ref a) m pl) Q E s:=by
 obtain⟨mA,O,r,_,_,_⟩:=xb I.bw e;have hn:mA m=none:=iJ.none_of (by rw [<-l];exact r m);exact Hn I.kx O (c.get m) k.at_ k.fn hn h
def Ai {y:V}{u:Value}{Q:Unit->Shared->Prop}(I:121)(e:H a=some (.ins C dx fs))(c:C4 X.K C)(n:de X.K C f)(hl:fs.length < 1000)(ry:RelV y u)
  (h:∀s',Inv X ai σ (upd H a (.ins C dx (dN f y fs))) s'->Q () s'):wpAny 146 A (setAttr (.ref a) f u) Q E s:=by
 obtain⟨mA,O,r,wi,_,ho⟩:=xb I.bw e;have hz:(fs.map 56).length<=sizeLine:=by rw [aC,iA];omega
 refine IX I.kx O c.sa c.po n.O9 c.hd wi hz λh' O' sb=>h _ ?_;have hd:∃o,h'.get? dx=111:=let ⟨o,_,_,e',_⟩:=O'.ns;⟨o,e'⟩;refine I.write (x:=a) (e:=dx) (by rw [e];exact True.intro) (.inr ho) (λb q hb z=>(sb.2 b hb).trans z) hd ?_;refine⟨by rw [aj O.ne];exact ho,?_,O.ne,O'.obj,_,O'.ns,λg=>?_,λg hg=>?_⟩
 .have:=ql f y fs;omega
 .show iJ ((dN f y fs).lookup g) (if g=f then some u else mA g);rw [qk];by_cases q:g=f
  .rw [aA q,aA q];exact ry
  rw [az q,az q];exact r g
 by_cases q:g=f
 .rw [q];exact(pC f y fs).1
 refine(pC f y fs).2 g (wi g λz=>hg ?_);show (if g=f then some u else mA g)=none;rw [az q];exact z
def Inv.made (I:121):Inv X ai σ (upd (upd H s.heap.objs.size (.own 190)) 190 (.ins C s.heap.objs.size []))
  { s with heap:=(s.heap.push PySem.W.emptyDict).push (PySem.W.instObj C s.heap.objs.size) }:=by
 have e1:(s.heap.push PySem.W.emptyDict).get? s.heap.objs.size=some PySem.W.emptyDict:=cu s.heap rfl;have e2:((s.heap.push PySem.W.emptyDict).push (PySem.W.instObj C s.heap.objs.size)).get? 190=some (PySem.W.instObj C s.heap.objs.size):=by
  have:=cu (s.heap.push PySem.W.emptyDict) (o:=PySem.W.instObj C s.heap.objs.size) rfl;rwa [i5] at this
 have e3:(s.heap.push PySem.W.emptyDict).Ns s.heap.objs.size (λ_=>none):=⟨PySem.W.emptyDict,#[],_,e1,rfl,(λe he=>absurd he 125),λ_=>rfl⟩;have I1:=I.laid (a:=s.heap.objs.size) (o:=.own 190) (h':=s.heap.push PySem.W.emptyDict) (t':=s.toks) (λb u q=>a_ _ q) (aG _) ⟨_,e1⟩;refine I1.laid (a:=179) (o:=.ins C s.heap.objs.size []) (t':=s.toks) (λb u q=>a_ _ q) (Nat.le_of_eq (i5 _ _)) ?_;have ne:s.heap.objs.size≠179:=bp (jL _);refine⟨by rw [aj ne,ae],d6 _,ne,e2,λ_=>none,(Heap.Ns1.of_empty e3).at λo q=>a_ _ q,λ_=>True.intro,λy hy=>absurd rfl hy⟩
def CU {w:World}{e:Expr}{f:Str}(hb:attributeBase e f env (eval e env)=eval e env)
  (h:wpAny 147 A (eval e env) (λo s₁=>wpAny 147 A (getAttr o f true) Q E s₁) E s):wpAny 147 A (eval (.Attribute e f pos) env) Q E s :=
 Attribute_any_ h (by rw [arm_eval_Attribute,hb])
end
inductive RN (K:aV)(H:Hp)(f:Str)(x:V)(R:V->Prop):Prop
|mk(a C dx:Addr)(fs:List (Str×V))(v:V)(e:x=.ref a)(h:H a=some (.ins C dx fs))(c:C4 K C)(n:de K C f)(l:fs.lookup f=some v)(q:R v)
inductive XSf (K:aV)(H:Hp)(f:Str)(x:V)(R:Addr->Addr->Addr->List (Str×V)->Prop):Prop
|mk(a C dx:Addr)(fs:List (Str×V))(e:x=.ref a)(h:H a=some (.ins C dx fs))(c:C4 K C)(n:de K C f)(l:fs.length < 1000)(q:R a C dx fs)
def T_ (K:aV)(ta:TE)(f:Str):TE:=λσ H Q=>ta σ H λx H1=>RN K H1 f x λv=>Q v H1
def Uh (K:aV)(ta tv:TE)(f:Str):TS:=λD σ H=>tv σ H λy H1=>ta σ H1 λx H2=>XSf K H2 f x λa C dx fs=>D.nx σ (upd H2 a (.ins C dx (dN f y fs)))
section
variable {X:Cx}{o e value:Expr}{f:Str}{pos pos' wc:Pos}{ta tv:TE}
def eD (he:PE X e ta)(hb:attributeBase e f X.env (eval e X.env)=eval e X.env):PE X (.Attribute e f pos) (T_ X.K ta f):=by
 intro ai s σ H Q I h;refine CU hb (cE (he ai s σ H _ I h) λu s1 aW=>?_);obtain⟨x,H1,I1,rx,a,C,dx,fs,v,ex,ea,c,n,l,q⟩:=aW;subst ex;obtain rfl:u=Value.ref a:=rx;exact Bl I1 ea c n l λu' s2 I2 ru=>⟨v,H1,I2,ru,q⟩
def gi (ha:PE X o ta)(hv:PE X value tv)(hs:swapsWith value (some (.Attribute o f pos')) pos.line X.env=pure false):PS X (.Assign [.Attribute o f pos'] value pos) (Uh X.K ta tv f):=by
 intro ai s σ H D I h;refine plainObj_wpAny_Assign_Attribute (cE (hv ai s σ H _ I h) λu s1 aW=>?_) hs;obtain⟨y,H1,I1,ry,q⟩:=aW;refine cE (ha ai s1 σ H1 _ I1 q) λov s2 aW=>?_;obtain⟨x,H2,I2,rx,a,C,dx,fs,ex,ea,c,n,l,q2⟩:=aW;subst ex;obtain rfl:ov=Value.ref a:=rx;exact Ai I2 ea c n l ry λs3 I3=>⟨σ,_,I3,q2⟩
def Lb {apos:Pos}{σ:St}(he:PE X e te)(I:121)
  (h:te σ H λx H1=>∃a C dx fs g,x=.ref a/\H1 a=some (.ins C dx fs)/\C4 X.K C/\Meth X.K C m g/\fs.lookup m=none /\
   ∀s1,Inv X ai σ H1 s1->wpAny 146 X.A (callWith pos (.ref g) [.ref a] (backTo pos (starEach args X.env)) (backToKw pos (keywordEach [] X.env))) Q X.xe s1)
  (ht:eval (.Call (.Attribute e m apos) args [] pos) X.env=(do
   let ov <-eval e X.env
   standAt apos.atName
   let (f,first) <-holding [ov] (getMethod ov m pl)
   callWith pos f first (backTo pos (starEach args X.env)) (backToKw pos (keywordEach [] X.env)))) :
  wpAny 146 X.A (eval (.Call (.Attribute e m apos) args [] pos) X.env) Q X.xe s:=by
 refine PySem.W.methodCall_KW (pl:=pl) (cE (he ai s σ H _ I h) λu s1 aW=>?_) ht;obtain⟨x,H1,I1,rx,a,C,dx,fs,g,ex,ea,c,k,l,q⟩:=aW;subst ex;obtain rfl:u=Value.ref a:=rx;exact mK I1 ea c k l (q s1 I1)
end
section
variable {X:Cx}{ai:z0e}{σ:St}{H:Hp}{s:Shared}{A:Around}{E:z0b}{Q:z0b}{c:Value}{b:Bool}
inductive tT (K:aV)(H:Hp):V->Value->Prop where
 | dq:tT K H .dq (.type "NoneType")
 | bl (x:Bool):tT K H (.bl x) (.type "bool")
 | int (i:Int):tT K H (.int i) (.type "int")
 | str (x:Str):tT K H (.str x) (.type "str")
 | NV (x:UInt64):tT K H (.NV x) (.type "float")
 | lst {a:Addr}{xs:115}(e:H a=some (.lst xs)):tT K H (.ref a) (.type "list")
 | kT {a:Addr}{o:Obj}{xs:115}(e:H a=some (.kT o (.lst xs))):tT K H (.ref a) (.type "list")
 | tup {a:Addr}{xs:115}(e:H a=some (.tup xs)):tT K H (.ref a) (185)
 | dK {a:Addr}{kvs:140}(e:H a=184):tT K H (.ref a) (.type "dict")
 | dT {a:Addr}{kvs:List (List aR×V)}(e:H a=some (.dT kvs)):tT K H (.ref a) (.type "dict")
 | ins {a C dx:Addr}{fs:List (Str×V)}(e:H a=some (.ins C dx fs))(cl:C4 K C)(ha:PySem.W.findIn K (.ref C) "__class__"=some (some (.builtin "object.__class__")))
   (hn:PySem.W.specialIn K (.builtin "object.__class__") "__get__"=some (some (.builtin "getset_descriptor.__get__")))(htk:PySem.W.takesIn K (.builtin "object.__class__")=some true)
   (hm:PySem.W.mroIn K C (.type "object")=some true):tT K H (.ref a) (.ref C)
end
structure dG (k:Nat)(A:Around):Prop where
 hd:A.handled=none
 dp:A.depth+3 * k+5 < recursionLimit
 un:A.units+16 * k+200 < cLine
 gd:A.guards=some []
def dG.mono {j k:Nat}(r:dG k A)(h:j<=k):dG j A:=⟨r.hd,by have:=r.dp;omega,by have:=r.un;omega,r.gd⟩
theorem dG.deeper {k:Nat}{A:Around}(r:dG (k+1) A)(env:Env):dG k (A.deeper env) :=
 ⟨r.hd,by have:=r.dp;show A.depth+1+3 * k+5 < _;omega,by have:=r.un;show A.units+3+16 * k+200 < _;omega,r.gd⟩
def A4 {A:Around}:(A.under (.builtin "type.__call__" ⟨.ref C::us,kw⟩)).depth=A.depth+1:=by
 first | rfl | simp [Around.under,Code.weight,Code.isCreation,Code.isGuard,Code.isCaller,Code.frames,Code.isFrame,guardIds]
def A3 {A:Around}:(A.under (.builtin "type.__call__" ⟨.ref C::us,kw⟩)).units=A.units+1:=by
 first | rfl | simp [Around.under,Code.cUnits,Code.frames,Code.isFrame]
def yG {A:Around}:(A.under (.builtin "type.__call__" ⟨.ref C::us,kw⟩)).guards=A.guards:=by
 first | rfl | simp [Around.under,Code.guards,Code.isGuard,guardIds,pushGuards]
def dG.make {k:Nat}{A:Around}(r:dG (k+1) A)(C:Addr)(us:z0m)(kw:z0d):dG k (A.under (.builtin "type.__call__" ⟨.ref C::us,kw⟩)) :=
 ⟨r.hd,by have:=r.dp;rw [A4];omega,by have:=r.un;rw [A3];omega,by rw [yG];exact r.gd⟩
theorem dG.depth {k:Nat}{A:Around}(r:dG k A):A.depth < recursionLimit:=by have:=r.dp;omega
theorem dG.units {k:Nat}{A:Around}(r:dG k A):A.units+64 < cLine:=by have:=r.un;omega
def qw:TA:=λ_ H Q=>Q [] H
def fZ (ta:TE)(tr:TA):TA:=λσ H Q=>ta σ H λx H1=>tr σ H1 λxs H2=>Q (x::xs) H2
section
variable {X:Cx}{e:Expr}{es:z0p}{te:TE}{t:TA}{pos:Pos}
def ak:PA X [] qw:=λ_ _ _ _ H Q I h=>rh ⟨[],H,I,.nil,h⟩
def af (ha:PE X e te)(hr:PA X es t)(hs:292:=by rfl):PA X (e::es) (fZ te t):=by
 intro pos ai s σ H Q I h;rw [hs];show wpAny _ _ (spliced ((false,eval e X.env)::backTo pos (starEach es X.env))) _ _ s;refine pV (cE (ha ai s σ H _ I h) λu s1 aW=>?_);obtain⟨x,H1,I1,r1,q1⟩:=aW;refine cE (hr pos ai s1 σ H1 _ I1 q1) λus s2 aW=>?_;obtain⟨xs,H2,I2,r2,q2⟩:=aW;exact⟨x::xs,H2,I2,.cons r1 r2,q2⟩
def ug (t:TA):TE:=λσ H Q=>t σ H λxs H1=>xs.length<=sizeLine/\∀p,H1 p=none->Q (.ref p) (upd H1 p (.tup xs))
def Ph (t:TA):TE:=λσ H Q=>t σ H λxs H1=>xs.length<=sizeLine/\∀p,H1 p=none->Q (.ref p) (upd H1 p (.lst xs))
def bJ {x1}(h:PA X es t):PE X (.Tuple es x1 pos) (ug t):=by
 intro ai s σ H Q I hq;refine wpAny_Tuple_spliced (cE (h pos ai s σ H _ I hq) λus s1 aW=>?_);obtain⟨xs,H1,I1,r,z,q⟩:=aW;refine⟨by rw [<-r.length];exact z,?_⟩;have hf:H1 s1.heap.objs.size=none:=I1.bw.fresh (aG _);refine⟨.ref s1.heap.objs.size,upd H1 s1.heap.objs.size (.tup xs),I1.laid (t':=s1.toks) (λb u e=>a_ _ e) (aG _) ?_,rfl,q _ hf⟩;exact⟨z,us,r,⟨_,cu _ rfl,rfl,_,rfl⟩⟩
def bu (h:PA X es t):PE X (.List es pos) (Ph t):=by
 intro ai s σ H Q I hq;refine wpAny_List_spliced (cE (h pos ai s σ H _ I hq) λus s1 aW=>?_);obtain⟨xs,H1,I1,r,z,q⟩:=aW;refine⟨by rw [<-r.length];exact z,?_⟩;have hf:H1 s1.heap.objs.size=none:=I1.bw.fresh (aG _);refine⟨.ref s1.heap.objs.size,upd H1 s1.heap.objs.size (.lst xs),I1.laid (t':=s1.toks) (λb u e=>a_ _ e) (aG _) ?_,rfl,q _ hf⟩;exact⟨z,us,0,r,cu _ rfl⟩
end
abbrev Sp:=115->Hp->VK->XK->Prop
abbrev EY:=List Env->Hp->Shared->XK->Value->Shared->Prop
structure zA (P:Program)(w:World)(K:aV)(mg:z0c)(base:Heap)(A:Around)(outer:List Env)(s:Shared)(H:Hp):Prop where
 frames:A.frames=some outer
 mod:Mod K mg base
 bs:∀b o,base.get? b=111->178/\H b=none
 ES:base.objs.size<=s.heap.objs.size
 mM:s.heap.FunFrames base outer
 IA:∀b∈qG outer,H b=none
 bw:lM P w H s.heap
 bare:AllBare s.gens
def CE (outer:List Env)(P:Program)(w:World)(H:Hp)(s:Shared)(Q:VK)(u:Value)(s':Shared):Prop :=
 ∃v H',s'.os=s.os/\AllBare s'.gens/\Un (qG outer) [] H H' s.heap s'.heap/\lM P w H' s'.heap/\RelV v u/\Q v H'
def CR (CX:EY)(outer:List Env)(P:Program)(w:World)(H:Hp)(s:Shared)(Q:VK)(E:XK)(r:Result)(s':Shared):Prop :=
 match r with
 | .ok (.ret u)=>CE outer P w H s Q u s'
 | .ok _=>False
 | .error e=>CX outer H s E e s'
structure bF (P:Program)(w:World)(K:aV)(mg:z0c)(base:Heap)(CX:EY) (k:Nat)(f:Addr)(fd:FuncData) (ps:z0r)(sp:Sp):Prop where
 len:∀vs H Q E,sp vs H Q E->vs.length=ps.length
 run:∀(A:Around)(outer:List Env)(s:Shared)(H:Hp)(args:Args)(us:z0m)(vs:115)(Q:VK)(E:XK),dG k A->zA P w K mg base A outer s H->BindsTo s fd args (ps.zip us)->aY vs us->sp vs H Q E ->
  codeAny (model P w) A (.call (.ref f) args) (CR CX outer P w H s Q E) s
theorem bF.mono {w:World}{K:aV}{j k:Nat}{f:Addr}{sp:Sp}(F:bF P w K mg base CX j f fd ps sp)(h:j<=k) :
  bF P w K mg base CX k f fd ps sp:=⟨F.len,λA outer s H args us vs Q E hr=>F.run A outer s H args us vs Q E (hr.mono h)⟩
def zA.make {w:World}{K:aV}{A:Around}(e:zA P w K mg base A outer s H)(C:Addr)(us:z0m)(kw:z0d) :
  zA P w K mg base (A.under (.builtin "type.__call__" ⟨.ref C::us,kw⟩)) outer s H:=⟨by first | exact e.frames | (simpa [Around.under,Code.envs,Code.isFrame,pushEnvs] using e.frames),e.mod,e.bs,e.ES,e.mM,e.IA,e.bw,e.bare⟩
section
variable {X:Cx}{ai:z0e}{σ:St}{H:Hp}{s s':Shared}
def Inv.Ea (I:121):zA X.prog X.w X.K X.mg X.base X.A X.stack s H :=
 ⟨I.ok.frames,I.ok.mod,I.bs,cI I.ok.ES I.sz,I.stack,I.qK,I.bw,I.bare⟩
def Inv.after {Q:VK}{u:Value}(I:121)(h:CE X.stack X.prog X.w H s Q u s'):EP X ai σ Q u s':=by
 obtain⟨v,H',os,bare,un,bw,r,q⟩:=h;obtain⟨hh,g,d,t,os'⟩:=s';obtain rfl:os'=s.os:=os;exact⟨v,H',I.call (h':=hh) (g':=g) (d':=d) (t':=t) (ch:=[]) un bw bare (λb z=>absurd z 125),r,q⟩
end
def Fd (sp:Sp)(dvs:115)(E:XK)(t:TA):TE:=λσ H Q=>t σ H λvs H1=>sp (vs++dvs) H1 Q E
def KR (C:Addr)(m:Str)(sp:Sp)(dvs:115)(E:XK)(ta:TE)(t:TA):TE:=λσ H Q=>ta σ H λx H1=>∃a dx fs,x=.ref a/\H1 a=some (.ins C dx fs)/\fs.lookup m=none /\
 t σ H1 λvs H2=>sp (x::(vs++dvs)) H2 Q E
def Pg (C:Addr)(sp:Sp)(dvs:115)(E:XK)(t:TA):TE:=λσ H Q=>t σ H λvs H1=>∀x dx,H1 x=none->H1 dx=none->dx≠x ->
 sp (.ref x::(vs++dvs)) (upd (upd H1 dx (.own x)) x (.ins C dx [])) (λv H2=>v=.dq/\Q (.ref x) H2) E
def Binds (K:aV)(fd:FuncData) (ps:z0r)(ds:z0m):Prop :=
 ∀(s:Shared)(us:z0m),K.In s.heap->(us++ds).length=ps.length->BindsTo s fd ⟨us,[]⟩ (ps.zip (us++ds))
def Binds.all {K:aV}{ps:z0r}(h:∀us:z0m,us.length=ps.length->bindArgs fd ⟨us,[]⟩=pure (ps.zip us)):Binds K fd ps []:=λs us _ hl=>by
 rw [eE] at hl ⊢;exact .of_eq (h us hl)
def Passes (CX:EY)(X:Cx)(E:XK):Prop:=∀(ai:z0e)(σ:St)(H:Hp)(s:Shared)(e:Value)(s':Shared),121->CX X.stack H s E e s'->X.xe e s'
section
variable {X:Cx}{CX:EY}{k:Nat}{f C:Addr}{fd:FuncData}{ps:z0r}{sp:Sp}{dvs:115}{ds:z0m}{E:XK}{x m:Str}{p pos apos:Pos}{e o:Expr}{es:z0p}{ta:TE}{t:TA}
def AD {σ:St}{Q:VK}(F:bF X.prog X.w X.K X.mg X.base CX k f fd ps sp)(hr:dG k X.A)(hb:Binds X.K fd ps ds)(hd:aY dvs ds)(hx:Passes CX X E)
  (I:121)(r:aY vs us)(h:sp (vs++dvs) H Q E):wpAny 146 X.A (call (.ref f) us) (EP X ai σ Q) X.xe s:=by
 have r2:aY (vs++dvs) (us++ds):=r.append hd;have hl:(us++ds).length=ps.length:=by rw [<-r2.length];exact F.len _ _ _ _ h
 refine fC (iY (F.run X.A X.stack s H ⟨us,[]⟩ (us++ds) (vs++dvs) Q E hr I.Ea (hb s us I.kx hl) r2 h) λr s' hq=>?_);cases r with
 | error e=>exact hx ai σ H s e s' I hq
 | ok fl =>
  cases fl with
  | ret u=>exact I.after hq
  | next=>exact False.elim hq
  | brk=>exact False.elim hq
  | cont=>exact False.elim hq
def Cy (F:bF X.prog X.w X.K X.mg X.base CX k f fd ps sp)(hr:dG k X.A)(hg:Gl X x)(hm:X.mg x=some (.ref f))(hk:PySem.W.keepIn X.K (.ref f)=true)(hb:Binds X.K fd ps ds)(hd:aY dvs ds)(hx:Passes CX X E)
  (ha:PA X (e::es) t)(qC:267:=by decide)(he:292:=by rfl)(mE:(backTo pos (starEach es X.env)).any 56=false:=by rfl) :
  PE X (.Call (.Name x p) (e::es) [] pos) (Fd sp dvs E t):=by
 intro ai s σ H Q I h;refine jM (iU I hg hm ?_ qC);refine rm (h₀:=X.base) I.ok.mod.Li hk 270 he mE;obtain⟨vs,H1,I1,r,q⟩:=aW;refine⟨I1.kx,?_⟩;exact AD F hr hb hd hx I1 r q
def Cw (he:PE X o ta)(c:C4 X.K C)(hm:Meth X.K C m f)(F:bF X.prog X.w X.K X.mg X.base CX k f fd ps sp)(hr:dG k X.A)(hb:Binds X.K fd ps ds)(hd:aY dvs ds)(hx:Passes CX X E)(ha:PA X (e::es) t)
  (lI:292:=by rfl)(mE:(backTo pos (starEach es X.env)).any 56=false:=by rfl)
  (ht:eval (.Call (.Attribute o m apos) (e::es) [] pos) X.env=(do
   let ov <-eval o X.env
   standAt apos.atName
   let (f,first) <-holding [ov] (getMethod ov m pl)
   callWith pos f first (backTo pos (starEach (e::es) X.env)) (backToKw pos (keywordEach [] X.env))):=by rfl) :
  PE X (.Call (.Attribute o m apos) (e::es) [] pos) (KR C m sp dvs E ta t):=by
 intro ai s σ H Q I h;refine PySem.W.methodCall_KW (pl:=pl) (cE (he ai s σ H _ I h) λu s1 aW=>?_) ht;obtain⟨x,H1,I1,rx,a,dx,fs,ex,ea,l,q⟩:=aW;subst ex;obtain rfl:u=Value.ref a:=rx;refine mK I1 ea c hm l ?_;refine rm (first:=[.ref a]) (h₀:=X.base) I.ok.mod.Li hm.kp (cE (ha pos ai s1 σ H1 _ I1 q) λus s2 aW=>?_) lI mE;obtain⟨vs,H2,I2,r,q2⟩:=aW;refine⟨I2.kx,?_⟩;exact AD (us:=.ref a::us) (vs:=.ref a::vs) F hr hb hd hx I2 (.cons rfl r) q2
def ym {pl:Sem Bool}(he:PE X o ta)(c:C4 X.K C)(hm:Meth X.K C m f)(F:bF X.prog X.w X.K X.mg X.base CX k f fd ps sp)(hr:dG k X.A)(hb:Binds X.K fd ps ds)(hd:aY dvs ds)(hx:Passes CX X E)
  (ht:eval (.Call (.Attribute o m apos) [] [] pos) X.env=(do
   let ov <-eval o X.env
   standAt apos.atName
   let (f,first) <-holding [ov] (getMethod ov m pl)
   callWith pos f first (backTo pos (starEach [] X.env)) (backToKw pos (keywordEach [] X.env))):=by rfl) :
  PE X (.Call (.Attribute o m apos) [] [] pos) (KR C m sp dvs E ta qw):=by
 intro ai s σ H Q I h;refine PySem.W.methodCall_KW (pl:=pl) (cE (he ai s σ H _ I h) λu s1 aW=>?_) ht;obtain⟨x,H1,I1,rx,a,dx,fs,ex,ea,l,q⟩:=aW;subst ex;obtain rfl:u=Value.ref a:=rx;refine mK I1 ea c hm l ?_;exact PySem.W.callWith_K0 (first:=[.ref a]) I1.kx hm.kp (AD (us:=[.ref a]) (vs:=[.ref a]) F hr hb hd hx I1 (.cons rfl .nil) q)
structure Mk (K:aV)(C f:Addr):Prop where
 makes:PySem.W.makesIn K C=true
 init:PySem.W.findIn K (.ref C) "__init__"=some (some (.ref f))
 fn:PySem.W.isFn K (.ref f)=true
 kp:PySem.W.keepIn K (.ref C)=true
def FN {σ:St}{Q:VK}(M:Mk X.K C f)(F:bF X.prog X.w X.K X.mg X.base CX k f fd ps sp)(hr:dG (k+1) X.A)(hb:Binds X.K fd ps ds)(hd:aY dvs ds)
  (hx:Passes CX X E)(I:121)(r:aY vs us)
  (h:∀x dx,H x=none->H dx=none->dx≠x->sp (.ref x::(vs++dvs)) (upd (upd H dx (.own x)) x (.ins C dx [])) (λv H2=>v=.dq/\Q (.ref x) H2) E) :
  wpAny 146 X.A (call (.ref C) us) (EP X ai σ Q) X.xe s:=by
 have hq:=h 190 s.heap.objs.size (I.bw.fresh (hJ _)) (I.bw.fresh (aG _)) (bp (jL _));have I2:=Inv.made (C:=C) I;have r2:aY (V.ref 190::(vs++dvs)) (Value.ref 190::(us++ds)):=.cons rfl (r.append hd);have hl:(Value.ref 190::us++ds).length=ps.length:=by
  have e:=r2.length;rw [F.len _ _ _ _ hq] at e;exact e.symm
 refine fC (yF (f:=f) I.kx M.makes M.init (beq_iff_eq.mp M.fn) (iY (F.run _ X.stack _ _ ⟨Value.ref 190::us,[]⟩ (Value.ref 190::(us++ds)) _ _ E (hr.make C us [])
  (I2.Ea.make C us []) (hb _ (Value.ref 190::us) I2.kx hl) r2 hq) λr s' G9=>?_))
 cases r with
 | error e=>exact hx ai σ _ _ e s' I2 G9
 | ok fl =>
  cases fl with
  | ret u =>
   obtain⟨v,H',I3,rv,ev,q3⟩:=I2.after G9;subst ev;exact⟨rv,⟨V.ref 190,H',I3,rfl,q3⟩⟩
  | next=>exact False.elim G9
  | brk=>exact False.elim G9
  | cont=>exact False.elim G9
def wN (M:Mk X.K C f)(F:bF X.prog X.w X.K X.mg X.base CX k f fd ps sp)(hr:dG (k+1) X.A)(hg:Gl X x)(hm:X.mg x=some (.ref C))(hb:Binds X.K fd ps ds)(hd:aY dvs ds)(hx:Passes CX X E)
  (ha:PA X (e::es) t)(qC:267:=by decide)(he:292:=by rfl)(mE:(backTo pos (starEach es X.env)).any 56=false:=by rfl) :
  PE X (.Call (.Name x p) (e::es) [] pos) (Pg C sp dvs E t):=by
 intro ai s σ H Q I h;refine jM (iU I hg hm ?_ qC);refine rm (h₀:=X.base) I.ok.mod.Li M.kp 270 he mE;obtain⟨vs,H1,I1,r,q⟩:=aW;refine⟨I1.kx,?_⟩;exact FN M F hr hb hd hx I1 r q
end
section
variable {X:Cx}{CX:EY}{k:Nat}{f C:Addr}{fd:FuncData}{ps ks:z0r}{sp:Sp}{E:XK}{x m:Str}{p pos apos aaf:Pos}{e o:Expr}{es:z0p}{kws:List Keyword}{te ta:TE}{t tk:TA}{nm:Option Str}
variable {g:z0m->z0m->z0m}{gV:115->115->115}
end
structure aJ (N P:z0r)(sc:Scope):Prop where
 kind:sc.kind=.function
 co:sc.isCoroutine=false
 gen:sc.isGenerator=false
 nd:N.Nodup
 pre:N.take P.length=P
 par:∀x∈P,sc.names.lookup x=some .local\/sc.names.lookup x=some .cell
 M6:∀y∈sc.names,y.2≠.free
def i3 {N P:z0r}{sc:Scope}(a:sc.kind=.function)(b:sc.isCoroutine=false)(c:sc.isGenerator=false)(d:N.take P.length=P)(e:N.Nodup/\(∀x∈P,sc.names.lookup x=some .local\/sc.names.lookup x=some .cell)/\∀y∈sc.names,y.2≠.free):aJ N P sc:=⟨a,b,c,e.1,d,e.2.1,e.2.2⟩
theorem vp {kindOf:Str->Option NameKind}{x:Str}:∀{binds:z0d}{m:z0c},(∀v,(x,v)∉binds)->bindL kindOf binds m x=m x
 | [],_,_=>rfl
 | (n,v)::r,m,h=>by
  unfold bindL;rw [vp λw hw=>h w (cw _ hw)]
  split
  .have:x≠n:=by rintro rfl;exact h v cx
   simp [this]
  rfl
theorem vv {kindOf:Str->Option NameKind}{x:Str}:∀{binds:z0d}{m:z0c},(∀v,(x,v)∉binds)->bindC kindOf binds m x=m x
 | [],_,_=>rfl
 | (n,v)::r,m,h=>by
  unfold bindC;rw [vv λw hw=>h w (cw _ hw)]
  split
  .rfl
  have:x≠n:=by rintro rfl;exact h v cx
  simp [this]
theorem vq {kindOf:Str->Option NameKind}{x:Str}{v:Value}:∀{P:z0r}{vs:z0m}{i:Nat}{m:z0c},P.Nodup->P[i]?=some x->vs[i]?=some v->kindOf x=some .local ->
  bindL kindOf (P.zip vs) m x=some v
 | [],_,_,_,_,h,_,_=>by simp at h
 | _::_,[],_,_,_,_,h,_=>by simp at h
 | p::P,w::vs,0,m,nd,h1,h2,hk=>by
  simp at h1 h2;subst h1;subst h2;show bindL kindOf ((p,w)::P.zip vs) m p=_;unfold bindL;rw [vp λv hv=>(iO.mp nd).1 (List.of_mem_zip hv).1,aA hk];simp
 | p::P,w::vs,i+1,m,nd,h1,h2,hk=>by
  show bindL kindOf ((p,w)::P.zip vs) m x=_;unfold bindL;exact vq (i:=i) (iO.mp nd).2 (by simpa using h1) (by simpa using h2) hk
theorem vw {kindOf:Str->Option NameKind}{x:Str}{v:Value}:∀{P:z0r}{vs:z0m}{i:Nat}{m:z0c},P.Nodup->P[i]?=some x->vs[i]?=some v->kindOf x≠some .local ->
  bindC kindOf (P.zip vs) m x=some v
 | [],_,_,_,_,h,_,_=>by simp at h
 | _::_,[],_,_,_,_,h,_=>by simp at h
 | p::P,w::vs,0,m,nd,h1,h2,hk=>by
  simp at h1 h2;subst h1;subst h2;show bindC kindOf ((p,w)::P.zip vs) m p=_;unfold bindC;rw [vv λv hv=>(iO.mp nd).1 (List.of_mem_zip hv).1,az hk];simp
 | p::P,w::vs,i+1,m,nd,h1,h2,hk=>by
  show bindC kindOf ((p,w)::P.zip vs) m x=_;unfold bindC;exact vw (i:=i) (iO.mp nd).2 (by simpa using h1) (by simpa using h2) hk
def start (N:z0r)(vs:115):St:=vs.map some++List.replicate (N.length - vs.length) none
def eY (CX:EY)(P:Program)(w:World)(K:aV)(mg:z0c)(base:Heap) (N:z0r)(qual:Str)(scope:Scope)(f:Addr)(cd:Value)(A:Around)(outer:List Env)(s:Shared)(H:Hp)(E:XK):Cx where
 prog:=P
 w:=w
 K:=K
 mg:=mg
 base:=base
 A:=A.deeper (envOfC qual scope s.heap.objs.size f cd)
 N:=N
 s₀:=s
 H₀:=H
 env:=envOfC qual scope s.heap.objs.size f cd
 outer:=outer
 stack:=envOfC qual scope s.heap.objs.size f cd::outer
 ex:=[]
 calm:=true
 fn:=λ_=>true
 pn:=[]
 xe:=λe s'=>wpAny (model P w) (A.deeper (envOfC qual scope s.heap.objs.size f cd)) (leaving (envOfC qual scope s.heap.objs.size f cd) e) (λ_ FK=>CX outer H s E e FK) (λe' FK=>CX outer H s E e' FK) s'
def zk {sc:Scope}{n:Nat}{x:Str}(h:sc.names.lookup x=some .cell):∃c,(cellsFrom n sc.names []).lookup x=some c:=by
 have q:=PySem.W.cellsFrom_some sc.names n [] (.inl h);exact i9.mp q
def u9 {w:World}{K:aV}{N ps:z0r}{scope:Scope}{f:Addr}{cd:Value}{A:Around}{s s1:Shared}{E:XK}{vs:115}
  (S:aJ N ps scope)(hd:A.handled=none)(e0:zA P w K mg base A outer s H)(hl:vs.length=ps.length)(r:aY vs us)
  (x:InCallC s s.heap.objs.size (bindL (envOfC qual scope s.heap.objs.size f cd).kindOf (ps.zip us) λ_=>none) (cellsFrom 190 scope.names []) (bindC (envOfC qual scope s.heap.objs.size f cd).kindOf (ps.zip us) λ_=>none) s1) :
  Inv (eY CX P w K mg base N qual scope f cd A outer s H E) [] (start N vs) H s1:=by
 have mE:ps.length<=N.length:=by have:=congrArg List.length S.pre;rw [d7] at this;omega
 obtain⟨h1,tk,rfl,hk⟩:=x.done;have UU:∀b:Addr,b∉(eY CX P w K mg base N qual scope f cd A outer s H E).ex:=λb z=>absurd (show b∈([]:z0o) from z) 125;refine⟨⟨e0.mod,S.kind,rfl,rfl,aG _,λy z c h1 h2=>?_,λy hy=>?_,λy c _ h=>?_,λ_=>hd,Around.frames_deeper e0.frames,.inr ⟨rfl,rfl⟩,λb z=>absurd z (UU b),e0.bs,e0.ES,λb _ _=>UU b,λb z=>absurd z (UU b),e0.mM,e0.IA⟩,
  rfl,e0.bare,Un.kept hk,⟨_,x.toInCall.ns,λi y v h1 h2 h3=>?_⟩,λy c h=>⟨_,x.cell y c h⟩,e0.bw.fresh (aG _),λy c h=>?_,λp hp=>absurd (show p∈([]:z0e) from hp) 125,e0.bw.kept hk,?_⟩
 .exact name_of_addr x.apart (rq h1) (rq h2)
 .have hy:scope.names.lookup y=some .cell\/scope.names.lookup y=some .free:=hy;rcases hy with hy | hy
  .exact zk hy
  exact absurd rfl (S.M6 _ (rq hy))
 .exact j3 (x.above y c (rq h))
 .have hi:i < vs.length:=by
   unfold start at h2;by_cases hi:i < vs.length
   .exact hi
   rw [v_ (by simpa using hi)] at h2;rw [List.getElem?_replicate] at h2
   split at h2 <;> cases h2
  have ha:vs[i]?=some v:=by
   unfold start at h2;rw [zP (by simpa using hi),bB] at h2;cases e:vs[i]? with
   | none=>rw [e] at h2;cases h2
   | some a=>rw [e] at h2;cases h2;rfl
  obtain⟨u,hu,rv⟩:=r.get ha;have hp:ps[i]?=some y:=by
   rw [<-S.pre,List.getElem?_take_of_lt ∅];exact h1
  have YQ:ps.Nodup:=by rw [<-S.pre];exact S.nd.sublist (List.take_sublist _ _)
  refine⟨u,rv,?_⟩;rcases S.par y (cf hp) with k | k
  .exact .inl ⟨k,vq YQ hp hu k⟩
  obtain⟨c,e⟩:=zk (n:=179) k;refine .inr ⟨.inl k,c,e,?_⟩;have q:=x.cell y c e;rw [vw YQ hp hu (by show scope.names.lookup y≠_;rw [k];decide)] at q;exact q
 .exact e0.bw.fresh (j3 (x.above y c (rq h)))
 unfold start;show _=N.length;rw [bO,aC,List.length_replicate];omega
def yR {w:World}{K:aV}{k:Nat}{f:Addr}{body:z0q}{dV kV doc pm dB ct oc:Value}{an od:z0l}
  {N ps:z0r}{sp:Sp}(lk:K.lookup f=some ⟨oc,od,.func (PySem.W.fnOf name qual params body scope dV kV doc pm an dB ct),wO⟩)(sR:PySem.W.codeIn K dB qual=true)(S:aJ N ps scope)
  (len:∀vs H Q E,sp vs H Q E->vs.length=ps.length)
  (g_:∀(A:Around)(outer:List Env)(s:Shared)(H:Hp)(vs:115)(Q:VK)(E:XK),dG k (A.deeper (envOfC qual scope s.heap.objs.size f dB))->sp vs H Q E ->
   ∃t,vC (eY CX P w K mg base N qual scope f dB A outer s H E) body t/\t { nx:=λ_ H'=>Q .dq H',rt:=Q } (start N vs) H) :
  bF P w K mg base CX (k+1) f (PySem.W.fnOf name qual params body scope dV kV doc pm an dB ct) ps sp:=by
 refine⟨len,λA outer s H args us vs Q E hr e0 hb r zD=>?_⟩;have hl:=len _ _ _ _ zD;have KX:K.In s.heap:=e0.mod.Li.keeps λb o e=>(e0.bs b o e).1;have lim:s.heap.NoLimit:=e0.mod.nolimit.keeps λb o e=>(e0.bs b o e).1;have jh:∀y∈ps.zip us,scope.names.lookup y.1=some .local\/(scope.names.lookup y.1=some .cell/\((cellsFrom 190 scope.names []).lookup y.1).isSome=true):=λ⟨n,v⟩ hy=>by
  rcases S.par n (List.of_mem_zip hy).1 with q | q
  .exact .inl q
  exact .inr ⟨q,PySem.W.cellsFrom_some _ _ _ (.inl q)⟩
 refine codeAny_call_function hr.depth (KX _ _ lk) rfl S.co S.gen rfl (PySem.W.codeRec_of KX sR) (hb _ _ _ _ ?_);refine wpAny_newFunctionEnv_cells S.kind jh λenv he s1 x=>?_;subst he;refine⟨lim.keeps x.toInCall.keep,codeAny_func ?_⟩;obtain⟨t,ht,hq⟩:=g_ A outer s H vs Q E (hr.deeper _) zD;have I:Inv (eY CX P w K mg base N qual scope f dB A outer s H E) [] (start N vs) H s1:=u9 S hr.hd e0 hl r x;refine cH (ht [] s1 (start N vs) H _ I hq) (λfl s' hs=>?_) λe s' hs=>hs;have fin:∀{σ':St}{H':Hp}{v:V}{u:Value},Inv (eY CX P w K mg base N qual scope f dB A outer s H E) [] σ' H' s'->RelV v u->Q v H'->CE outer P w H s Q u s' :=
  λ{σ' H' v u} J rv q=>⟨v,H',J.os,J.bare,J.base,J.bw,rv,q⟩
 cases fl with
 | ret u =>
  obtain⟨v,σ',H',J,rv,q⟩:=hs;exact fin J rv q
 | next =>
  obtain⟨σ',H',J,q⟩:=hs;exact fin (v:=V.dq) (u:=Value.none) J rfl q
 | brk =>
  obtain⟨_,_,_,q⟩:=hs;exact False.elim q
 | cont =>
  obtain⟨_,_,_,q⟩:=hs;exact False.elim q
section
variable {X:Cx}{x:Str}{p pos:Pos}{e:Expr}{es:z0p}{t:TA}{id T:String}{r:115->Hp->VK->Prop}
def Yp (r:115->Hp->VK->Prop)(t:TA):TE:=λσ H Q=>t σ H λvs H1=>r vs H1 Q
def aM (hc:fu X (.builtin id) r)(hg:Gl X x)(hm:X.mg x=none)(hv:bootBuiltins x=some (.builtin id))(ha:PA X (e::es) t)(hn:x ≠ "__name__" := by decide)(qC:267:=by decide)
  (he:292:=by rfl)(mE:(backTo pos (starEach es X.env)).any 56=false:=by rfl):PE X (.Call (.Name x p) (e::es) [] pos) (Yp r t):=by
 intro ai s σ H Q I h;refine jM (gM I hg hm hv ?_ hn qC);refine PyProof.Rows.callWith_builtin1 270 he mE;obtain⟨vs,H1,I1,r1,q1⟩:=aW;exact hc ai s1 σ H1 vs us Q I1 r1 q1
def bh (hc:fu X (.type T) r)(hg:Gl X x)(hm:X.mg x=none)(hv:bootBuiltins x=some (.type T))(ha:PA X (e::es) t)(hn:x ≠ "__name__" := by decide)(qC:267:=by decide)
  (he:292:=by rfl)(mE:(backTo pos (starEach es X.env)).any 56=false:=by rfl):PE X (.Call (.Name x p) (e::es) [] pos) (Yp r t):=by
 intro ai s σ H Q I h;refine jM (gM I hg hm hv ?_ hn qC);refine q9 270 he mE;obtain⟨vs,H1,I1,r1,q1⟩:=aW;exact hc ai s1 σ H1 vs us Q I1 r1 q1
end
end L2
namespace HT
open PySem PyProof.Rows
section
open PySem.SeqAt
open PySem.AutoSeq1 (wpAny_loadPart')
open PySem.MeetsSeq PySem.MeetsSeq2 PySem.MeetsSeq3
end
section
variable {prog:Program}{w:World}{A:Around}{E:z0b}{s:Shared}
def kZ (n d:Nat):z0n->Nat
 | none=>d
 | some v=>if v < 0 then (v+(n:Int)).toNat else min v.toNat n
def nN (n d k:Nat):kZ n d (some (k:Int))=min k n:=by
 show (if (k:Int) < 0 then ((k:Int)+(n:Int)).toNat else min (k:Int).toNat n)=min k n;rw [az ∅,pT]
end
end HT
namespace L2
open PySem PySem.Spec PyProof.Rows
abbrev TO:=St->Hp->(z0n->Hp->Prop)->Prop
def PO (X:Cx)(e:Option Expr)(t:TO):Prop :=
 ∀(ai:z0e)(s:Shared)(σ:St)(H:Hp)(Q:z0n->Hp->Prop),121->t σ H Q ->
  wpAny 146 X.A (evalPart e X.env) (λu s'=>∃o H',Inv X ai σ H' s'/\IsPart u o/\Q o H') X.xe s
def IU:TO:=λ_ H Q=>Q none H
def Pb (t:TE):TO:=λσ H Q=>t σ H λx H1=>XQ x λi=>Q (some i) H1
def intsAre_of {ns:z0s}:∀{us:z0m},aY (ns.map V.int) us->IntsAre us ns:=by
 induction ns with
 | nil=>intro us r;rw [jZ] at r;cases r;exact .nil
 | cons n ns ih =>
  intro us r;rw [bC] at r;cases r with
  | cons r1 r2 =>
   obtain⟨t,e⟩:=r1;subst e;exact .cons n t (ih r2)
section
variable {X:Cx}{e:Expr}{te:TE}{lo hi:Option Expr}{tl th:TO}{pos p2:Pos}
def gQ:PO X none IU:=by
 intro ai s σ H Q I h;rw [evalPart_none];exact aK ⟨none,H,I,.none,h⟩
def dH (h:PE X e te):PO X (some e) (Pb te):=by
 intro ai s σ H Q I hw;rw [evalPart_some];refine cE (h ai s σ H _ I hw) λu s1 aW=>?_;obtain⟨x,H1,I1,r1,q1⟩:=aW;obtain⟨i,rfl,q⟩:=q1;obtain⟨t,rfl⟩:=r1;exact⟨some i,H1,I1,.int i t,q⟩
def XW (X:Cx)(r:V->z0n->z0n->Hp->VK->Prop):Prop :=
 ∀(ai:z0e)(s:Shared)(σ:St)(H:Hp)(x:V)(v vl vu:Value)(lo hi:z0n)(sl:Addr)(Q:VK),121->RelV x v->s.heap.IsSliceOf sl vl vu .none->IsPart vl lo->IsPart vu hi->r x lo hi H Q ->
  ∃T id,typeLookup (.type T) "__getitem__"=pure (some (.builtin id))/\s.TypeIs v T/\wpAny 146 X.A (getItem v (.ref sl)) (EP X ai σ Q) X.xe s
def tSl (r:V->z0n->z0n->Hp->VK->Prop)(te:TE)(tl th:TO):TE:=λσ H Q=>te σ H λx H1=>tl σ H1 λl H2=>th σ H2 λu H3=>r x l u H3 Q
def dO {r:V->z0n->z0n->Hp->VK->Prop}(hr:XW X r)(he:PE X e te)(hl:PO X lo tl)(hu:PO X hi th):PE X (.Subscript e (.Slice lo hi none p2) pos) (tSl r te tl th):=by
 intro ai s σ H Q I h;refine Subscript_ (cE (he ai s σ H _ I h) λv s1 aW=>?_);obtain⟨x,H1,I1,r1,q1⟩:=aW;refine wpAny_Slice (cE (hl ai s1 σ H1 _ I1 q1) λvl s2 aW=>?_);obtain⟨l,H2,I2,pl,q2⟩:=aW;refine cE (hu ai s2 σ H2 _ I2 q2) λvu s3 aW=>?_;obtain⟨u,H3,I3,pu,q3⟩:=aW;rw [evalPart_none];refine aK ?_;have I4:Inv X ai σ H3 { s3 with heap:=s3.heap.push { cls:=.type "slice",data:=.fields #[vl,vu,.none] } }:=I3.kept (t':=s3.toks) λb ob q=>a_ _ q;obtain⟨T,id,hT,ht,hg⟩:=hr ai { s3 with heap:=s3.heap.push { cls:=.type "slice",data:=.fields #[vl,vu,.none] } } σ H3 x v vl vu l u s3.heap.objs.size Q I4 r1 (Heap.IsSliceOf.new ..) pl pu q3;show wpAny 146 X.A (subscriptTail e (.Slice lo hi none p2) v (.ref s3.heap.objs.size)) (EP X ai σ Q) X.xe { s3 with heap:=s3.heap.push { cls:=.type "slice",data:=.fields #[vl,vu,.none] } };exact tail_any (ops:=[.ref s3.heap.objs.size,v]) ht hT hg (by with_unfolding_all rfl)
def fM (xs:115)(lo hi:z0n):115:=(xs.drop (HT.kZ xs.length 0 lo)).take (HT.kZ xs.length xs.length hi - HT.kZ xs.length 0 lo)
def yY (xs:115)(lo hi:z0n):(fM xs lo hi).length<=xs.length:=by
 unfold fM;rw [d7,ng];omega
end
def Lm (n:Nat) (i:Int):Option Nat:=if 0<=i then (if i < n then some i.toNat else none) else if -(n:Int)<=i then some (i+n).toNat else none
def lK {α:Type}(xs:List α) (i:Int):Option α:=(Lm xs.length i).bind λj=>xs[j]?
def JX {n:Nat}{i:Int}(h:Lm n i=some j):seqIndex? i n=some j/\j < n/\-(n:Int)<=i/\i < n:=by
 unfold Lm at h;by_cases h0:0<=i
 .rw [aA h0] at h;by_cases h1:i < n
  .rw [aA h1] at h;have e:i.toNat=j:=jJ h;exact⟨by rw [seqIndex_of h0 h1,e],∅,∅,h1⟩
  rw [az h1] at h;cases h
 rw [az h0] at h;by_cases h1:-(n:Int)<=i
 .rw [aA h1] at h;have e:(i+n).toNat=j:=jJ h;exact⟨by rw [seqIndex_neg ∅ h1,e],∅,h1,∅⟩
 rw [az h1] at h;cases h
def xD {α:Type}{xs:List α}{i:Int}{v:α}(h:lK xs i=some v):∃j,seqIndex? i xs.length=some j/\xs[j]?=some v/\j < xs.length/\-(xs.length:Int)<=i/\i < xs.length:=by
 unfold lK at h;cases e:Lm xs.length i with
 | none=>rw [e] at h;cases h
 | some j =>
  rw [e] at h;obtain⟨h1,h2,h3,h4⟩:=JX e;exact⟨j,h1,h,h2,h3,h4⟩
def cS {α:Type}{xs:List α}{j:Nat}{v:α}(h:xs[j]?=some v):lK xs (j:Int)=some v:=by
 have hj:j < xs.length:=(bM.mp h).1;have e:Lm xs.length (j:Int)=some j:=by
  unfold Lm;rw [aA ∅,aA ∅];simp
 unfold lK;rw [e];exact h
def tQ {α:Type}(xs:List α)(v:α):lK (xs++[v]) (-1)=some v:=by
 have hl:(xs++[v]).length=xs.length+1:=108
 have e:Lm (xs++[v]).length (-1)=some xs.length:=by
  unfold Lm;rw [hl,az nofun,aA ∅]
  congr 1
  omega
 unfold lK;rw [e];show (xs++[v])[xs.length]?=some v;simp
def KC (b:Expr):Prop:=∀o i,subscripted b false o i=operate [o,i] (getItem o i)
def RW (X:Cx)(r:R2):Prop :=
 ∀(value slice:Expr)(ai:z0e)(s:Shared)(σ:St)(H:Hp)(x y:V)(v u:Value)(Q:VK),121->RelV x v->RelV y u->r x y H Q ->
  subscripted slice false v u=operate [v,u] (getItem v u)->wpAny 146 X.A (subscriptTail value slice v u) (EP X ai σ Q) X.xe s
def MtR (X:Cx)(id:String)(r:V->115->Hp->VK->Prop):Prop :=
 ∀(ai:z0e)(s:Shared)(σ:St)(H:Hp)(x:V)(xs:115)(v:Value)(us:z0m)(Q:VK),121->RelV x v->aY xs us->r x xs H Q ->
  wpAny 146 X.A (call (.builtin id) (v::us)) (EP X ai σ Q) X.xe s
section
variable {X:Cx}{a b:Expr}{ta tb:TE}{pos:Pos}
def aO {r:R2}(hr:RW X r)(ha:PE X a ta)(hb:PE X b tb)(hs:KC b):PE X (.Subscript a b pos) (R6 r ta tb):=by
 intro ai s σ H Q I h;exact Subscript_ (Od ha hb I h λv u s2 x y H2 I2 rx ry q=>hr a b ai s2 σ H2 x y v u Q I2 rx ry q (hs _ _))
inductive XO (S:Addr->115->Prop)(x y:V)(R:V->Prop):Prop
|mk(p:Addr)(xs:115) (i:Int)(v:V)(e:x=.ref p)(e2:y=.int i)(s:S p xs)(a:lK xs i=some v)(q:R v)
def PR (K:aV):R2:=λx y H Q=>XO (aF K H) x y λv=>Q v H
def Uw (K:aV):R2:=λx y H Q=>XO (aZ K H) x y λv=>Q v H
def Ux:R2:=λx y H Q=>∃z i c,x=.str z/\y=.int i/\z.length<=sizeLine/\lK z.cps.toList i=some c/\Q (.str ⟨#[c]⟩) H
def aQ:RW X (PR X.K):=by
 intro value slice ai s σ H x y v u Q I rx ry h hs;obtain⟨p,xs,i,z,rfl,rfl,hq,he,q⟩:=h;cases rx;obtain⟨t,rfl⟩:=ry;obtain⟨aN,r,pl,hz⟩:=I.list hq;obtain⟨j,h1,h2,h3,h4,h5⟩:=xD he;obtain⟨w,ew,AB⟩:=r.get h2;have hl:=r.length;have hn:=mr;have fin:EP X ai σ Q w s:=⟨z,H,I,AB,q⟩;by_cases h0:0<=i
 .have hj:i.toNat=j:=by
   rw [seqIndex_of h0 h5] at h1;exact jJ h1
  exact item_listR pl.isList h0 ∅ (by rw [hj];simpa using ew) fin hs
 have hj:(i+(aN.toArray.size:Int)).toNat=j:=by
  rw [seqIndex_neg ∅ h4] at h1;rw [cb,<-hl];exact jJ h1
 exact subscriptTail_builtinR (x:=w) pl.isList.typeIs slot_list_getitem.lookup
  (wpAny_getItem_list_neg (Q:=λr s'=>r=w/\EP X ai σ Q r s') pl.isList ∅ (by rw [cb] <;> omega) ∅ (by rw [hj];simpa using ew) ⟨rfl,fin⟩) hs
def cz:RW X (Uw X.K):=by
 intro value slice ai s σ H x y v u Q I rx ry h hs;obtain⟨p,xs,i,z,rfl,rfl,hq,he,q⟩:=h;cases rx;obtain⟨t,rfl⟩:=ry;obtain⟨aN,r,pl,hz⟩:=I.tuple hq;obtain⟨j,h1,h2,h3,h4,h5⟩:=xD he;obtain⟨w,ew,AB⟩:=r.get h2;have hl:=r.length;have hn:=mr;have fin:EP X ai σ Q w s:=⟨z,H,I,AB,q⟩;exact subscriptTail_builtinR (x:=w) pl.typeIs slot_tuple_getitem.lookup
  (getItem_tuple (j:=j) (Q:=λr s'=>r=w/\EP X ai σ Q r s') pl ∅ ∅ (by rw [cb,<-hl];exact h1) (by simpa using ew) ⟨rfl,fin⟩) hs
def Ba:RW X Ux:=by
 intro value slice ai s σ H x y v u Q I rx ry h hs;obtain⟨z,i,c,rfl,rfl,hz,he,q⟩:=h;obtain⟨t,rfl⟩:=rx;obtain⟨t',rfl⟩:=ry;obtain⟨j,h1,h2,h3,h4,h5⟩:=xD he;have hl:z.cps.toList.length=z.length:=by simp [Str.length]
 rw [hl] at h1 h4 h5;have hn:=mr;exact tail_any (typeIs_str s z t) slot_str_getitem.lookup (getItem_str (c:=c) (by
  have e1:decide (i < -(2 ^ 63:Int))=false:=gB ∅;have e2:decide (i≥2 ^ 63)=false:=gB ∅;rw [e1,e2,Bool.or_false]) (by rw [h1];simpa using h2) ⟨.str ⟨#[c]⟩,H,I.tok _,159,q⟩) hs
theorem Inv.lst {σ:St}{s:Shared}{p:Addr}{xs:115}(I:121)(h:H p=some (.lst xs)) :
  ∃(aN:z0m) (n:Nat),aY xs aN/\s.heap.get? p=some { cls:=.type "list",data:=.seq aN.toArray n }/\xs.length<=sizeLine:=by
 obtain⟨z,aN,n,r,e⟩:=I.bw p _ h;exact⟨aN,n,r,e,z⟩
def wx (lo hi:z0n) (n:Nat):(sliceBounds lo hi none n).1=((HT.kZ n 0 lo:Nat):Int)/\(sliceBounds lo hi none n).2.1=((HT.kZ n n hi:Nat):Int)/\(sliceBounds lo hi none n).2.2=1:=by
 refine⟨?_,?_,rfl⟩
 .cases lo with
  | none=>simp [sliceBounds,HT.kZ]
  | some i =>
   simp only [sliceBounds,HT.kZ,Option.getD_none,show (1:Int) > 0 by decide,if_true];by_cases h:i < 0
   .simp only [h,if_true] <;> omega
   simp only [h,if_false] <;> omega
 cases hi with
 | none=>simp [sliceBounds,HT.kZ]
 | some i =>
  simp only [sliceBounds,HT.kZ,Option.getD_none,show (1:Int) > 0 by decide,if_true];by_cases h:i < 0
  .simp only [h,if_true] <;> omega
  simp only [h,if_false] <;> omega
def ui (aN:z0m)(lo hi:z0n):slicePick aN.toArray lo hi none=((aN.drop (HT.kZ aN.length 0 lo)).take (HT.kZ aN.length aN.length hi - HT.kZ aN.length 0 lo)).toArray:=by
 obtain⟨h1,h2,h3⟩:=wx lo hi aN.toArray.size;unfold slicePick;rw [h1,h2,h3];simp only [sliceRange_one,pick_run,cb] <;> rfl
def Uu (K:aV):V->z0n->z0n->Hp->VK->Prop:=λx lo hi H Q=>XSq x (aF K H) λxs=>∀p,H p=none->Q (.ref p) (upd H p (.lst (fM xs lo hi)))
def f_:XW X (Uu X.K):=by
 intro ai s σ H x v vl vu lo hi sl Q I rx hs pl pu h;obtain⟨a,xs,rfl,hx,q⟩:=h;cases rx;obtain⟨aN,r,ht,hz⟩:=I.list hx;have bN:=r.length;refine⟨"list",_,slot_list_getitem.lookup,ht.isList.typeIs,?_⟩;refine wpAny_getItem_list_slice ht.isList hs pl pu .none 125 ?_ (by rw [cb] <;> omega)
 rw [ui,<-bN];refine⟨197,_,I.laid (t':=s.toks) (o:=.lst (fM xs lo hi)) (λb ob q=>a_ _ q) (aG _) ?_,rfl,q _ (I.bw.fresh (aG _))⟩;exact⟨cI (yY xs lo hi) hz,_,0,(r.drop (HT.kZ xs.length 0 lo)).take (HT.kZ xs.length xs.length hi - HT.kZ xs.length 0 lo),cu _ rfl⟩
def iG:V->Bool
 | .dq=>true
 | .bl _=>true
 | .int _=>true
 | .str _=>true
 | _=>false
def zH:V->V->Bool
 | .dq,.dq=>true
 | .bl a,.bl b=>a == b
 | .bl a,.int b=>(if a then 1 else 0) == b
 | .int a,.bl b=>a == (if b then 1 else 0)
 | .int a,.int b=>a == b
 | .str a,.str b=>a == b
 | _,_=>false
def Bt {y x:V}{u v:Value}(ry:RelV y u)(rx:RelV x v)(fy:iG y=true)(fx:iG x=true):SeqAt.EqAt A s u v (zH y x):=by
 cases y with
 | dq =>
  cases ry;cases x with
  | dq=>cases rx;exact SeqAt.EqAt.same _
  | bl b=>cases rx;exact SeqAt.EqAt.none_bool b
  | int b=>obtain⟨t,rfl⟩:=rx;exact SeqAt.EqAt.none_int b t
  | str b=>obtain⟨t,rfl⟩:=rx;exact SeqAt.EqAt.none_str b t
  | _=>exact absurd (show false=true from fx) dj
 | bl a =>
  cases ry;cases x with
  | dq=>cases rx;exact SeqAt.EqAt.bool_none a
  | bl b=>cases rx;exact SeqAt.EqAt.bool_bool a b
  | int b=>obtain⟨t,rfl⟩:=rx;exact SeqAt.EqAt.bool_int a b t
  | str b=>obtain⟨t,rfl⟩:=rx;exact SeqAt.EqAt.bool_str a b t
  | _=>exact absurd (show false=true from fx) dj
 | int a =>
  obtain⟨t',rfl⟩:=ry;cases x with
  | dq=>cases rx;exact SeqAt.EqAt.int_none a t'
  | bl b=>cases rx;exact SeqAt.EqAt.int_bool a t' b
  | int b=>obtain⟨t,rfl⟩:=rx;exact SeqAt.EqAt.int_int a t' b t
  | str b=>obtain⟨t,rfl⟩:=rx;exact SeqAt.EqAt.int_str a t' b t
  | _=>exact absurd (show false=true from fx) dj
 | str a =>
  obtain⟨t',rfl⟩:=ry;cases x with
  | dq=>cases rx;exact SeqAt.EqAt.str_none a t'
  | bl b=>cases rx;exact SeqAt.EqAt.str_bool a t' b
  | int b=>obtain⟨t,rfl⟩:=rx;exact SeqAt.EqAt.str_int a t' b t
  | str b=>obtain⟨t,rfl⟩:=rx;exact SeqAt.EqAt.str_str a t' b t
  | _=>exact absurd (show false=true from fx) dj
 | _=>exact absurd (show false=true from fy) dj
def Bs (x:V)(u:Value):Bool:=match u with
 | .none=>zH .dq x
 | .bool b=>zH (.bl b) x
 | .int i _=>zH (.int i) x
 | .str z _=>zH (.str z) x
 | _=>false
def HA {x y:V}{u:Value}(r:RelV y u)(f:iG y=true):Bs x u=zH y x:=by
 cases y with
 | dq=>cases r;rfl
 | bl b=>cases r;rfl
 | int i=>obtain⟨t,rfl⟩:=r;rfl
 | str z=>obtain⟨t,rfl⟩:=r;rfl
 | _=>exact absurd (show false=true from f) dj
theorem ot {x:V}:∀{xs:115}{us:z0m},aY xs us->xs.all iG=true->us.any (Bs x)=xs.any λy=>zH y x
 | _,_,.nil,_=>rfl
 | y::xs,u::us,.cons r t,f=>by
  rw [List.all_cons,jK] at f;rw [q_,q_,HA r f.1,ot t f.2]
theorem kj {x:V}{v:Value}(rx:RelV x v)(fx:iG x=true):∀{xs:115}{us:z0m},aY xs us->xs.all iG=true->∀u∈us,SeqAt.EqAt A s u v (Bs x u)
 | _,_,.nil,_=>λu hu=>by cases hu
 | y::xs,u::us,.cons r t,f=>λu' hu=>by
  rw [List.all_cons,jK] at f;rcases aS.mp hu with rfl | hu
  .rw [HA r f.1];exact Bt r rx f.1 fx
  exact kj rx fx t f.2 u' hu
def JY (x:V)(xs:115):Bool:=xs.any λy=>zH y x
inductive XIn (S:Addr->115->Prop)(x y:V)(R:115->Prop):Prop
|mk(p:Addr)(xs:115)(e:y=.ref p)(s:S p xs)(f:iG x=true)(g:xs.all iG=true)(q:R xs)
def Uy (K:aV)(neg:Bool):R2:=λx y H Q=>XIn (λp xs=>aF K H p xs\/aZ K H p xs) x y λxs=>Q (.bl (if neg then !JY x xs else JY x xs)) H
def uX:oy X (compareOp .In) (Uy X.K false):=by
 intro ai s σ H x y v u Q I rx ry h;obtain⟨p,xs,rfl,hq,fx,fs,q⟩:=h;cases ry;rcases hq with hq | hq
 .obtain⟨aN,r,pl,hz⟩:=I.list hq;refine SeqAt.in_listAt (Bs x) pl.isList (λw hw=>kj rx fx r fs w (by simpa using hw)) ⟨.bl _,H,I,rfl,?_⟩;rw [show aN.toArray.any (Bs x)=aN.any (Bs x) by simp,ot r fs];exact q
 obtain⟨aN,r,pl,hz⟩:=I.tuple hq;refine SeqAt.in_tupleAt (Bs x) pl (λw hw=>kj rx fx r fs w (by simpa using hw)) ⟨.bl _,H,I,rfl,?_⟩;rw [show aN.toArray.any (Bs x)=aN.any (Bs x) by simp,ot r fs];exact q
def nX:oy X (compareOp .NotIn) (Uy X.K true):=by
 intro ai s σ H x y v u Q I rx ry h;obtain⟨p,xs,rfl,hq,fx,fs,q⟩:=h;cases ry;rcases hq with hq | hq
 .obtain⟨aN,r,pl,hz⟩:=I.list hq;refine SeqAt.notIn_listAt (Bs x) pl.isList (λw hw=>kj rx fx r fs w (by simpa using hw)) ⟨.bl _,H,I,rfl,?_⟩;rw [show aN.toArray.any (Bs x)=aN.any (Bs x) by simp,ot r fs];exact q
 obtain⟨aN,r,pl,hz⟩:=I.tuple hq;refine SeqAt.notIn_tupleAt (Bs x) pl (λw hw=>kj rx fx r fs w (by simpa using hw)) ⟨.bl _,H,I,rfl,?_⟩;rw [show aN.toArray.any (Bs x)=aN.any (Bs x) by simp,ot r fs];exact q
def cA:fu X (.builtin "len") (λxs H Q=>Ky xs (λp ys=>aF X.K H p ys\/aZ X.K H p ys) λys=>Q (.int ys.length) H):=by
 intro ai s σ H xs us Q I r h;obtain⟨p,ys,rfl,hq,q⟩:=h;obtain⟨u,rfl,rx⟩:=vals1 r;cases rx;have hn:=mr;rcases hq with hq | hq
 .obtain⟨aN,r',pl,hz⟩:=I.list hq;have bN:=r'.length;exact Calls.call_len_list pl.isList (by simp only [cb] <;> omega) ⟨.int ys.length,H,I.tok _,⟨s.toks+1,by rw [cb,bN]⟩,q⟩
 obtain⟨aN,r',pl,hz⟩:=I.tuple hq;have bN:=r'.length;exact len_tuple pl (by simp only [cb] <;> omega) ⟨.int ys.length,H,I.tok _,⟨s.toks+1,by rw [cb,bN]⟩,q⟩
def oq:fu X (.builtin "len") (λxs H Q=>∃z,xs=[.str z]/\z.length<=sizeLine/\Q (.int z.length) H):=by
 intro ai s σ H xs us Q I r h;obtain⟨z,rfl,hz,q⟩:=h;obtain⟨u,rfl,t,rfl⟩:=vals1 r;have hn:=mr;exact len_str ∅ ⟨.int z.length,H,I.tok _,159,q⟩
def gp:fu X (.type "list") (λxs H Q=>Ky xs (λp ys=>aF X.K H p ys\/aZ X.K H p ys) λys=>∀l,H l=none->Q (.ref l) (upd H l (.lst ys))):=by
 intro ai s σ H xs us Q I r h;obtain⟨p,ys,rfl,hq,q⟩:=h;obtain⟨u,rfl,rx⟩:=vals1 r;cases rx;have fin:∀(aN:z0m),aY ys aN->ys.length<=sizeLine->∀(h':Heap) (c':Nat),(∀b o',s.heap.get? b=some o'->h'.get? b=some o') ->
   h'.get? s.heap.objs.size=some { cls:=.type "list",dict:=none,data:=.seq aN.toArray c',slots:=#[] }->EP X ai σ Q (197) 216:=λaN r' hz h' c' kp e =>
  ⟨197,_,I.laid (t':=s.toks) kp (aG _) (show b8 X.prog X.w _ h' _ (.lst ys) from ⟨hz,aN,c',r',e⟩),rfl,q _ (I.bw.fresh (aG _))⟩
 rcases hq with hq | hq
 .obtain⟨aN,r',pl,hz⟩:=I.list hq;have bN:=r'.length;obtain⟨o,ho,hc,n,hd⟩:=pl.isList;exact call_list_seq p (.inl rfl) ho hc hd (λh' c' kp e=>fin aN r' hz h' c' kp e) (by simp only [cb] <;> omega)
 obtain⟨aN,r',pl,hz⟩:=I.tuple hq;have bN:=r'.length;obtain⟨o,ho,hc,n,hd⟩:=pl;exact call_list_seq p (.inr rfl) ho hc hd (λh' c' kp e=>fin aN r' hz h' c' kp e) (by simp only [cb] <;> omega)
def fj:fu X (185) (λxs H Q=>∃p ys,xs=[.ref p]/\((aF X.K H p ys/\∀l,H l=none->Q (.ref l) (upd H l (.tup ys)))\/(aZ X.K H p ys/\Q (.ref p) H))):=by
 intro ai s σ H xs us Q I r h;obtain⟨p,ys,rfl,h⟩:=h;obtain⟨u,rfl,rx⟩:=vals1 r;cases rx;rcases h with ⟨hq,q⟩ | ⟨hq,q⟩
 .obtain⟨aN,r',pl,hz⟩:=I.list hq;have bN:=r'.length;refine call_tuple_list pl.isList (λh' kp=>?_) (by simp only [cb] <;> omega)
  have I1:Inv X ai σ H 216:=I.kept (t':=s.toks) kp;have I2:Inv X ai σ (upd H h'.objs.size (.tup ys)) { s with heap:=h'.push { cls:=185,data:=.seq aN.toArray } } :=
   I1.laid (t':=s.toks) (λb o e=>a_ _ e) (aG _) (show b8 X.prog X.w _ _ _ (.tup ys) from ⟨hz,aN,r',IsTup.new _ _⟩)
  exact⟨.ref h'.objs.size,_,I2,rfl,q _ (I1.bw.fresh (aG _))⟩
 obtain⟨aN,r',pl,hz⟩:=I.tuple hq;exact call_tuple_same pl ⟨.ref p,H,I,rfl,q⟩
def Yk (K:aV)(T:String)(x:V)(H:Hp):Prop:=match x with
 | .str _=>T = "str"
 | .int _=>T = "int"
 | .ref p=>(T = "list" /\ ∃xs,aF K H p xs)\/(T = "tuple" /\ ∃o,K.lookup p=111/\o.cls=185 /\ o.dict=none) \/
   (T = "dict" /\ ((∃kvs,H p=184)\/∃kvs,H p=some (.dT kvs)))\/(T = "set" /\ ∃S n,H p=some (.set S n))
 | _=>False
def Mh {σ:St}{s:Shared}{T:String}{x:V}{v:Value}(I:121)(r:RelV x v)(ty:Yk X.K T x H) :
  s.TypeIs v T/\∀a,v=.ref a->∃ob,s.heap.get? a=some ob/\ob.dict=none:=by
 cases x with
 | str z =>
  obtain⟨t,rfl⟩:=r;cases (show T = "str" from ty);exact⟨typeIs_str s z t,λ_ e=>nomatch e⟩
 | int i =>
  obtain⟨t,rfl⟩:=r;cases (show T = "int" from ty);exact⟨typeIs_int s i t,λ_ e=>nomatch e⟩
 | ref p =>
  cases r;rcases ty with ⟨rfl,xs,hq⟩ | ⟨rfl,o,hk,hc,hd⟩ | ⟨rfl,hk⟩ | ⟨rfl,S,n,hk⟩
  .obtain⟨aN,_,pl,_⟩:=I.list hq;refine⟨pl.isList.typeIs,λa e=>?_⟩;cases e;obtain⟨o,n,e,c,hd,_⟩:=pl;exact⟨o,e,hd⟩
  .refine⟨⟨o,I.kx p o hk,hc⟩,λa e=>?_⟩;cases e;exact⟨o,I.kx _ o hk,hd⟩
  .have z:∃o,s.heap.get? p=111/\o.ExactDict:=by
    rcases hk with ⟨kvs,hk⟩ | ⟨kvs,hk⟩
    .obtain⟨_,_,_,_,o,_,_,e,ex,_⟩:=I.bw p _ hk;exact⟨o,e,ex⟩
    obtain⟨_,_,_,_,o,_,_,e,ex,_⟩:=I.bw p _ hk;exact⟨o,e,ex⟩
   obtain⟨o,e,ex⟩:=z;refine⟨⟨o,e,ex.1⟩,λa e2=>?_⟩;cases e2;exact⟨o,e,ex.2.1⟩
  obtain⟨o,_,_,_,e,ex,_⟩:=I.bw p _ hk;refine⟨⟨o,e,ex.1⟩,λa e2=>?_⟩;cases e2;exact⟨o,e,ex.2.1⟩
 | _=>exact False.elim ty
def Yq (K:aV)(T:String)(r:V->115->Hp->VK->Prop)(to:TE)(t:TA):TE:=λσ H Q=>to σ H λx H1=>Yk K T x H1/\t σ H1 λxs H2=>r x xs H2 Q
variable {o e:Expr}{es:z0p}{to:TE}{t:TA}{name:Str}{apos fh:Pos}{T id:String}{r:V->115->Hp->VK->Prop}
def dY (pa:PlainAttrs T)(slot:Slot T name id)(VG:typeOf (.builtin id)=pure (.type "method_descriptor"))(hm:MtR X id r)(ho:PE X o to)(ha:PA X (e::es) t)
  (Hj:attributeBase o name X.env (eval o X.env)=eval o X.env:=by rfl)
  (NC:((backTo fh (starEach (e::es) X.env)).all (λx=>!x.1) && (backToKw fh (keywordEach [] X.env)).all (λx=>x.1.isSome)
   && decide ((e::es).length+([]:List Keyword).length+(if ([]:List Keyword).isEmpty then 0 else 1) < 30))=true:=by rfl)
  (Ha:(apos.endLine == fh.line)=true:=by rfl)(hs:292:=by rfl)(sN:(backTo fh (starEach es X.env)).any 56=false:=by rfl) :
  PE X (.Call (.Attribute o name apos) (e::es) [] fh) (Yq X.K T r to t):=by
 intro ai s σ H Q I h;refine wpAny_Call_method_late Hj NC Ha rfl (cE (ho ai s σ H _ I h) λv s1 aW=>?_);obtain⟨x,H1,I1,r1,ty,q1⟩:=aW;obtain⟨h1,h2⟩:=Mh I1 r1 ty;refine⟨T,id,pa,slot,VG,h1,h2,?_⟩;have hA:=ha fh ai s1 σ H1 _ I1 q1;rw [hs] at hA ⊢;refine vQ (by show (false || (backTo fh (starEach es X.env)).any 56)=false;rw [sN] <;> rfl) (vI ?_)
 refine cE hA λus s2 aW=>?_;obtain⟨vs,H2,I2,r2,q2⟩:=aW;exact hm ai s2 σ H2 x vs v us Q I2 r1 r2 q2
end
def KD (X:Cx)(id:String)(r:V->115->Hp->VK->Prop):Prop :=
 ∀(ai:z0e)(s:Shared)(σ:St)(H:Hp)(x:V)(xs:115)(v:Value)(us:z0m)(Q:VK),121->RelV x v->aY xs us->r x xs H Q ->
  wpAny 146 X.A (call (.builtin id) (v::us)) (EP X ai σ Q) X.xe s
def aY.one:∀{x:V}{us:z0m},aY [x] us->∃u,us=[u]/\RelV x u
 | _,_,.cons r .nil=>⟨_,rfl,r⟩
def aY.zero:∀{us:z0m},aY [] us->us=[]
 | _,.nil=>rfl
section
variable {X:Cx}{ai:z0e}{σ:St}{H:Hp}{s:Shared}{l b:Addr}{xs ys zs:115}
def Inv.Qh {aN w_:z0m}{n:Nat}{f:z0k->z0k}(I:121)(hH:H l=some (.lst xs))
  (e:s.heap.get? l=some { cls:=.type "list",data:=.seq aN.toArray n })(hf:f aN.toArray=w_.toArray)(hv:aY ys w_)(hz:ys.length<=sizeLine) :
  Inv X ai σ (upd H l (.lst ys)) { s with heap:=s.heap.update l (Obj.mapSeq f),toks:=t' }:=by
 have q:=PySem.IsL.update e f;rw [hf] at q;refine I.write (x:=l) (e:=l) (by rw [hH];exact trivial) (.inl rfl) (λb' u hb hu=>(jY s.heap (Obj.mapSeq f) (dA hb)).trans hu) ⟨_,q⟩ ?_;exact⟨hz,w_,_,hv,q⟩
def Inv.Vh (I:121)(hv:aY ys aN)(hz:ys.length<=sizeLine) :
  Inv X ai σ (upd H s.heap.objs.size (.lst ys)) { s with heap:=s.heap.push { cls:=.type "list",data:=.seq aN.toArray },toks:=t' } :=
 I.laid (λ_ _ q=>a_ _ q) (aG _) ⟨hz,aN,0,hv,cu _ rfl⟩
theorem Inv.fresh (I:121):H s.heap.objs.size=none:=I.bw.fresh (aG _)
def Inv.GU (I:121)(hH:H l=some (.lst xs)):xs.length<=sizeLine/\∃(aN:z0m) (n:Nat),aY xs aN/\xs.length=aN.length/\s.heap.get? l=some { cls:=.type "list",data:=.seq aN.toArray n }:=by
 obtain⟨z,aN,n,r,e⟩:=I.bw l _ hH;exact⟨z,aN,n,r,r.length,e⟩
def GD {n:Nat}(h:n<=sizeLine):Builtin.List.listTooLong n=false:=by
 unfold Builtin.List.listTooLong;exact gB ∅
end
section
variable {X:Cx}
inductive RO (H:Hp)(x:V)(vs:115)(R:Addr->115->V->Prop):Prop
|mk(l:Addr)(xs:115)(y:V)(e:x=.ref l)(e2:vs=[y])(h:H l=some (.lst xs))(z:xs.length < sizeLine)(q:R l xs y)
def Jl:V->115->Hp->VK->Prop:=λx vs H Q=>RO H x vs λl xs y=>Q .dq (upd H l (.lst (xs++[y])))
def bR:KD X "list.append" Jl:=by
 intro ai s σ H x vs v us Q I rx rv h;obtain⟨l,xs,y,rfl,rfl,hH,hz,q⟩:=h;cases rx;obtain⟨u,rfl,ru⟩:=rv.one;obtain⟨z,aN,n,r,hl,e⟩:=I.GU hH;refine call_meets F.slot_list_append ⟨_,e,rfl⟩ F.entry_list_append (F.args_list_append_2 _ _) (PySem.list_append l aN.toArray n u (by rw [cb];omega)) ⟨e,?_⟩;refine⟨.dq,_,I.Qh (w_:=aN++[u]) hH e 125 (r.append (.cons ru .nil)) ?_,rfl,q⟩;rw [bO,vT];omega
def Jk:V->115->Hp->VK->Prop:=λx vs H Q=>∃l b xs zs,x=.ref l/\vs=[.ref b]/\H l=some (.lst xs)/\H b=some (.lst zs)/\xs.length+zs.length<=sizeLine/\Q .dq (upd H l (.lst (xs++zs)))
def DE:KD X "list.extend" Jk:=by
 intro ai s σ H x vs v us Q I rx rv h;obtain⟨l,b,xs,zs,rfl,rfl,hH,hB,hz,q⟩:=h;cases rx;obtain⟨u,rfl,ru⟩:=rv.one;cases ru;obtain⟨z,aN,n,r,hl,e⟩:=I.GU hH;obtain⟨z2,fK,n2,r2,mH,e2⟩:=I.GU hB;have hsz:aN.toArray.size+fK.toArray.size<=sizeLine:=by rw [cb,cb];omega
 have QU:¬(!aN.toArray.isEmpty && Builtin.List.listTooLong (aN.toArray.size+fK.toArray.size))=true:=by
  rw [GD hsz,Bool.and_false];exact dj
 refine call_meets F.slot_list_extend ⟨_,e,rfl⟩ F.entry_list_extend (F.args_list_extend_2 _ _)
  (AutoSeq1.list_extend_list_list_0 l aN.toArray n b fK.toArray n2 QU (by rw [cb];omega) ∅) ⟨e,e2,?_⟩
 refine⟨.dq,_,I.Qh (w_:=aN++fK) hH e 125 (r.append r2) ?_,rfl,q⟩;rw [bO];omega
def Uz:R2:=λx y H Q=>XC2 (λl xs=>H l=some (.lst xs)) x y λxs zs=>∀p,H p=none->Q (.ref p) (upd H p (.lst (xs++zs)))
def pA:oy X (binaryOp .Add) Uz:=by
 intro ai s σ H x y v u Q I rx ry h;obtain⟨l,b,xs,zs,rfl,rfl,hH,hB,hz,q⟩:=h;cases rx;cases ry;obtain⟨z,aN,n,r,hl,e⟩:=I.GU hH;obtain⟨z2,fK,n2,r2,mH,e2⟩:=I.GU hB;refine PySem.P.add_list e e2 ?_ (by rw [cb,cb];omega);have ea:aN.toArray++fK.toArray=(aN++fK).toArray:=108
 rw [ea];exact⟨.ref _,_,I.Vh (t':=s.toks) (r.append r2) (by rw [bO];omega),rfl,q _ I.fresh⟩
end
section
variable {prog:Program}{w:World}{A:Around}{E:z0b}{s:Shared}
set_option maxRecDepth 100000 in
end
section
variable {X:Cx}
end
end L2
namespace KN
open PySem PySem.W PySem.Calls PyProof.Rows
def qz {P:Params}:∀(ns:z0s)(vs:z0m),WellAll P h vs (ns.map WData.int)->IntsAre vs ns:=by
 intro ns
 induction ns with
 | nil =>
  intro vs w;rw [jZ] at w;cases w;exact .nil
 | cons n ns ih =>
  intro vs w;rw [bC] at w;cases w with
  | cons a b =>
   cases a;exact .cons _ _ (ih _ b)
def Dh {l:OpenLaw}{n:Nat}(hn:l.most=some n){P:Params}{h:Heap}
  (JZ:l.row.toRowW.claim.pre args=true)(Nr:WellAll P h vals args) :
  ∃a vs ns,vals=[Value.ref a]/\args=[WData.list (ns.map WData.int)]/\h.get? a=some { cls:=.type "list",data:=.seq vs.toArray }/\IntsAre vs ns/\ns.length<=n:=by
 have hsh:WShape.hasAll [] args [.list .int]=true:=(pre_splitW JZ).1;have hc:l.pre.holds [] { args:=args }=true:=(pre_splitW JZ).2;obtain⟨d,r,rfl,h1,h2⟩:=hasAllW_cons hsh;obtain rfl:=hasAllW_nil h2;obtain⟨xs,rfl,h3⟩:=hasW_list h1;obtain⟨ns,rfl⟩:=items_int h3;have bN:ns.length<=n:=by
  unfold OpenLaw.pre at hc;have h4:(WTm.not (.lt (.lit (.int (n:Int))) (.len (.arg 0)))).holds [] { args:=[.list (ns.map .int)] }=true:=by
   have h4:=(holds_andW hc).1;rw [hn] at h4;exact h4
  have h5:=condW_of h4 (w_not (w_lt w_lit (w_len_list (w_arg rfl))));rw [aC] at h5;refine Nat.le_of_not_lt λq=>?_;have q':(n:Int) < ((ns.length:Nat):Int):=by omega
  first
   | (rw [ff q'] at h5;exact absurd h5 nofun)
   | (simp at h5;omega)
 cases Nr with
 | cons w1 w2 =>
  cases w2;cases w1 with
  | list ho qE=>exact⟨_,_,ns,rfl,rfl,ho,qz ns _ qE,bN⟩
def Dn (l:OpenLaw)(args:List WData):l.row.toRowW.claim.post args (.bool true) args=true :=
 postW_of (r:=l.row.toRowW) (X:=(true == true))
  (show WShape.has [] (.bool true) .bool=true by first | rfl | decide | simp [WShape.has,WShape.arms,WShape.armsAll])
  (show (WTm.eq .res (.lit (.bool true))).value [] { args:=args,res:=some (.bool true),after:=args }=some (.bool (true == true)) from w_eq_bool (w_res rfl) w_lit) rfl
def zo {l:OpenLaw}{n:Nat}{q:Program}{loose:z0r}{d:DefRec}
  (hn:l.most=some n)(Q4:d.params.defaults=[])
  (call:∀(w:World)(s₀ s₁:Shared)(mg mb:z0c)(fa:Addr)(o:Obj)(pm cd doc:Value)(a:Addr)(vs:z0m)(ns:z0s),
   Ground q loose [] XP w s₀ mg mb s₁.heap->YP w s₁.heap ->
   s₁.heap.get? fa=111->o.data=.func (docDef d.name d.params d.body d.scope pm cd doc)->s₁.heap.CodeRec cd d.name->mg d.name=some (.ref fa) ->
   s₁.heap.get? a=some { cls:=.type "list",data:=.seq vs.toArray }->IntsAre vs ns->ns.length<=n->s₁.gens=#[] ->
   codeAny (model l.prog w) callerA (.call (.ref fa) ⟨[.ref a],[]⟩) (λr s'=>r=.ok (.ret (.bool true))/\OldK s₁.heap s'.heap/\s'.os=s₁.os/\AllBare s'.gens) s₁) :
  WalkO q loose XP YP l.row.toRowW d [] (λf vs=>PySem.call f vs):=by
 intro w s₀ s₁ mg mb G Y fa o pm cd doc dV kV ho hd sR hD QT hg args vals as JZ aal hrd Nr hlo;obtain rfl:dV=.none:=Dflts.none hD Q4;obtain rfl:kV=.none:=Dflts.noKw hD;obtain⟨a,vs,ns,rfl,rfl,Ny,hints,bN⟩:=Dh hn JZ Nr;refine enter_call (iY (call w s₀ s₁ mg mb fa o pm cd doc a vs ns G Y ho (fd_plain hd) sR QT Ny hints bN hg) λr s' hq=>?_);obtain⟨rfl,h2,h3,h4⟩:=hq;exact⟨.inl ⟨.bool true,.bool true,[],rfl,λ_=>rfl,.bool true,Dn l _,λ_=>⟨List.Pairwise.nil,λ_ hm=>(nomatch hm)⟩⟩,h2,h3,h4⟩
section
variable {prog:Program}{w:World}{A:Around}{E:z0b}{s:Shared}{K:Frag}
def sq (h:Heap):Heap:={ h with objs:=#[] }
def mi (h:Heap)(b:Addr):(sq h).get? b=none:=by
 cases e:(sq h).get? b with
 | none=>rfl
 | some o=>exact absurd (aP e) (rf _)
def ledger (h:Heap)(L d:Addr):z0e:=(List.range h.objs.size).filterMap λa=>if a=L\/a=d then none else (h.get? a).map λo=>(a,o)
def jA {h:Heap}{L d a:Addr}{o:Obj}:(a,o)∈ledger h L d↔a≠L/\a≠d/\h.get? a=111:=by
 unfold ledger;rw [vK];constructor
 .rintro⟨b,_,e⟩
  split at e
  .cases e
  rename_i hb
  obtain⟨o',ho,e'⟩:=b9.mp e;cases e';exact⟨λq=>hb (.inl q),λq=>hb (.inr q),ho⟩
 rintro⟨n1,n2,ho⟩;refine⟨a,jq.mpr (aP ho),?_⟩;rw [az (show ¬(a=L\/a=d) from λq=>q.elim n1 n2),ho] <;> rfl
def yz {h:Heap}{L d:Addr}{od:Obj}(qS:d≠L)(ho:h.get? d=some od):News (sq h) L h ([]++(d,od)::ledger h L d):=by
 rintro⟨a,o⟩ hp;rcases aS.mp hp with e | hp
 .cases e;exact⟨ho,qS,mi _ _⟩
 obtain⟨n1,n2,e⟩:=jA.mp hp;exact⟨e,n1,mi _ _⟩
def NQ {h:Heap}{m:z0c}(n:h.Ns L m):Fr (sq h) L h m :=
 ⟨n,λb o e=>(by rw [mi] at e;cases e),d6 _⟩
end
end KN
namespace L2
open PySem PySem.Spec PyProof.Rows
theorem uD:∀{vs:z0m}{ns:z0s},IntsAre vs ns->aY (ns.map V.int) vs
 | _,_,.nil=>.nil
 | _,_,.cons n t h=>.cons ⟨t,rfl⟩ (uD h)
def di (s:Stmt):Arguments:=match s with
 | .FunctionDef _ a _ _ _ _ _ _ _ _=>a
 | _=>{ posonlyargs:=[],args:=[],vararg:=none,kwonlyargs:=[],kw_defaults:=[],kwarg:=none,defaults:=[] }
def bZ (s:Stmt):z0q:=match s with
 | .FunctionDef _ _ b _ _ _ _ _ _ _=>b
 | _=>[]
def av (s:Stmt):Scope:=match s with
 | .FunctionDef _ _ _ _ _ _ sc _ _ _=>sc
 | _=>{ kind:=.function,names:=[],isGenerator:=false,isCoroutine:=false }
abbrev fN:EY:=λ_ _ _ _ _ _=>False
abbrev E0:XK:=λ_ _ _=>False
def qh {X:Cx}:Passes fN X E0:=λ_ _ _ _ _ _ _ h=>h.elim
structure iu (K:aV)(x qual:Str)(st:Stmt)(f:Addr)(fd:FuncData):Prop where
 ex:∃(oc:Value)(od:z0l)(kV doc pm:Value)(an:z0l)(dB ct:Value)(wO:z0a),
  fd=PySem.W.fnOf x qual (di st) (bZ st) (av st) .none kV doc pm an dB ct/\K.lookup f=some ⟨oc,od,.func fd,wO⟩/\PySem.W.codeIn K dB qual=true
 kp:PySem.W.keepIn K (.ref f)=true
section
variable {P:Program}{w:World}{K:aV}{mg:z0c}{base:Heap}
def iu.ok {x qual:Str}{st:Stmt}{f:Addr}{fd:FuncData}{N ps:z0r}{k:Nat}{sp:Sp}(F:iu K x qual st f fd)(S:aJ N ps (av st))(len:∀vs H Q E,sp vs H Q E->vs.length=ps.length)
  (g_:∀(dB:Value)(A:Around)(outer:List Env)(s:Shared)(H:Hp)(vs:115)(Q:VK)(E:XK),dG k (A.deeper (envOfC qual (av st) s.heap.objs.size f dB))->sp vs H Q E ->
   ∃t,vC (eY fN P w K mg base N qual (av st) f dB A outer s H E).JM (bZ st) t/\t { nx:=λ_ H'=>Q .dq H',rt:=Q } (start N vs) H):bF P w K mg base fN (k+1) f fd ps sp:=by
 obtain⟨oc,od,kV,doc,pm,an,dB,ct,wO,rfl,lk,sR⟩:=F.ex;refine yR lk sR S len λA outer s H vs Q E hr zD=>?_;obtain⟨t,h,q⟩:=g_ dB A outer s H vs Q E hr zD;exact⟨t,h.JM,q⟩
def iu.binds {x qual:Str}{st:Stmt}{f:Addr}{fd:FuncData}{ps:z0r}(F:iu K x qual st f fd)
  (h:∀(kV doc pm:Value)(an:z0l)(dB ct:Value)(us:z0m),us.length=ps.length->bindArgs (PySem.W.fnOf x qual (di st) (bZ st) (av st) .none kV doc pm an dB ct) ⟨us,[]⟩=pure (ps.zip us)):Binds K fd ps []:=by
 obtain⟨oc,od,kV,doc,pm,an,dB,ct,wO,rfl,lk,sR⟩:=F.ex;exact .all (h kV doc pm an dB ct)
def Hs {x qual:Str}{st:Stmt}{f:Addr}{oc:Value}{od an:z0l}{wO:z0a}{kV doc pm dB ct:Value}(l:K.lookup f=some ⟨oc,od,.func (PySem.W.fnOf x qual (di st) (bZ st) (av st) .none kV doc pm an dB ct),wO⟩)
  (c:PySem.W.codeIn K dB qual=true)(k:PySem.W.keepIn K (.ref f)=true):iu K x qual st f (PySem.W.fnOf x qual (di st) (bZ st) (av st) .none kV doc pm an dB ct):=⟨⟨oc,od,kV,doc,pm,an,dB,ct,wO,rfl,l,c⟩,k⟩
end
def fU {A:Around}{k:Nat}(hr:dG k A):A.units+1 < cLine:=oR (Nat.add_le_add_left (by decide:1<=64) _) hr.units
section
variable {X:Cx}
def pv (i:Nat){x:Str}(hN:X.N[i]?=some x:=by rfl)(hv:Ts X.env.scope x:=by first | exact Or.inl rfl | exact Or.inr 116 | exact Or.inr (Or.inr rfl))(hd:267:=by decide)
  (sR:(x == ("__classdict__":Str))=false:=by decide):PE X (.Name x pos) (gw i):=MU hN hv hd sR
end
def gy {A B:Prop}(h:B):if false=true then A else B:=by
 rw [az dj];exact h
def lB {A B:Prop}(h:A):if true=true then A else B:=by
 rw [aA rfl];exact h
def cC {c A B:Prop} [Decidable c] (h1:c->A)(h2:¬c->B):if c then A else B:=by
 by_cases h:c
 .rw [aA h];exact h1 h
 rw [az h];exact h2 h
def aE (H H':Hp):Prop:=∀b o,H b=111->H' b=111
def aE.refl (H:Hp):aE H H:=λ_ _ h=>h
def aE.trans (a:aE H H1)(b:aE H1 H2):aE H H2:=λc o h=>b c o (a c o h)
def aE.free (e:aE H H')(h:H' l=Option.none):H l=Option.none:=by
 cases q:H l with
 | none=>rfl
 | some o =>
  rw [e l o q] at h;cases h
def aE.seq {K:aV}{a:Addr}{xs:115}(e:aE H H')(h:aF K H a xs):aF K H' a xs:=by
 rcases h with (h | ⟨o,h⟩) | h
 .exact .inl (.inl (e _ _ h))
 .exact .inl (.inr ⟨o,e _ _ h⟩)
 exact .inr h
end L2
namespace HD
open PySem PySem.W
def FO (st:SharedT->Thread->Option (SharedT×Thread))(ok:Thread->Bool):Nat->SharedT->Thread->Option SharedT
 | 0,_,_=>none
 | n+1,s,t=>match through t with
  | true=>some s
  | false=>match ok t with
   | false=>none
   | true=>match st s t with
    | some (s',t')=>FO st ok n s' t'
    | none=>none
theorem Cp {tb:String->Option Builtin}{p:Program}{w:World}{n₀:Nat}{ann:z0j}:∀{n:Nat}{s s':SharedT}{t:Thread},FO (stepT (denote tb) p w) (stepOk n₀ ann) n s t=some s'->topRun tb p w n₀ ann n s.abs t=some s'.abs
 | 0,_,_,_,h=>by cases h
 | n+1,s,s',t,h=>by
  unfold FO at h;unfold topRun;cases he:through t with
  | true=>rw [he] at h;cases h;rfl
  | false =>
   rw [he] at h;cases hk:stepOk n₀ ann t with
   | false=>rw [hk] at h;cases h
   | true =>
    rw [hk] at h;cases hs:stepT (denote tb) p w s t with
    | none=>rw [hs] at h;cases h
    | some r=>obtain⟨s₂,t₂⟩:=r;rw [hs] at h;rw [stepT_spec hs];exact Cp h
def YG:List Obj->Nat->BT->BT
 | [],_,t=>t
 | o::r,i,t=>YG r (i+1) (t.ins i o)
noncomputable def CS (P:Params):BT:=YG (boot_heap P).objs.toList 0 .nil
def Et (P:Params):absHeap (CS P) 11 {}=boot_heap P:=by kernel_rfl
def NT {β:Type}:Obj->(Obj->β)->β
 | ⟨c,d,t,s⟩,k=>k ⟨c,d,t,s⟩
def qT {β:Type}:List Obj->(List Obj->β)->β
 | [],k=>k []
 | x::r,k=>NT x λy=>qT r λys=>k (y::ys)
theorem sW {β:Type}:∀(l:List Obj)(k:List Obj->β),qT l k=k l
 | [],_=>rfl
 | ⟨c,d,t,s⟩::r,k=>by
  show qT r (λys=>k (⟨c,d,t,s⟩::ys))=_;rw [sW r]
def GV (p q:Program) (loose:z0r)(Xt:Shared->Bool){α:Type}(Yf:Shared->α)(g0:Bool)(h₀:Heap)(s:Shared) :=
 ((staticsOk (importedModules p.main.body) h₀ s.heap && namesBound p s.heap && gensDone s && laidKept h₀ s.heap),openSeen q loose (importedModules p.main.body) Xt g0 s,Yf s)
def Fw {β:Type}(f:Shared->β)(s:SharedT):β:=qT (s.tree.list s.n) λl=>f ⟨⟨l.toArray,s.life⟩,s.gens,s.drawn,s.toks,s.os⟩
def Fv {β:Type}(f:Shared->β)(s:SharedT):Fw f s=f s.abs:=sW _ _
def Qj {p q:Program}{loose:z0r}{Xt:Shared->Bool}{α:Type}{Yf:Shared->α}{Ya:World->α}{N:Nat}{g0:Bool}{ann:z0j}{M:Nat}
  (Gi:∀w:World,(fencedOpening treeTable p w N).map (λs=>(s.heap,s.gens,s.drawn,s.toks))=some (boot_heap w.params,Array.mk [],boot_drawn,boot_toks))
  (size:∀w:World,((boot_heap w.params).isNs mainGlobals && (Array.mk []:Array GenState).size == 0,(boot_heap w.params).objs.size,(boot_heap w.params).nsMap mainGlobals "__annotations__")=(true,11,ann))
  (run:∀(w:World)(os:OsState),(FO (stepT (denote treeTable) p w) (stepOk 11 ann) M ⟨CS w.params,11,{},Array.mk [],boot_drawn,boot_toks,os⟩ (topStub p)).map (Fw (GV p q loose Xt Yf g0 (boot_heap w.params)))=some (true,openGood q loose,Ya w))
  (le:Nat.ble M N=true):LeftO p q loose Xt Yf Ya N g0:=λw=>by
 obtain⟨⟨h,gs,d,k,os⟩,e,e'⟩:=b9.mp (Gi w);obtain⟨rfl,rfl,rfl,rfl⟩:h=boot_heap w.params/\gs=Array.mk []/\d=boot_drawn/\k=boot_toks:=by simpa using e'
 obtain⟨z1,z2,z3⟩:_/\_/\_:=by simpa only [i4] using size w
 obtain⟨s',r0,l0⟩:=b9.mp (run w os);rw [Fv] at l0;obtain⟨l1,l2,l3⟩:_/\_/\_:=by simpa only [GV,i4] using l0
 have r:=Cp r0;have ea:SharedT.abs ⟨CS w.params,11,{},Array.mk [],boot_drawn,boot_toks,os⟩=⟨boot_heap w.params,Array.mk [],boot_drawn,boot_toks,os⟩:=by
  unfold SharedT.abs;rw [Et]
 rw [ea] at r;have r:=topRun_mono (N - M) _ _ _ _ r;rw [show M+(N - M)=N by have:=Nat.le_of_ble_eq_true le;omega] at r;have t:topFrom treeTable p w N ⟨boot_heap w.params,Array.mk [],boot_drawn,boot_toks,os⟩=some s'.abs:=by
  unfold topFrom;dsimp only;rw [z1,z2,z3,r];show (match staticsOk (importedModules p.main.body) (boot_heap w.params) s'.abs.heap && namesBound p s'.abs.heap && gensDone s'.abs && laidKept (boot_heap w.params) s'.abs.heap with | true=>_ | false=>_)=_
  rw [l1]
 unfold openEnds;rw [e];show (topFrom treeTable p w N _).map _=_;rw [t];exact congrArg some (Prod.ext l2 l3)
end HD
set_option maxHeartbeats 0
namespace HD
open PySem PySem.W L2 PySem.Challenge
def dE (P:Params)(x:Str)(t:Tok)(v:Value):DictEntry:=⟨PyData.keyHash P x,.str x t,v⟩
def top (p:Program) (i:Nat):Stmt:=p.main.body.getD i (.Pass ⟨0,0,0,0⟩)
def hX (p:Program) (i j:Nat):Stmt:=match top p i with
 | .ClassDef _ _ _ body _ _ _ _ _ _ _=>body.getD j (.Pass ⟨0,0,0,0⟩)
 | _=>.Pass ⟨0,0,0,0⟩
def posOf (s:Stmt):Pos:=match s with
 | .FunctionDef _ _ _ _ _ _ _ _ _ p=>p
 | _=>⟨0,0,0,0⟩
def cF (a:Addr)(n q:Str)(i:Nat)(l m:Int)(x y:Addr)(u v s t:Value)(z:Int)(w:Nat):Addr×Obj:=(a,⟨.type "code",none,.fields #[.str n i,.str q (i+1),.str "/claim/cut.py" (i+2),.int l 0,.int m 0,.int 0 0,.int 0 0,.int 3 0,.ref x,.bool true,.int 181 0,.ref y,u,v,s,t,.int z 0,.int l 0,.str "/claim/cut.py" w],#[]⟩)
def fF (a:Addr)(n q:Str)(s:Stmt)(m:Value):Addr×Obj:=(a,⟨.type "function",none,.func (fnOf n q (di s) (bZ s) (av s) .none .none .none m none (.ref (a-1)) .none),#[]⟩)
def dR (P:Params)(x:Str)(t:Tok)(a:Addr):DictEntry:=dE P x t (.ref a)
def m0:Value:=.str "__main__" 164
def m1:Value:=.str "wright.rules" 194
def m2:Value:=.str "wright.begin_tables" 226
def m3:Value:=.str "wright.errors" 320
def m4:Value:=.str "wright.loops" 636
def m5:Value:=.str "wright.tree_sizes" 666
def m6:Value:=.str "wright.grammar_faults" 687
def m7:Value:=.str "wright.least_trees" 714
def m8:Value:=.str "wright.grammars" 800
def m9:Value:=.str "wright.grammar_texts" 843
def u0:Value:=.str "law_wright_k19_vast_trees" 906
noncomputable def K' (p:Program)(P:Params):Frag:=[
 (2,⟨.none,none,.dict #[] 0,#[]⟩),
 (3,⟨.type "dict",none,.dict #[dE P "__name__" 165 (.str "law_wright_k19_vast_trees" 906),dE P "__doc__" 166 (.none),dE P "__package__" 167 (.none),dE P "__loader__" 168 (.builtin "__main__.__loader__#opaque"),dE P "__spec__" 169 (.none),dR P "__annotations__" 170 6,dR P "__builtins__" 171 4,dE P "__file__" 173 (.str "/claim/cut.py" 172),dE P "__cached__" 174 (.none),dR P "_wall" 193 21,dR P "heads_of" 201 26,dR P "words_in" 207 31,dR P "numbers_by_name" 213 36,dR P "standings_by_part" 225 43,dR P "found_empties" 233 48,dR P "first_places" 244 55,dR P "BeginTable" 319 105,dR P "WrightError" 339 119,dR P "NoPattern" 364 139,dR P "NoWord" 389 158,dR P "NoRow" 414 177,dR P "NoRules" 430 189,dR P "Twice" 455 208,dR P "Endless" 480 227,dR P "Unmet" 505 246,dR P "Loop" 530 265,dR P "Vast" 555 284,dR P "TooMany" 571 296,dR P "Clash" 594 313,dR P "Refused" 619 332,dR P "NoDeed" 635 344,dR P "find_loop" 643 351,dR P "steps_with_like_rows" 649 356,dR P "way_back" 665 363,dR P "least_sizes" 673 368,dR P "greatest_empty_sizes" 680 375,dR P "settled_sizes" 686 380,dE P "MOST_RULES" 690 (.int (60) 689),dR P "refuse_faults" 696 385,dR P "refuse_twice" 707 392,dR P "names_met" 713 397,dR P "least_by_part" 721 402,dR P "rule_size" 727 407,dR P "empty_by_name" 733 412,dR P "LeastTrees" 799 455,dR P "Grammar" 842 484,dR P "WAYS" 848 489,dR P "MARKS" 852 490,dE P "MOST_SIGNS" 854 (.int (14) 853),dR P "read_grammar" 860 495,dR P "read_row" 866 500,dR P "read_rules" 872 505,dR P "is_part" 879 512,dR P "comes_again" 886 519,dR P "with_added_rules" 897 526,dR P "rules_again" 905 533,dR P "_law_cell_at" 915 540,dR P "_law_stream" 926 547,dR P "_law_pool" 932 552,dR P "_law_last" 944 559,dR P "_law_rules" 963 566,dR P "_law_sum" 969 571,dR P "_law_sizes" 975 576,dR P "_law_another" 983 583,dR P "law" 989 588] 65,#[]⟩),
 (cF 20 "_wall" "_wall" 187 1 1 15 16 .none (.ref 17) (.ref 18) (.ref 19) 191 192),
 (fF 21 "_wall" "_wall" (top p 0) m0),
 (cF 25 "heads_of" "heads_of" 196 5 1 22 23 .none .none .none (.ref 24) 199 200),
 (fF 26 "heads_of" "heads_of" (top p 2) m1),
 (cF 30 "words_in" "words_in" 202 7 1 27 28 .none .none .none (.ref 29) 205 206),
 (fF 31 "words_in" "words_in" (top p 3) m1),
 (cF 35 "numbers_by_name" "numbers_by_name" 208 15 1 32 33 .none .none .none (.ref 34) 211 212),
 (fF 36 "numbers_by_name" "numbers_by_name" (top p 4) m1),
 (cF 42 "standings_by_part" "standings_by_part" 214 20 1 37 38 .none (.ref 39) (.ref 40) (.ref 41) 223 224),
 (fF 43 "standings_by_part" "standings_by_part" (top p 5) m1),
 (cF 47 "found_empties" "found_empties" 228 27 1 44 45 .none .none .none (.ref 46) 231 232),
 (fF 48 "found_empties" "found_empties" (top p 7) m2),
 (cF 54 "first_places" "first_places" 234 38 2 49 50 .none (.ref 51) (.ref 52) (.ref 53) 242 243),
 (fF 55 "first_places" "first_places" (top p 8) m2),
 (cF 66 "__init__" "BeginTable.__init__" 257 47 2 63 64 .none .none .none (.ref 65) 260 261),
 (fF 67 "__init__" "BeginTable.__init__" (hX p 9 0) m2),
 (cF 73 "find_begins" "BeginTable.find_begins" 263 58 3 68 69 .none (.ref 70) (.ref 71) (.ref 72) 272 273),
 (fF 74 "find_begins" "BeginTable.find_begins" (hX p 9 1) m2),
 (cF 80 "words_of_part" "BeginTable.words_of_part" 275 66 2 75 76 .none (.ref 77) (.ref 78) (.ref 79) 280 281),
 (fF 81 "words_of_part" "BeginTable.words_of_part" (hX p 9 2) m2),
 (cF 87 "first_words" "BeginTable.first_words" 283 69 2 82 83 .none (.ref 84) (.ref 85) (.ref 86) 288 289),
 (fF 88 "first_words" "BeginTable.first_words" (hX p 9 3) m2),
 (cF 94 "all_empty" "BeginTable.all_empty" 291 72 2 89 90 .none (.ref 91) (.ref 92) (.ref 93) 296 297),
 (fF 95 "all_empty" "BeginTable.all_empty" (hX p 9 4) m2),
 (cF 101 "words_of_parts" "BeginTable.words_of_parts" 299 75 3 96 97 .none (.ref 98) (.ref 99) (.ref 100) 305 306),
 (fF 102 "words_of_parts" "BeginTable.words_of_parts" (hX p 9 5) m2),
 (104,⟨.type "dict",none,.dict #[dE P "__module__" 252 (.str "wright.begin_tables" 226),dE P "__firstlineno__" 256 (.int (45) 255),dR P "__init__" 262 67,dR P "find_begins" 274 74,dR P "words_of_part" 282 81,dR P "first_words" 290 88,dR P "all_empty" 298 95,dR P "words_of_parts" 307 102,dR P "__static_attributes__" 312 103,dR P "__dict__" 314 106,dR P "__weakref__" 316 107,dE P "__doc__" 317 (.none)] 4,#[]⟩),
 (105,⟨.type "type",none,.cls ⟨"BeginTable",[.type "object"],[.ref 105,.type "object"],104,"BeginTable",true,[],[],false,none,false⟩,#[none,none,some (.str "BeginTable" 245),some (.str "BeginTable" 253),some (.builtin "object.__new__"),some (.bool true)]⟩),
 (106,⟨.type "getset_descriptor",none,.fields #[.str "__dict__" 313,.ref 105,.builtin "function.__dict__",.builtin "function.__dict__#set"],#[]⟩),
 (107,⟨.type "getset_descriptor",none,.fields #[.str "__weakref__" 315,.ref 105,.builtin "ExceptionGroup.__weakref__",.none],#[]⟩),
 (118,⟨.type "dict",none,.dict #[dE P "__module__" 329 (.str "wright.errors" 320),dE P "__firstlineno__" 333 (.int (78) 332),dR P "__static_attributes__" 334 117,dR P "__weakref__" 336 120,dE P "__doc__" 337 (.none)] 3,#[]⟩),
 (119,⟨.type "type",none,.cls ⟨"WrightError",[.type "ValueError"],[.ref 119,.type "ValueError",.type "Exception",.type "BaseException",.type "object"],118,"WrightError",true,[],[.ref 139,.ref 158,.ref 177,.ref 189,.ref 208,.ref 227,.ref 246,.ref 265,.ref 284,.ref 296,.ref 313,.ref 332,.ref 344],false,none,false⟩,#[some (.ref 110),none,some (.str "WrightError" 322),some (.str "WrightError" 330),286,some (.bool true)]⟩),
 (120,⟨.type "getset_descriptor",none,.fields #[.str "__weakref__" 335,.ref 119,.builtin "ExceptionGroup.__weakref__",.none],#[]⟩),
 (cF 135 "__init__" "NoPattern.__init__" 352 82 2 130 131 .none (.ref 132) (.ref 133) (.ref 134) 357 358),
 (fF 136 "__init__" "NoPattern.__init__" (hX p 12 0) m3),
 (138,⟨.type "dict",none,.dict #[dE P "__module__" 347 (.str "wright.errors" 320),dE P "__firstlineno__" 351 (.int (80) 350),dR P "__init__" 359 136,dR P "__static_attributes__" 361 137,dE P "__doc__" 362 (.none)] 2,#[]⟩),
 (139,⟨.type "type",none,.cls ⟨"NoPattern",[.ref 119],[.ref 139,.ref 119,.type "ValueError",.type "Exception",.type "BaseException",.type "object"],138,"NoPattern",true,[],[],false,none,false⟩,#[some (.ref 123),none,some (.str "NoPattern" 340),some (.str "NoPattern" 348),286,some (.bool true)]⟩),
 (cF 154 "__init__" "NoWord.__init__" 377 87 2 149 150 .none (.ref 151) (.ref 152) (.ref 153) 382 383),
 (fF 155 "__init__" "NoWord.__init__" (hX p 13 0) m3),
 (157,⟨.type "dict",none,.dict #[dE P "__module__" 372 (.str "wright.errors" 320),dE P "__firstlineno__" 376 (.int (85) 375),dR P "__init__" 384 155,dR P "__static_attributes__" 386 156,dE P "__doc__" 387 (.none)] 2,#[]⟩),
 (158,⟨.type "type",none,.cls ⟨"NoWord",[.ref 119],[.ref 158,.ref 119,.type "ValueError",.type "Exception",.type "BaseException",.type "object"],157,"NoWord",true,[],[],false,none,false⟩,#[some (.ref 142),none,some (.str "NoWord" 365),some (.str "NoWord" 373),286,some (.bool true)]⟩),
 (cF 173 "__init__" "NoRow.__init__" 402 92 2 168 169 .none (.ref 170) (.ref 171) (.ref 172) 407 408),
 (fF 174 "__init__" "NoRow.__init__" (hX p 14 0) m3),
 (176,⟨.type "dict",none,.dict #[dE P "__module__" 397 (.str "wright.errors" 320),dE P "__firstlineno__" 401 (.int (90) 400),dR P "__init__" 409 174,dR P "__static_attributes__" 411 175,dE P "__doc__" 412 (.none)] 2,#[]⟩),
 (177,⟨.type "type",none,.cls ⟨"NoRow",[.ref 119],[.ref 177,.ref 119,.type "ValueError",.type "Exception",.type "BaseException",.type "object"],176,"NoRow",true,[],[],false,none,false⟩,#[some (.ref 161),none,some (.str "NoRow" 390),some (.str "NoRow" 398),286,some (.bool true)]⟩),
 (188,⟨.type "dict",none,.dict #[dE P "__module__" 422 (.str "wright.errors" 320),dE P "__firstlineno__" 426 (.int (95) 425),dR P "__static_attributes__" 427 187,dE P "__doc__" 428 (.none)] 2,#[]⟩),
 (189,⟨.type "type",none,.cls ⟨"NoRules",[.ref 119],[.ref 189,.ref 119,.type "ValueError",.type "Exception",.type "BaseException",.type "object"],188,"NoRules",true,[],[],false,none,false⟩,#[some (.ref 180),none,some (.str "NoRules" 415),some (.str "NoRules" 423),286,some (.bool true)]⟩),
 (cF 204 "__init__" "Twice.__init__" 443 99 2 199 200 .none (.ref 201) (.ref 202) (.ref 203) 448 449),
 (fF 205 "__init__" "Twice.__init__" (hX p 16 0) m3),
 (207,⟨.type "dict",none,.dict #[dE P "__module__" 438 (.str "wright.errors" 320),dE P "__firstlineno__" 442 (.int (97) 441),dR P "__init__" 450 205,dR P "__static_attributes__" 452 206,dE P "__doc__" 453 (.none)] 2,#[]⟩),
 (208,⟨.type "type",none,.cls ⟨"Twice",[.ref 119],[.ref 208,.ref 119,.type "ValueError",.type "Exception",.type "BaseException",.type "object"],207,"Twice",true,[],[],false,none,false⟩,#[some (.ref 192),none,some (.str "Twice" 431),some (.str "Twice" 439),286,some (.bool true)]⟩),
 (cF 223 "__init__" "Endless.__init__" 468 104 2 218 219 .none (.ref 220) (.ref 221) (.ref 222) 473 474),
 (fF 224 "__init__" "Endless.__init__" (hX p 17 0) m3),
 (226,⟨.type "dict",none,.dict #[dE P "__module__" 463 (.str "wright.errors" 320),dE P "__firstlineno__" 467 (.int (102) 466),dR P "__init__" 475 224,dR P "__static_attributes__" 477 225,dE P "__doc__" 478 (.none)] 2,#[]⟩),
 (227,⟨.type "type",none,.cls ⟨"Endless",[.ref 119],[.ref 227,.ref 119,.type "ValueError",.type "Exception",.type "BaseException",.type "object"],226,"Endless",true,[],[],false,none,false⟩,#[some (.ref 211),none,some (.str "Endless" 456),some (.str "Endless" 464),286,some (.bool true)]⟩),
 (cF 242 "__init__" "Unmet.__init__" 493 109 2 237 238 .none (.ref 239) (.ref 240) (.ref 241) 498 499),
 (fF 243 "__init__" "Unmet.__init__" (hX p 18 0) m3),
 (245,⟨.type "dict",none,.dict #[dE P "__module__" 488 (.str "wright.errors" 320),dE P "__firstlineno__" 492 (.int (107) 491),dR P "__init__" 500 243,dR P "__static_attributes__" 502 244,dE P "__doc__" 503 (.none)] 2,#[]⟩),
 (246,⟨.type "type",none,.cls ⟨"Unmet",[.ref 119],[.ref 246,.ref 119,.type "ValueError",.type "Exception",.type "BaseException",.type "object"],245,"Unmet",true,[],[],false,none,false⟩,#[some (.ref 230),none,some (.str "Unmet" 481),some (.str "Unmet" 489),286,some (.bool true)]⟩),
 (cF 261 "__init__" "Loop.__init__" 518 114 2 256 257 .none (.ref 258) (.ref 259) (.ref 260) 523 524),
 (fF 262 "__init__" "Loop.__init__" (hX p 19 0) m3),
 (264,⟨.type "dict",none,.dict #[dE P "__module__" 513 (.str "wright.errors" 320),dE P "__firstlineno__" 517 (.int (112) 516),dR P "__init__" 525 262,dR P "__static_attributes__" 527 263,dE P "__doc__" 528 (.none)] 2,#[]⟩),
 (265,⟨.type "type",none,.cls ⟨"Loop",[.ref 119],[.ref 265,.ref 119,.type "ValueError",.type "Exception",.type "BaseException",.type "object"],264,"Loop",true,[],[],false,none,false⟩,#[some (.ref 249),none,some (.str "Loop" 506),some (.str "Loop" 514),286,some (.bool true)]⟩),
 (cF 280 "__init__" "Vast.__init__" 543 119 2 275 276 .none (.ref 277) (.ref 278) (.ref 279) 548 549),
 (fF 281 "__init__" "Vast.__init__" (hX p 20 0) m3),
 (283,⟨.type "dict",none,.dict #[dE P "__module__" 538 (.str "wright.errors" 320),dE P "__firstlineno__" 542 (.int (117) 541),dR P "__init__" 550 281,dR P "__static_attributes__" 552 282,dE P "__doc__" 553 (.none)] 2,#[]⟩),
 (284,⟨.type "type",none,.cls ⟨"Vast",[.ref 119],[.ref 284,.ref 119,.type "ValueError",.type "Exception",.type "BaseException",.type "object"],283,"Vast",true,[],[],false,none,false⟩,#[some (.ref 268),none,some (.str "Vast" 531),some (.str "Vast" 539),286,some (.bool true)]⟩),
 (295,⟨.type "dict",none,.dict #[dE P "__module__" 563 (.str "wright.errors" 320),dE P "__firstlineno__" 567 (.int (122) 566),dR P "__static_attributes__" 568 294,dE P "__doc__" 569 (.none)] 2,#[]⟩),
 (296,⟨.type "type",none,.cls ⟨"TooMany",[.ref 119],[.ref 296,.ref 119,.type "ValueError",.type "Exception",.type "BaseException",.type "object"],295,"TooMany",true,[],[],false,none,false⟩,#[some (.ref 287),none,some (.str "TooMany" 556),some (.str "TooMany" 564),286,some (.bool true)]⟩),
 (cF 309 "__init__" "Clash.__init__" 584 126 2 306 307 .none .none .none (.ref 308) 587 588),
 (fF 310 "__init__" "Clash.__init__" (hX p 22 0) m3),
 (312,⟨.type "dict",none,.dict #[dE P "__module__" 579 (.str "wright.errors" 320),dE P "__firstlineno__" 583 (.int (124) 582),dR P "__init__" 589 310,dR P "__static_attributes__" 591 311,dE P "__doc__" 592 (.none)] 2,#[]⟩),
 (313,⟨.type "type",none,.cls ⟨"Clash",[.ref 119],[.ref 313,.ref 119,.type "ValueError",.type "Exception",.type "BaseException",.type "object"],312,"Clash",true,[],[],false,none,false⟩,#[some (.ref 299),none,some (.str "Clash" 572),some (.str "Clash" 580),286,some (.bool true)]⟩),
 (cF 328 "__init__" "Refused.__init__" 607 131 2 323 324 .none (.ref 325) (.ref 326) (.ref 327) 612 613),
 (fF 329 "__init__" "Refused.__init__" (hX p 23 0) m3),
 (331,⟨.type "dict",none,.dict #[dE P "__module__" 602 (.str "wright.errors" 320),dE P "__firstlineno__" 606 (.int (129) 605),dR P "__init__" 614 329,dR P "__static_attributes__" 616 330,dE P "__doc__" 617 (.none)] 2,#[]⟩),
 (332,⟨.type "type",none,.cls ⟨"Refused",[.ref 119],[.ref 332,.ref 119,.type "ValueError",.type "Exception",.type "BaseException",.type "object"],331,"Refused",true,[],[],false,none,false⟩,#[some (.ref 316),none,some (.str "Refused" 595),some (.str "Refused" 603),286,some (.bool true)]⟩),
 (343,⟨.type "dict",none,.dict #[dE P "__module__" 627 (.str "wright.errors" 320),dE P "__firstlineno__" 631 (.int (134) 630),dR P "__static_attributes__" 632 342,dE P "__doc__" 633 (.none)] 2,#[]⟩),
 (344,⟨.type "type",none,.cls ⟨"NoDeed",[.ref 119],[.ref 344,.ref 119,.type "ValueError",.type "Exception",.type "BaseException",.type "object"],343,"NoDeed",true,[],[],false,none,false⟩,#[some (.ref 335),none,some (.str "NoDeed" 620),some (.str "NoDeed" 628),286,some (.bool true)]⟩),
 (cF 350 "find_loop" "find_loop" 638 137 1 347 348 .none .none .none (.ref 349) 641 642),
 (fF 351 "find_loop" "find_loop" (top p 26) m4),
 (cF 355 "steps_with_like_rows" "steps_with_like_rows" 644 141 1 352 353 .none .none .none (.ref 354) 647 648),
 (fF 356 "steps_with_like_rows" "steps_with_like_rows" (top p 27) m4),
 (cF 362 "way_back" "way_back" 650 150 3 357 358 .none (.ref 359) (.ref 360) (.ref 361) 663 664),
 (fF 363 "way_back" "way_back" (top p 28) m4),
 (cF 367 "least_sizes" "least_sizes" 668 166 1 364 365 .none .none .none (.ref 366) 671 672),
 (fF 368 "least_sizes" "least_sizes" (top p 30) m5),
 (cF 374 "greatest_empty_sizes" "greatest_empty_sizes" 674 168 1 369 370 .none (.ref 371) (.ref 372) (.ref 373) 678 679),
 (fF 375 "greatest_empty_sizes" "greatest_empty_sizes" (top p 31) m5),
 (cF 379 "settled_sizes" "settled_sizes" 681 170 3 376 377 .none .none .none (.ref 378) 684 685),
 (fF 380 "settled_sizes" "settled_sizes" (top p 32) m5),
 (cF 384 "refuse_faults" "refuse_faults" 691 183 2 381 382 .none .none .none (.ref 383) 694 695),
 (fF 385 "refuse_faults" "refuse_faults" (top p 35) m6),
 (cF 391 "refuse_twice" "refuse_twice" 697 202 1 386 387 .none (.ref 388) (.ref 389) (.ref 390) 705 706),
 (fF 392 "refuse_twice" "refuse_twice" (top p 36) m6),
 (cF 396 "names_met" "names_met" 708 209 1 393 394 .none .none .none (.ref 395) 711 712),
 (fF 397 "names_met" "names_met" (top p 37) m6),
 (cF 401 "least_by_part" "least_by_part" 716 219 1 398 399 .none .none .none (.ref 400) 719 720),
 (fF 402 "least_by_part" "least_by_part" (top p 39) m7),
 (cF 406 "rule_size" "rule_size" 722 227 2 403 404 .none .none .none (.ref 405) 725 726),
 (fF 407 "rule_size" "rule_size" (top p 40) m7),
 (cF 411 "empty_by_name" "empty_by_name" 728 229 2 408 409 .none .none .none (.ref 410) 731 732),
 (fF 412 "empty_by_name" "empty_by_name" (top p 41) m7),
 (cF 423 "__init__" "LeastTrees.__init__" 746 236 3 420 421 .none .none .none (.ref 422) 749 750),
 (fF 424 "__init__" "LeastTrees.__init__" (hX p 42 0) m7),
 (cF 430 "least_of" "LeastTrees.least_of" 752 243 2 425 426 .none (.ref 427) (.ref 428) (.ref 429) 757 758),
 (fF 431 "least_of" "LeastTrees.least_of" (hX p 42 1) m7),
 (cF 437 "hollow_of" "LeastTrees.hollow_of" 760 246 2 432 433 .none (.ref 434) (.ref 435) (.ref 436) 765 766),
 (fF 438 "hollow_of" "LeastTrees.hollow_of" (hX p 42 2) m7),
 (cF 444 "begun_place" "LeastTrees.begun_place" 768 249 3 439 440 .none (.ref 441) (.ref 442) (.ref 443) 774 775),
 (fF 445 "begun_place" "LeastTrees.begun_place" (hX p 42 3) m7),
 (cF 451 "begun_of" "LeastTrees.begun_of" 777 252 4 446 447 .none (.ref 448) (.ref 449) (.ref 450) 784 785),
 (fF 452 "begun_of" "LeastTrees.begun_of" (hX p 42 4) m7),
 (454,⟨.type "dict",none,.dict #[dE P "__module__" 741 (.str "wright.least_trees" 714),dE P "__firstlineno__" 745 (.int (234) 744),dR P "__init__" 751 424,dR P "least_of" 759 431,dR P "hollow_of" 767 438,dR P "begun_place" 776 445,dR P "begun_of" 786 452,dR P "__static_attributes__" 792 453,dR P "__dict__" 794 456,dR P "__weakref__" 796 457,dE P "__doc__" 797 (.none)] 4,#[]⟩),
 (455,⟨.type "type",none,.cls ⟨"LeastTrees",[.type "object"],[.ref 455,.type "object"],454,"LeastTrees",true,[],[],false,none,false⟩,#[none,none,some (.str "LeastTrees" 734),some (.str "LeastTrees" 742),some (.builtin "object.__new__"),some (.bool true)]⟩),
 (456,⟨.type "getset_descriptor",none,.fields #[.str "__dict__" 793,.ref 455,.builtin "function.__dict__",.builtin "function.__dict__#set"],#[]⟩),
 (457,⟨.type "getset_descriptor",none,.fields #[.str "__weakref__" 795,.ref 455,.builtin "ExceptionGroup.__weakref__",.none],#[]⟩),
 (467,⟨185,none,.seq #[.none] 0,#[]⟩),
 (cF 473 "__init__" "Grammar.__init__" 814 257 3 468 469 .none (.ref 470) (.ref 471) (.ref 472) 820 821),
 (474,⟨.type "function",none,.func (fnOf "__init__" "Grammar.__init__" (di (hX p 44 0)) (bZ (hX p 44 0)) (av (hX p 44 0)) (.ref 467) (.none) (.none) (.str "wright.grammars" 800) (none) (.ref 473) (.none)),#[]⟩),
 (cF 480 "start" "Grammar.start" 823 265 1 475 476 .none (.ref 477) (.ref 478) (.ref 479) 827 828),
 (fF 481 "start" "Grammar.start" (hX p 44 1) m8),
 (483,⟨.type "dict",none,.dict #[dE P "__module__" 809 (.str "wright.grammars" 800),dE P "__firstlineno__" 813 (.int (255) 812),dR P "__init__" 822 474,dR P "start" 829 481,dR P "__static_attributes__" 835 482,dR P "__dict__" 837 485,dR P "__weakref__" 839 486,dE P "__doc__" 840 (.none)] 4,#[]⟩),
 (484,⟨.type "type",none,.cls ⟨"Grammar",[.type "object"],[.ref 484,.type "object"],483,"Grammar",true,[],[],false,none,false⟩,#[none,none,some (.str "Grammar" 802),some (.str "Grammar" 810),some (.builtin "object.__new__"),some (.bool true)]⟩),
 (485,⟨.type "getset_descriptor",none,.fields #[.str "__dict__" 836,.ref 484,.builtin "function.__dict__",.builtin "function.__dict__#set"],#[]⟩),
 (486,⟨.type "getset_descriptor",none,.fields #[.str "__weakref__" 838,.ref 484,.builtin "ExceptionGroup.__weakref__",.none],#[]⟩),
 (489,⟨185,none,.seq #[.str "left" 845,.str "right" 846,.str "none" 847] 0,#[]⟩),
 (490,⟨185,none,.seq #[.str "*" 849,.str "+" 850,.str "?" 851] 0,#[]⟩),
 (cF 494 "read_grammar" "read_grammar" 855 271 1 491 492 .none .none .none (.ref 493) 858 859),
 (fF 495 "read_grammar" "read_grammar" (top p 49) m9),
 (cF 499 "read_row" "read_row" 861 279 3 496 497 .none .none .none (.ref 498) 864 865),
 (fF 500 "read_row" "read_row" (top p 50) m9),
 (cF 504 "read_rules" "read_rules" 867 288 3 501 502 .none .none .none (.ref 503) 870 871),
 (fF 505 "read_rules" "read_rules" (top p 51) m9),
 (cF 511 "is_part" "is_part" 873 299 1 506 507 .none (.ref 508) (.ref 509) (.ref 510) 877 878),
 (fF 512 "is_part" "is_part" (top p 52) m9),
 (cF 518 "comes_again" "comes_again" 880 301 1 513 514 .none (.ref 515) (.ref 516) (.ref 517) 884 885),
 (fF 519 "comes_again" "comes_again" (top p 53) m9),
 (cF 525 "with_added_rules" "with_added_rules" 887 303 1 520 521 .none (.ref 522) (.ref 523) (.ref 524) 895 896),
 (fF 526 "with_added_rules" "with_added_rules" (top p 54) m9),
 (cF 532 "rules_again" "rules_again" 898 314 1 527 528 .none (.ref 529) (.ref 530) (.ref 531) 903 904),
 (fF 533 "rules_again" "rules_again" (top p 55) m9),
 (cF 539 "_law_cell_at" "_law_cell_at" 908 322 2 534 535 .none (.ref 536) (.ref 537) (.ref 538) 913 914),
 (fF 540 "_law_cell_at" "_law_cell_at" (top p 57) u0),
 (cF 546 "_law_stream" "_law_stream" 916 326 2 541 542 .none (.ref 543) (.ref 544) (.ref 545) 924 925),
 (fF 547 "_law_stream" "_law_stream" (top p 58) u0),
 (cF 551 "_law_pool" "_law_pool" 927 333 2 548 549 .none .none .none (.ref 550) 930 931),
 (fF 552 "_law_pool" "_law_pool" (top p 59) u0),
 (cF 558 "_law_last" "_law_last" 933 345 2 553 554 .none (.ref 555) (.ref 556) (.ref 557) 942 943),
 (fF 559 "_law_last" "_law_last" (top p 60) u0),
 (cF 565 "_law_rules" "_law_rules" 945 353 3 560 561 .none (.ref 562) (.ref 563) (.ref 564) 961 962),
 (fF 566 "_law_rules" "_law_rules" (top p 61) u0),
 (cF 570 "_law_sum" "_law_sum" 964 371 2 567 568 .none .none .none (.ref 569) 967 968),
 (fF 571 "_law_sum" "_law_sum" (top p 62) u0),
 (cF 575 "_law_sizes" "_law_sizes" 970 373 3 572 573 .none .none .none (.ref 574) 973 974),
 (fF 576 "_law_sizes" "_law_sizes" (top p 63) u0),
 (cF 582 "_law_another" "_law_another" 976 387 1 577 578 .none (.ref 579) (.ref 580) (.ref 581) 981 982),
 (fF 583 "_law_another" "_law_another" (top p 64) u0),
 (cF 587 "law" "law" 984 392 1 584 585 .none .none .none (.ref 586) 987 988),
 (fF 588 "law" "law" (top p 65) u0)]
def as:z0o:=[2,3,20,21,25,26,30,31,35,36,42,43,47,48,54,55,66,67,73,74,80,81,87,88,94,95,101,102,104,105,106,107,118,119,120,135,136,138,139,154,155,157,158,173,174,176,177,188,189,204,205,207,208,223,224,226,227,242,243,245,246,261,262,264,265,280,281,283,284,295,296,309,310,312,313,328,329,331,332,343,344,350,351,355,356,362,363,367,368,374,375,379,380,384,385,391,392,396,397,401,402,406,407,411,412,423,424,430,431,437,438,444,445,451,452,454,455,456,457,467,473,474,480,481,483,484,485,486,489,490,494,495,499,500,504,505,511,512,518,519,525,526,532,533,539,540,546,547,551,552,558,559,565,566,570,571,575,576,582,583,587,588]
def q' (p:Program):Program:=view p [0,2,3,4,5,7,8,9,11,12,13,14,15,16,17,18,19,20,21,22,23,24,26,27,28,30,31,32,34,35,36,37,39,40,41,42,44,46,47,48,49,50,51,52,53,54,55,57,58,59,60,61,62,63,64,65]
abbrev loose:z0r:=[]
abbrev steps:Nat:=5431
abbrev bound:Nat:=11842
abbrev CD:OpenLaw:=rw_wright_k19_vast_trees
noncomputable abbrev K (P:Params):Frag:=K' pw_wright_k19_vast_trees P
theorem RJ (P:Params):as=(K P).map 56:=by kernel_rfl
noncomputable abbrev hook:Hook:=kmHook K as RJ [399,370,365]
def My:CD.wellSaid=true:=by kernel_rfl
def pre (h:CD.row.wellSaid=true->CD.row.Holds):CD.Holds:=holds_law My h
abbrev Xt:Shared->Bool:=λs=>xlAt (q' pw_wright_k19_vast_trees) [] s && recOk (RowW.records (OpenRow.toRowW (OpenLaw.row rw_wright_k19_vast_trees))) s
def run (w:World)(os:OsState):(FO (stepT (denote treeTable) pw_wright_k19_vast_trees w) (stepOk 11 (some (.ref 6))) steps ⟨CS w.params,11,{},Array.mk [],boot_drawn,boot_toks,os⟩ (topStub pw_wright_k19_vast_trees)).map
  (Fw (GV pw_wright_k19_vast_trees (q' pw_wright_k19_vast_trees) loose Xt (Hook.obs hook) true (boot_heap w.params)))=some (true,openGood (q' pw_wright_k19_vast_trees) loose,Hook.val hook w):=by
 rw [PySem.W.Fast.te10156331382660048174,PySem.W.Fast.te11892475500146522536,PySem.W.Fast.te14364793385576792824,PySem.W.Fast.te6613529449190102663]
 kernel_rfl
theorem size (w:World):((boot_heap w.params).isNs mainGlobals && (Array.mk []:Array GenState).size == 0,(boot_heap w.params).objs.size,(boot_heap w.params).nsMap mainGlobals "__annotations__")=(true,11,some (.ref 6)):=by kernel_rfl
def Gi:∀w:World,(fencedOpening treeTable pw_wright_k19_vast_trees w bound).map (λs=>(s.heap,s.gens,s.drawn,s.toks))=some (boot_heap w.params,Array.mk [],boot_drawn,boot_toks) :=
 boot_open (nofun) nofun (λs=>by kernel_rfl)
def left:LeftO (OpenRow.toRowW CD.row).prog (q' pw_wright_k19_vast_trees) loose Xt (Hook.obs hook) (Hook.val hook) bound:=Qj Gi size run nofun
def kr:DefRec:={ name := "law",params:=di (top pw_wright_k19_vast_trees 65),body:=bZ (top pw_wright_k19_vast_trees 65),scope:=av (top pw_wright_k19_vast_trees 65),pos:=posOf (top pw_wright_k19_vast_trees 65) }
def UI:defOf (q' pw_wright_k19_vast_trees) CD.row.name=some (kr,[]):=by kernel_rfl
def UH:CD.row.prog.theDef CD.row.name=some (kr.params,kr.body,kr.scope):=by kernel_rfl
def ok3:kwWritten? kr.params.kwonlyargs kr.params.kw_defaults=some []:=by kernel_rfl
def ok4:(chainsOk (q' pw_wright_k19_vast_trees) && opensWell CD.row.prog && (frees CD.row.toRowW && CD.row.within.isEmpty))=true:=by kernel_rfl
def ok5:kr.params.defaults=[]:=by kernel_rfl
def hold (h:WalkO (q' pw_wright_k19_vast_trees) loose (XL (q' pw_wright_k19_vast_trees) []) (Hook.says hook) CD.row.toRowW kr [] λf vs=>PySem.call f vs)(hw:CD.row.toRowW.promised):CD.Holds :=
 pre λMy=>holds_open (q:=q' pw_wright_k19_vast_trees) (loose:=loose) (Xt:=Xt) (XP:=XL (q' pw_wright_k19_vast_trees) []) (Yf:=Hook.obs hook) (Ya:=Hook.val hook) (YP:=Hook.says hook) (N:=bound) left (Hook.of hook) (Hook.keeps hook) (λs e=>xl_of s (rA.mp e).1) XL.keeps UI UH ok3 (λs e=>recFacts_of (rA.mp e).2) rfl My ok4 ⟨rfl,rfl,rfl,rfl,rfl,nofun⟩ hw h
end HD
set_option maxHeartbeats 4000000
namespace L2
open PySem PySem.Spec PyProof.Rows
abbrev BO:=Nat->148
def pK {w:World}{K:aV}{N:z0r}{f:Addr}{cd:Value}{E:XK}:(eY CX P w K mg base N qual scope f cd A outer s H E).JM.K=K:=rfl
def Vl {t:TS}{D:Ends}{σ:St}(h:let E:=D;t E σ H):t D σ H:=h
def Vj {t u:TS}{D:Ends}{σ:St}(h:let E:={ D with nx:=u D };t E σ H):Mm t u D σ H:=h
def Qi {t u:TS}{D:Ends}{σ:St}(h:let E:=D;let F:={ E with nx:=u E };t F σ H):Mm t u D σ H:=h
def Vk {g:TG}{x:V}{σ:St}{t:TS}{D:Ends}(h:let E:=D;g x σ H λσ2 H2=>t E σ2 H2):g x σ H λσ2 H2=>t D σ2 H2:=h
end L2
local macro_rules | `(tactic| nofun) => `(tactic| (dsimp only [L2.pK];refine L2.Vj ?_;intro _))
local macro_rules | `(tactic| ac_rfl) => `(tactic| (refine L2.Qi ?_;intro _ _))
local macro_rules | `(tactic| ac_nf0) => `(tactic| (refine L2.Vk ?_;intro _))
local macro_rules | `(tactic| ac_nf) => `(tactic| (refine L2.Vl ?_;intro _))
namespace L2
open PySem PySem.Spec PyProof.Rows
section
variable {κ:Type} [DecidableEq κ]
def ba (kvs:List (κ×V))(k:κ):Option V:=(kvs.find? λkv=>decide (kv.1=k)).map (·.2)
def bP (kvs:List (κ×V))(k:κ)(v:V):List (κ×V) :=
 if (kvs.any λkv=>decide (kv.1=k))=true then kvs.map (λkv=>if kv.1=k then (kv.1,v) else kv) else kvs++[(k,v)]
def d8 {p:κ×V}{r:List (κ×V)}{k:κ}(e:p.1=k):ba (p::r) k=some p.2:=by simp [ba,oJ,e]
def d_ {p:κ×V}{r:List (κ×V)}{k:κ}(e:¬p.1=k):ba (p::r) k=ba r k:=by simp [ba,oJ,e]
theorem ja (k:κ):∀kvs:List (κ×V),(kvs.any λkv=>decide (kv.1=k))=(ba kvs k).isSome
 | []=>rfl
 | p::r=>by
  rw [q_];by_cases e:p.1=k
  .simp only [d8 e,ff e,Bool.true_or,Option.isSome_some]
  rw [d_ e,gB e,Bool.false_or];exact ja k r
theorem xV (k j:κ)(y:V):∀kvs:List (κ×V),ba (kvs.map λkv=>if kv.1=k then (kv.1,y) else kv) j=(ba kvs j).map λx=>if j=k then y else x
 | []=>rfl
 | p::r=>by
  have ih:=xV k j y r;rw [bC];by_cases h:p.1=k
  .rw [aA h];by_cases e:p.1=j
   .rw [d8 (p:=(p.1,y)) e,d8 e,rg,aA (e.symm.trans h)]
   rw [d_ (p:=(p.1,y)) e,d_ e,ih]
  rw [az h];by_cases e:p.1=j
  .rw [d8 (p:=p) e,d8 e,rg,az (λz=>h (e.trans z))]
  rw [d_ (p:=p) e,d_ e,ih]
theorem uE (k j:κ)(y:V):∀kvs:List (κ×V),ba kvs k=none->ba (kvs++[(k,y)]) j=if j=k then some y else ba kvs j
 | [],_=>by
  by_cases e:k=j
  .rw [aA e.symm];exact d8 (p:=(k,y)) e
  rw [az (λz=>e z.symm)];exact d_ (p:=(k,y)) e
 | p::r,hn=>by
  rw [List.cons_append];have hk:¬p.1=k:=λz=>by rw [d8 z] at hn;cases hn
  rw [d_ hk] at hn;have ih:=uE k j y r hn;by_cases e:p.1=j
  .rw [d8 e,d8 e,az (λz=>hk (e.trans z))]
  rw [d_ e,d_ e,ih]
def rD (kvs:List (κ×V))(k j:κ)(y:V):ba (bP kvs k y) j=if j=k then some y else ba kvs j:=by
 unfold bP;by_cases a:(kvs.any λkv=>decide (kv.1=k))=true
 .rw [aA a,xV];rw [ja] at a;by_cases e:j=k
  .obtain⟨x,hx⟩:=i9.mp a;rw [aA e,e,hx,rg,aA rfl]
  rw [az e];cases ba kvs j with
  | none=>rfl
  | some x=>rw [rg,az e]
 rw [az a];refine uE k j y kvs ?_;rw [ja] at a;cases q:ba kvs k with
 | none=>rfl
 | some x=>rw [q] at a;exact(a rfl).elim
def dZ (kvs:List (κ×V))(k:κ)(v:V):(bP kvs k v).length<=kvs.length+1:=by
 unfold bP
 split
 .rw [aC];omega
 rw [bO,c_,ix];omega
def yi {kvs:List (κ×V)}{k:κ}(v:V)(h:ba kvs k=none):bP kvs k v=kvs++[(k,v)]:=by
 unfold bP;rw [ja,h];exact az nofun
def iJ.jf {o:Option V}{u:z0j}(r:iJ o u):o.isSome=u.isSome:=by
 cases o with
 | none=>cases u with
  | none=>rfl
  | some _=>exact(show False from r).elim
 | some _=>cases u with
  | none=>exact(show False from r).elim
  | some _=>rfl
theorem iJ.getD {o:Option V}{u:z0j}{d:V}(r:iJ o u)(rd:RelV d d'):RelV (o.getD d) (u.getD d'):=by
 cases o with
 | none=>cases u with
  | none=>exact rd
  | some _=>exact(show False from r).elim
 | some _=>cases u with
  | none=>exact(show False from r).elim
  | some _=>exact r
def KV.val {kvs:List (κ×V)}(r:KV kvs vs)(k:κ):iJ (ba kvs k) (valueAt vs k):=by
 unfold KV at r
 induction r with
 | nil=>exact True.intro
 | @cons p q ps qs h t ih =>
  obtain⟨h1,h2⟩:=h;by_cases e:p.1=k
  .have e':q.1=k:=h1.symm.trans e;have b:valueAt (q::qs) k=some q.2:=by simp [valueAt,oJ,e']
   rw [d8 e,b];exact h2
  have e':¬q.1=k:=λz=>e (h1.trans z);have b:valueAt (q::qs) k=valueAt qs k:=by simp [valueAt,oJ,e']
  rw [d_ e,b];exact ih
theorem KV.any {kvs:List (κ×V)}{vs:List (κ×Value)}(r:KV kvs vs)(k:κ):(kvs.any λkv=>decide (kv.1=k))=vs.any λkv=>decide (kv.1=k):=by
 unfold KV at r
 induction r with
 | nil=>rfl
 | cons h t ih=>rw [q_,q_,ih,h.1]
def KV.MO {kvs:List (κ×V)}{vs:List (κ×Value)}(r:KV kvs vs)(k:κ){y:V}{u:Value}(ry:RelV y u) :
  KV (kvs.map λkv=>if kv.1=k then (kv.1,y) else kv) (vs.map λkv=>if kv.1=k then (kv.1,u) else kv):=by
 unfold KV at r ⊢
 induction r with
 | nil=>exact .nil
 | @cons p q ps qs h t ih =>
  rw [bC,bC];refine .cons ?_ ih;obtain⟨h1,h2⟩:=h;by_cases e:p.1=k
  .rw [aA e,aA (h1.symm.trans e)];exact⟨h1,ry⟩
  rw [az e,az (λz=>e (h1.trans z))];exact⟨h1,h2⟩
def KV.put {kvs:List (κ×V)}(r:KV kvs vs)(k:κ){y:V}{u:Value}(ry:RelV y u):KV (bP kvs k y) (stored vs k u):=by
 unfold bP stored;rw [r.any k];by_cases e:(vs.any λkv=>decide (kv.1=k))=true
 .rw [aA e,aA e];exact r.MO k ry
 rw [az e,az e];exact gA r ⟨rfl,ry⟩
def KV.keys {kvs:List (κ×V)}{vs:List (κ×Value)}(r:KV kvs vs):kvs.map 56=vs.map 56:=by
 unfold KV at r
 induction r with
 | nil=>rfl
 | cons h t ih=>rw [bC,bC,ih,h.1]
theorem KV.length {kvs:List (κ×V)}{vs:List (κ×Value)}(r:KV kvs vs):kvs.length=vs.length:=bT r
end
def lH {w:World}{k:aR}{u:Value}(r:RelV (kV k) u):(aX P w).is k u=true:=by
 cases k with
 | inl i=>obtain⟨t,e⟩:=(show ∃t,u=Value.int i t from r);subst e;exact yD P w i t
 | inr x=>obtain⟨t,e⟩:=(show ∃t,u=Value.str x t from r);subst e;exact yC P w x t
theorem u7 {w:World}:∀{ks:List aR}{us:z0m},aY (ks.map kV) us->ItemsAre (aX P w) ks us
 | [],_,r=>by rw [jZ] at r;cases r;exact .nil
 | k::ks,_,r=>by
  rw [bC] at r;cases r with
  | cons h t=>exact .cons (lH h) (u7 t)
abbrev KT (H:Hp):List (List aR×V)->List (List aR×Addr×Value)->Prop:=Paired λp q=>p.1=q.1/\H q.2.1=some (.tup (p.1.map kV))/\RelV p.2 q.2.2
def KT.val {kvs:List (List aR×V)}{xs:List (List aR×Addr×Value)}(r:KT H kvs xs)(k:List aR):iJ (ba kvs k) ((atKey xs k).map (·.2)):=by
 induction r with
 | nil=>exact True.intro
 | @cons p q ps qs h t ih =>
  obtain⟨h1,_,h2⟩:=h;by_cases e:p.1=k
  .have e':q.1=k:=h1.symm.trans e;have b:atKey (q::qs) k=some q.2:=by simp [atKey,oJ,e']
   rw [d8 e,b];exact h2
  have e':¬q.1=k:=λz=>e (h1.trans z);have b:atKey (q::qs) k=atKey qs k:=by simp [atKey,oJ,e']
  rw [d_ e,b];exact ih
def KT.MO {kvs:List (List aR×V)}{xs:List (List aR×Addr×Value)}(r:KT H kvs xs)(k:List aR){y:V}{u:Value}(ry:RelV y u) :
  KT H (kvs.map λkv=>if kv.1=k then (kv.1,y) else kv) (xs.map (putAt k u)):=by
 induction r with
 | nil=>exact .nil
 | @cons p q ps qs h t ih =>
  rw [bC,bC];refine .cons ?_ ih;obtain⟨h1,h2,h3⟩:=h;unfold putAt;by_cases e:p.1=k
  .rw [aA e,aA (h1.symm.trans e)];exact⟨h1,h2,ry⟩
  rw [az e,az (λz=>e (h1.trans z))];exact⟨h1,h2,h3⟩
def KT.put {kvs:List (List aR×V)}{xs:List (List aR×Addr×Value)}(r:KT H kvs xs)(k:List aR){b:Addr}{y:V}{u:Value}(hb:H b=some (.tup (k.map kV)))(ry:RelV y u) :
  KT H (bP kvs k y) (storedH xs k b u):=by
 have e:(kvs.any λkv=>decide (kv.1=k))=(atKey xs k).isSome:=by
  rw [ja,(r.val k).jf,pU]
 unfold bP storedH;rw [e];by_cases q:(atKey xs k).isSome=true
 .rw [aA q,aA q];exact r.MO k ry
 rw [az q,az q];exact gA r ⟨rfl,hb,ry⟩
def KT.keeps {kvs:List (List aR×V)}{xs:List (List aR×Addr×Value)}(r:KT H kvs xs)(ht:∀b ys,H b=some (.tup ys)->H' b=some (.tup ys)):KT H' kvs xs :=
 Paired.ij r λ_ _ z=>⟨z.1,ht _ _ z.2.1,z.2.2⟩
section
variable {P:Program}{w:World}{H:Hp}{h:Heap}{a:Addr}
def K4 {u:HO}(ok:lM P w H h)(e:Rd H a u):b8 P w H h a u:=e.ok ok
def om {kvs:140}(ok:lM P w H h)(e:Rd H a (.dK kvs)):kvs.length<=sizeLine/\(a == sysModules)=false/\∃vs,KV kvs vs/\h.DictOf (aX P w) a vs :=
 show b8 P w H h a (.dK kvs) from K4 ok e
def yV {kvs:140}(ok:lM P w H h)(e:H a=184):kvs.length<=sizeLine/\(a == sysModules)=false/\∃vs,KV kvs vs/\h.DictOf (aX P w) a vs:=om ok (.inl e)
def mz {ks:List aR}(ok:lM P w H h)(e:H a=some (.tup (ks.map kV))):(tupleKind (aX P w)).is h ks a:=by
 obtain⟨_,aN,r,o,h1,h2,n,h3⟩:=(show b8 P w H h a (.tup (ks.map kV)) from ok a _ e);exact⟨o,aN.toArray,n,h1,h2,h3,by simpa using u7 r⟩
def tq {kvs:List (List aR×V)}(ok:lM P w H h)(e:Rd H a (.dT kvs)):kvs.length<=sizeLine/\(a == sysModules)=false /\
  ∃xs,KT H kvs xs/\h.DictOfH (tupleKind (aX P w)) a xs:=by
 obtain⟨z,y,xs,r,o,es,ep,h1,h2,h3,h4,h5⟩:=(show b8 P w H h a (.dT kvs) from K4 ok e);refine⟨z,y,xs,r,o,es,ep,h1,h2,h3,h4,λx hx=>?_,h5⟩;have all:∀{l:List (List aR×V)}{m:List (List aR×Addr×Value)},KT H l m->∀x∈m,(tupleKind (aX P w)).is h x.1 x.2.1:=by
  intro l m q
  induction q with
  | nil=>intro x hx;exact nomatch hx
  | @cons p q ps qs hq t ih =>
   intro x hx;rcases aS.mp hx with e | hx
   .subst e;exact mz ok (by rw [<-hq.1];exact hq.2.1)
   exact ih x hx
 exact all r x hx
def RB {kvs:List (List aR×V)}(ok:lM P w H h)(e:H a=some (.dT kvs)):kvs.length<=sizeLine/\(a == sysModules)=false /\
  ∃xs,KT H kvs xs/\h.DictOfH (tupleKind (aX P w)) a xs:=tq ok (.inl e)
end
def cq (H:Hp)(a:Addr)(y:V)(r:Option V):Prop :=
 (∃kvs k,Rd H a (.dK kvs)/\y=kV k/\r=ba kvs k)\/∃kvs k b,Rd H a (.dT kvs)/\y=.ref b/\H b=some (.tup (k.map kV))/\r=ba kvs k
def pP (H:Hp)(a:Addr)(y v:V)(H':Hp):Prop :=
 (∃kvs k,H a=184/\y=kV k/\kvs.length < sizeLine/\H'=upd H a (.dK (bP kvs k v))) \/
 ∃kvs k b,H a=some (.dT kvs)/\y=.ref b/\H b=some (.tup (k.map kV))/\kvs.length < sizeLine/\H'=upd H a (.dT (bP kvs k v))
theorem cq.k {a:Addr}{k:aR}(e:H a=184):cq H a (kV k) (ba kvs k):=.inl ⟨kvs,k,.inl e,rfl,rfl⟩
theorem pP.k {a:Addr}{kvs:140}{k:aR}{v:V}(e:H a=184)(hl:kvs.length < sizeLine):pP H a (kV k) v (upd H a (.dK (bP kvs k v))):=.inl ⟨kvs,k,e,rfl,hl,rfl⟩
section
variable {X:Cx}{ai:z0e}{σ:St}{H:Hp}{s:Shared}{a:Addr}{y v:V}{u r:Value}{o:Option V}{A:Around}{E:z0b}
def Inv.big (I:121):sysModules < s.heap.objs.size:=by
 have h:mainGlobals < s.heap.objs.size:=(I.mod.glob.keeps I.bk).lt;exact lQ nofun h
def Ef (hu:A.units+1 < cLine)(I:121)(g:cq H a y (some v))(ry:RelV y u)(h:∀w' s',Inv X ai σ H s'->RelV v w'->Q w' s') :
  wpAny 146 A (getItem (.ref a) u) Q E s:=by
 rcases g with ⟨kvs,k,e,ey,l⟩ | ⟨kvs,k,b,e,ey,eb,l⟩
 .subst ey;obtain⟨z,hd,vs,rel,dd⟩:=om I.bw e;obtain⟨w',hw,AB⟩:=iJ.some_of (v:=v) (o:=valueAt vs k) (by rw [l];exact rel.val k);exact wpAny_getItem_of (lH ry) dd.mapOf hw (h w' _ (I.tok _) AB)
 subst ey;cases (show u=Value.ref b from ry);obtain⟨z,hd,xs,rel,dd⟩:=tq I.bw e;obtain⟨w',hw,AB⟩:=iJ.some_of (v:=v) (o:=(atKey xs k).map (·.2)) (by rw [l];exact rel.val k);obtain⟨p,hp,qm⟩:=b9.mp hw;refine wpAny_getItem_heap (oO hu) (mz I.bw eb) dd hp ?_;rw [qm];exact h w' _ (I.tok _) AB
def Xg (hu:A.units+1 < cLine)(I:121)(g:cq H a y o)(ry:RelV y u)(h:∀s',Inv X ai σ H s'->Q (.bool o.isSome) s') :
  wpAny 146 A (compareOp .In u (.ref a)) Q E s:=by
 rcases g with ⟨kvs,k,e,ey,l⟩ | ⟨kvs,k,b,e,ey,eb,l⟩
 .subst ey;obtain⟨z,hd,vs,rel,dd⟩:=om I.bw e;refine wpAny_in_of (lH ry) hd dd.mapOf ?_;rw [<-(rel.val k).jf,<-l];exact h _ (I.tok _)
 subst ey;cases (show u=Value.ref b from ry);obtain⟨z,hd,xs,rel,dd⟩:=tq I.bw e;refine wpAny_in_heap (oO hu) (mz I.bw eb) hd dd ?_;have q:=(rel.val k).jf;rw [pU] at q;rw [<-q,<-l];exact h _ (I.tok _)
def Ks (hu:A.units+1 < cLine)(I:121)(g:cq H a y o)(ry:RelV y u)(h:∀s',Inv X ai σ H s'->Q (.bool (!o.isSome)) s') :
  wpAny 146 A (compareOp .NotIn u (.ref a)) Q E s:=by
 rcases g with ⟨kvs,k,e,ey,l⟩ | ⟨kvs,k,b,e,ey,eb,l⟩
 .subst ey;obtain⟨z,hd,vs,rel,dd⟩:=om I.bw e;refine wpAny_notIn_of (lH ry) hd dd.mapOf ?_;rw [<-(rel.val k).jf,<-l];exact h _ (I.tok _)
 subst ey;cases (show u=Value.ref b from ry);obtain⟨z,hd,xs,rel,dd⟩:=tq I.bw e;refine wpAny_notIn_heap (oO hu) (mz I.bw eb) hd dd ?_;have q:=(rel.val k).jf;rw [pU] at q;rw [<-q,<-l];exact h _ (I.tok _)
def qV {h':Heap}(I:121)(mu:RT (H a))(hs:Heap.SameBut a s.heap h')(he:∃q,h'.get? a=some q)(new:b8 X.prog X.w (upd H a ob) h' a ob) :
  Inv X ai σ (upd H a ob) { s with heap:=h',toks:=t' } :=
 I.write (x:=a) (e:=a) mu (.inl rfl) (λb q hb z=>(hs.2 b hb).trans z) he new
def tE {w:World}{h':Heap}{kvs:140}(z:kvs.length<=sizeLine)(hd:(a == sysModules)=false)(rel:KV kvs vs)(dd:h'.DictOf (aX P w) a vs) :
  b8 P w H' h' a (.dK kvs):=⟨z,hd,vs,rel,dd⟩
def Ee {Q:Unit->Shared->Prop}(hu:A.units+1 < cLine)(I:121)(g:pP H a y v H')(ry:RelV y u)(rv:RelV v r)(h:∀s',Inv X ai σ H' s'->Q () s') :
  wpAny 146 A (setItem (.ref a) u r) Q E s:=by
 rcases g with ⟨kvs,k,e,ey,l,eH⟩ | ⟨kvs,k,b,e,ey,eb,l,eH⟩
 .subst ey eH;obtain⟨z,hd,vs,rel,dd⟩:=yV I.bw e;have hz:vs.length<=sizeLine:=by rw [<-rel.length];exact z
  have hl:(bP kvs k v).length<=sizeLine:=by have:=dZ kvs k v;omega
  refine wpAny_setItem_pairs (hsz:=hz) (lH ry) dd λh' ID hs=>h _ ?_;have he:∃q,h'.get? a=some q:=let ⟨q,_,_,hq,_⟩:=ID;⟨q,hq⟩;exact qV I (by rw [e];exact True.intro) hs he (tE hl hd (rel.put k rv) ID)
 subst ey eH;cases (show u=Value.ref b from ry);obtain⟨z,hd,xs,rel,dd⟩:=RB I.bw e;have hz:xs.length<=sizeLine:=by rw [<-bT rel];exact z
 have hl:(bP kvs k v).length<=sizeLine:=by have:=dZ kvs k v;omega
 refine wpAny_setItem_heap (hsz:=hz) (oO hu) (mz I.bw eb) dd λh' ID hs=>h _ ?_;obtain⟨q,es,ep,hq,h2,h3,h4,_,h5⟩:=ID;refine qV I (by rw [e];exact True.intro) hs ⟨q,hq⟩ ⟨hl,hd,_,(rel.put k eb rv).keeps λc ys ec=>?_,q,es,ep,hq,h2,h3,h4,h5⟩;rw [aj (P9 ec e (λz=>nomatch z))];exact ec
end
section
variable {X:Cx}{ai:z0e}{σ:St}{H:Hp}{s:Shared}{a:Addr}{kvs:140}{k:aR}{u:Value}{A:Around}{E:z0b}
def RD (I:121)(e:Rd H a (.dK kvs))(h:∀t s',Inv X ai σ H s'->Q (.int kvs.length t) s'):wpAny 146 A (call (.builtin "len") [.ref a]) Q E s:=by
 obtain⟨z,hd,vs,rel,dd⟩:=om I.bw e;refine call_len_dict hd dd (by rw [<-rel.length];rw [iA] at z;omega) ?_;rw [<-rel.length];exact h _ _ (I.tok _)
end
def RS (i:Expr):Prop:=∀ov iv,subscripted i false ov iv=operate [ov,iv] (getItem ov iv)
def B5 {w:World}{E:z0b}{T id:String}
  (hl:typeLookup (.type T) "__getitem__"=pure (some (.builtin id)))(hs:RS slice)
  (h:wpAny 147 A (eval value env) (λo s₁=>wpAny 147 A (eval slice env) (λi s₂=>s₂.TypeIs o T/\wpAny 147 A (getItem o i) Q E s₂) E s₁) E s) :
  wpAny 147 A (eval (.Subscript value slice pos) env) Q E s:=by
 refine Subscript_ (cH h (λo s₁ h₁=>cH h₁ (λi s₂ h₂=>?_) λ_ _ x=>x) λ_ _ x=>x);obtain⟨hT,h₂⟩:=h₂;unfold subscriptTail;refine ax ?_;rw [getitemInPython_of_ne hT.not_modules];refine ax (wpAny_specialOf hT hl ?_);have fin:wpAny 147 A (subscripted slice false o i) (λr s₃=>wpAny 147 A (letTemporaryGo value o r >>= λ_=>pure r) Q E s₃) E s₂:=by
  rw [hs o i];exact wpAny_operating (cH h₂ (λr s₃ h₃=>ax (wpAny_letTemporaryGo (aK h₃))) λ_ _ x=>x)
 first
  | exact aK (ax fin)
  | exact ax (aK (ax fin))
  | exact ax fin
def yX {σ:St}{s:Shared}{a:Addr}{y:V}{o:Option V}(I:121)(g:cq H a y o):s.TypeIs (.ref a) "dict" := by
 rcases g with ⟨kvs,k,e,_,_⟩ | ⟨kvs,k,b,e,_,_,_⟩
 .obtain⟨_,_,vs,_,dd⟩:=om I.bw e;exact dd.typeIs
 obtain⟨_,_,xs,_,dd⟩:=tq I.bw e;exact dd.typeIs
inductive XDp (x:V)(S:Addr->Hp->Prop)(R:Hp->Prop):Prop
|mk(a:Addr)(H4:Hp)(e:x=.ref a)(s:S a H4)(q:R H4)
inductive XDo (S:Option V->Prop)(R:Option V->Prop):Prop
|mk(o:Option V)(s:S o)(q:R o)
inductive XDg (x:V)(S:Addr->V->Prop)(R:V->Prop):Prop
|mk(a:Addr)(v:V)(e:x=.ref a)(s:S a v)(q:R v)
inductive XR (x:V)(S:Addr->Option V->Prop)(R:Option V->Prop):Prop
|mk(a:Addr)(o:Option V)(e:x=.ref a)(s:S a o)(q:R o)
def B3 (td ty:TE):TE:=λσ H Q=>td σ H λx H1=>ty σ H1 λy H2=>XDg x (λa v=>cq H2 a y (some v)) λv=>Q v H2
def Po (ty td:TE):TE:=λσ H Q=>ty σ H λy H1=>td σ H1 λx H2=>XR x (λa o=>cq H2 a y o) λo=>Q (.bl o.isSome) H2
def BZ (ty td:TE):TE:=λσ H Q=>ty σ H λy H1=>td σ H1 λx H2=>XR x (λa o=>cq H2 a y o) λo=>Q (.bl (!o.isSome)) H2
def PH (td ty tv:TE):TS:=λD σ H=>tv σ H λv H1=>td σ H1 λx H2=>ty σ H2 λy H3=>XDp x (λa H4=>pP H3 a y v H4) λH4=>D.nx σ H4
section
variable {X:Cx}{o i e value:Expr}{pos pos' wc:Pos}{td ty tv:TE}
def eG (hu:X.A.units+1 < cLine)(ho:PE X o td)(hi:PE X i ty)(hs:RS i):PE X (.Subscript o i pos) (B3 td ty):=by
 intro ai s σ H Q I h;refine B5 PySem.F.slot_dict_getitem.lookup hs (cE (ho ai s σ H _ I h) λu s1 aW=>?_);obtain⟨x,H1,I1,rx,q1⟩:=aW;refine cE (hi ai s1 σ H1 _ I1 q1) λiv s2 aW=>?_;obtain⟨y,H2,I2,ry,a,v,ex,g,q2⟩:=aW;subst ex;obtain rfl:u=Value.ref a:=rx;exact⟨yX I2 g,Ef hu I2 g ry λw' s3 I3 AB=>⟨v,H2,I3,AB,q2⟩⟩
def mf (hu:X.A.units+1 < cLine)(hi:PE X i ty)(ho:PE X o td):PC X .In i o (Po ty td):=by
 intro ai s σ H Q I h;refine cE (hi ai s σ H _ I h) λiv s1 aW=>?_;obtain⟨y,H1,I1,ry,q1⟩:=aW;refine cE (ho ai s1 σ H1 _ I1 q1) λu s2 aW=>?_;obtain⟨x,H2,I2,rx,a,ov,ex,g,q2⟩:=aW;subst ex;obtain rfl:u=Value.ref a:=rx;exact Xg hu I2 g ry λs3 I3=>⟨.bl ov.isSome,H2,I3,rfl,q2⟩
def dP (hu:X.A.units+1 < cLine)(hi:PE X i ty)(ho:PE X o td):PC X .NotIn i o (BZ ty td):=by
 intro ai s σ H Q I h;refine cE (hi ai s σ H _ I h) λiv s1 aW=>?_;obtain⟨y,H1,I1,ry,q1⟩:=aW;refine cE (ho ai s1 σ H1 _ I1 q1) λu s2 aW=>?_;obtain⟨x,H2,I2,rx,a,ov,ex,g,q2⟩:=aW;subst ex;obtain rfl:u=Value.ref a:=rx;exact Ks hu I2 g ry λs3 I3=>⟨.bl (!ov.isSome),H2,I3,rfl,q2⟩
def gP (hu:X.A.units+1 < cLine)(ho:PE X o td)(hi:PE X i ty)(hv:PE X value tv)(hs:swapsWith value (some (.Subscript o i pos')) pos.line X.env=pure false) :
  PS X (.Assign [.Subscript o i pos'] value pos) (PH td ty tv):=by
 intro ai s σ H D I h;refine wpAny_Assign_Subscript (cE (hv ai s σ H _ I h) λr s1 aW=>?_) hs;obtain⟨v,H1,I1,rv,q1⟩:=aW;refine cE (ho ai s1 σ H1 _ I1 q1) λu s2 aW=>?_;obtain⟨x,H2,I2,rx,q2⟩:=aW;refine cE (hi ai s2 σ H2 _ I2 q2) λiv s3 aW=>?_;obtain⟨y,H3,I3,ry,a,H4,ex,g,q3⟩:=aW;subst ex;obtain rfl:u=Value.ref a:=rx;exact Ee hu I3 g ry rv λs4 I4=>⟨σ,H4,I4,q3⟩
end
def yW {w:World}(h:Heap)(hb:sysModules < h.objs.size):b8 P w H (h.push 285) h.objs.size (.dK []) :=
 ⟨d6 _,jW.mpr (dA (bp hb)),[],.nil,Heap.DictOf.new h⟩
def Fb:TE:=λ_ H Q=>∀p,H p=none->Q (.ref p) (upd H p (.dK []))
section
variable {X:Cx}{pos:Pos}
def fg:PE X (.Dict [] [] pos) Fb:=λai s σ H Q I h =>
 wpAny_Dict_empty ⟨197,_,I.laid (a:=s.heap.objs.size) (o:=.dK []) (t':=s.toks) (λ_ _ q=>a_ _ q) (aG _) (yW s.heap I.big),rfl,h _ (I.bw.fresh (aG _))⟩
end
def z9:List (TE×TE)->St->Hp->(List (V×V)->Hp->Prop)->Prop
 | [],_,H,Q=>Q [] H
 | (tk,tv)::r,σ,H,Q=>tk σ H λx H1=>tv σ H1 λy H2=>z9 r σ H2 λps H3=>Q ((x,y)::ps) H3
abbrev VV:List (V×V)->List (Value×Value)->Prop:=Paired λp q=>RelV p.1 q.1/\RelV p.2 q.2
def Tu (X:Cx)(pos:Pos)(keys:List (Option Expr))(values:z0p)(Mj:List (TE×TE)):Prop :=
 ∀(ai:z0e)(s:Shared)(σ:St)(H:Hp)(Q:List (V×V)->Hp->Prop),121->z9 Mj σ H Q ->
  wpAny 146 X.A (evalPairs (pairTrees keys values X.env pos)) (λvs s'=>∃ps H',Inv X ai σ H' s'/\VV ps vs/\Q ps H') X.xe s
def Jq:Tu X pos [] [] []:=λai s σ H Q I h=>pairTrees_nil_walk ⟨[],H,I,.nil,h⟩
def F5 {k v:Expr}{ks:List (Option Expr)}{tk tv:TE}(hk:PE X k tk)(hv:PE X v tv)(hr:Tu X pos ks vs Mj) :
  Tu X pos (some k::ks) (v::vs) ((tk,tv)::Mj):=λai s σ H Q I h =>
 pairTrees_cons_walk (cE (hk ai s σ H _ I h) λu s1 ⟨x,H1,I1,rx,q1⟩=>cE (hv ai s1 σ H1 _ I1 q1) λw2 s2 ⟨y,H2,I2,ry,q2⟩ =>
  cE (hr ai s2 σ H2 _ I2 q2) λws s3 ⟨ps,H3,I3,rel,q3⟩=>⟨(x,y)::ps,H3,I3,.cons ⟨rx,ry⟩ rel,q3⟩)
def mj (kvs more:140):140:=more.foldl (λbG kv=>bP bG kv.1 kv.2) kvs
def KV.merge:∀{more:140}{rs:List (aR×Value)}{kvs:140}{vs:List (aR×Value)},KV more rs->KV kvs vs->KV (mj kvs more) (merged vs rs):=by
 intro more rs kvs vs r;unfold KV at r
 induction r generalizing kvs vs with
 | nil=>intro q;exact q
 | @cons p q ps qs h t ih =>
  intro r0;have e:KV (bP kvs p.1 p.2) (stored vs q.1 q.2):=by
   have:=r0.put p.1 h.2;rw [<-h.1];exact this
  exact ih e
theorem lG:∀(more kvs:140),(mj kvs more).length<=kvs.length+more.length
 | [],kvs=>by show kvs.length<=kvs.length+0;omega
 | p::r,kvs=>by
  have h1:=lG r (bP kvs p.1 p.2);have h2:=dZ kvs p.1 p.2;show (mj (bP kvs p.1 p.2) r).length<=_;rw [c_];omega
theorem tK {w:World}:∀{kvs:140}{ws:List (Value×Value)},VV (kvs.map λkv=>(kV kv.1,kv.2)) ws->∃rs,Carries (aX P w) ws rs/\KV kvs rs
 | [],_,r=>by rw [jZ] at r;cases r;exact⟨[],True.intro,.nil⟩
 | p::kvs,_,r=>by
  rw [bC] at r;cases r with
  | @cons a b as bs h t =>
   obtain⟨rs,c,q⟩:=tK (P:=P) (w:=w) t;obtain⟨b1,b2⟩:=b;exact⟨(p.1,b2)::rs,⟨lH h.1,rfl,c⟩,.cons ⟨rfl,h.2⟩ q⟩
def Pm (Mj:List (TE×TE)):TE:=λσ H Q=>∀p,H p=none->z9 Mj σ (upd H p (.dK [])) λps H2=>H2 p=some (.dK [])/\∃kvs:140,ps=kvs.map (λkv=>(kV kv.1,kv.2))/\kvs.length<=15/\Q (.ref p) (upd H2 p (.dK (mj [] kvs)))
def Jz {keys:List (Option Expr)}{values:z0p}(h:Tu X pos keys values Mj)(qE:keys.all (·.isSome)=true)(hl:keys.length=values.length)(h0:keys≠[])
  (WI:keys.length<=15):PE X (.Dict keys values pos) (Pm Mj):=by
 intro ai s σ H Q I q;have hn:=I.bw.fresh (aG s.heap.objs.size);have I1:=I.laid (a:=s.heap.objs.size) (o:=.dK []) (h':=s.heap.push 285) (t':=s.toks) (λ_ _ q=>a_ _ q) (aG _) (yW s.heap I.big);refine wpAny_Dict_walk (knd:=aX X.prog X.w) qE hl h0 WI (cE (h ai _ σ _ _ I1 (q _ hn)) λws s2 aW=>?_);obtain⟨ps,H2,I2,rel,e,kvs,ep,lk,q2⟩:=aW;subst ep;obtain⟨rs,c,rk⟩:=tK (P:=X.prog) (w:=X.w) rel;obtain⟨z,hd,vs0,r0,dd⟩:=yV I2.bw e;cases r0;refine⟨rs,c,dd,λh' ID hs=>⟨197,_,?_,rfl,q2⟩⟩;have hz:(mj [] kvs).length<=sizeLine:=by
  have h1:=lG kvs [];rw [ix] at h1;rw [iA];omega
 have he:∃q,h'.get? s.heap.objs.size=some q:=let ⟨q,_,_,hq,_⟩:=ID;⟨q,hq⟩;exact qV I2 (by rw [e];exact True.intro) hs he (tE hz hd (rk.merge .nil) ID)
structure M1 (X:Cx)(o:Expr)(m:Str)(apos:Pos)(e:Expr)(fh:Pos):Prop where
 base:attributeBase o m X.env (eval o X.env)=eval o X.env
 SS:((backTo fh (starEach [e] X.env)).all (λx=>!x.1) && (backToKw fh (keywordEach [] X.env)).all (λx=>x.1.isSome)
  && decide (([e]:z0p).length+([]:List Keyword).length+(if ([]:List Keyword).isEmpty then 0 else 1) < 30))=true
 line:(apos.endLine == fh.line)=true
 trees:backTo fh (starEach [e] X.env)=[(false,eval e X.env)]
structure M2 (X:Cx)(o:Expr)(m:Str)(apos:Pos)(e f:Expr)(fh:Pos):Prop where
 base:attributeBase o m X.env (eval o X.env)=eval o X.env
 SS:((backTo fh (starEach [e,f] X.env)).all (λx=>!x.1) && (backToKw fh (keywordEach [] X.env)).all (λx=>x.1.isSome)
  && decide (([e,f]:z0p).length+([]:List Keyword).length+(if ([]:List Keyword).isEmpty then 0 else 1) < 30))=true
 line:(apos.endLine == fh.line)=true
 trees:backTo fh (starEach [e,f] X.env)=[(false,eval e X.env),(false,eval f X.env)]
def Tv (H:Hp)(a:Addr):Prop:=(∃kvs,Rd H a (.dK kvs))\/∃kvs,Rd H a (.dT kvs)
def Bd {σ:St}{s:Shared}{a:Addr}(I:121)(d:Tv H a) :
  s.TypeIs (.ref a) "dict" /\ (∀b,Value.ref a=.ref b->∃ob,s.heap.get? b=some ob/\ob.dict=none)/\(a == sysModules)=false:=by
 rcases d with ⟨kvs,e⟩ | ⟨kvs,e⟩
 .obtain⟨_,hd,vs,_,dd⟩:=om I.bw e;refine⟨dd.typeIs,λb q=>?_,hd⟩;cases q;obtain⟨ob,_,_,h1,h2,_⟩:=dd;exact⟨ob,h1,h2.2.1⟩
 obtain⟨_,hd,xs,_,dd⟩:=tq I.bw e;refine⟨dd.typeIs,λb q=>?_,hd⟩;cases q;obtain⟨ob,_,_,h1,h2,_⟩:=dd;exact⟨ob,h1,h2.2.1⟩
section
variable {X:Cx}{ai:z0e}{σ:St}{H:Hp}{s:Shared}{a:Addr}{y d:V}{u r:Value}{o:Option V}{A:Around}{E:z0b}
def Oa (hu:A.units+1 < cLine)(I:121)(g:cq H a y o)(ry:RelV y u)(rd:RelV d r)(h:∀w' s',Inv X ai σ H s'->RelV (o.getD d) w'->Q w' s') :
  wpAny 146 A (call (.builtin "dict.get") [.ref a,u,r]) Q E s:=by
 rcases g with ⟨kvs,k,e,ey,l⟩ | ⟨kvs,k,b,e,ey,eb,l⟩
 .subst ey;obtain⟨z,hd,vs,rel,dd⟩:=om I.bw e;refine call_meetsIn PySem.F.slot_dict_get dd.typeIs PySem.F.entry_dict_get (PySem.F.args_dict_get_3 _ _ _) (meets_dict_get_default (aX X.prog X.w) a (lH ry) hd r) ⟨_,dd.mapOf,h _ _ (I.tok _) ?_⟩;rw [l];exact(rel.val k).getD rd
 subst ey;cases (show u=Value.ref b from ry);obtain⟨z,hd,xs,rel,dd⟩:=tq I.bw e;refine call_meetsIn PySem.F.slot_dict_get dd.typeIs PySem.F.entry_dict_get (PySem.F.args_dict_get_3 _ _ _) (meetsH_dict_get_default (tupleKind (aX X.prog X.w)) a b hd r) ⟨oO hu,k,xs,mz I.bw eb,dd,h _ _ (I.tok _) ?_⟩;rw [l];exact(rel.val k).getD rd
end
def Mq (td ty tx:TE):TE:=λσ H Q=>td σ H λx H1=>Tq x (Tv H1) λa=>ty σ H1 λy H2=>tx σ H2 λz H3=>XDo (cq H3 a y) λo=>Q (o.getD z) H3
section
variable {X:Cx}{o e f:Expr}{apos fh:Pos}{td ty tx:TE}
def r9 (hu:X.A.units+1 < cLine)(ho:PE X o td)(he:PE X e ty)(hf:PE X f tx)(m:M2 X o "get" apos e f fh):PE X (.Call (.Attribute o "get" apos) [e,f] [] fh) (Mq td ty tx):=by
 intro ai s σ H Q I h;refine wpAny_Call_method m.base m.SS m.line zM PySem.F.slot_dict_get PySem.F.type_dict_get (cE (ho ai s σ H _ I h) λu s1 aW=>?_);obtain⟨x,H1,I1,rx,a,ex,d,q1⟩:=aW;subst ex;obtain rfl:u=Value.ref a:=rx;obtain⟨t1,t2,_⟩:=Bd I1 d;refine⟨t1,t2,?_⟩;rw [m.trees];refine vQ rfl (vI (pV (cE (he ai s1 σ H1 _ I1 q1) λiv s2 ⟨y,H2,I2,ry,q2⟩ =>
  pV (cE (hf ai s2 σ H2 _ I2 q2) λfv s3 ⟨z,H3,I3,rz,ov,g,q3⟩=>rh ?_))))
 exact Oa hu I3 g ry rz λw' s4 I4 AB=>⟨_,H3,I4,AB,q3⟩
end
section
variable {X:Cx}{ai:z0e}{σ:St}{H:Hp}{s:Shared}{a:Addr}{kvs:140}{A:Around}{E:z0b}
end
section
variable {X:Cx}{ai:z0e}{σ:St}{H:Hp}{s:Shared}{a:Addr}{y:V}{u:Value}{A:Around}{E:z0b}
end
open PySem
def wZ:typeLookup (.type "list") "keys"=pure none:=by rw [typeLookup_type,builtinLookup_eq_fast];kernel_rfl
def w5:typeLookup (.type "list") "__getattr__"=pure none:=by rw [typeLookup_type,builtinLookup_eq_fast];kernel_rfl
section
variable {prog:Program}{w:World}{A:Around}{E:z0b}{h:Heap}{g:Array GenState}{d:Drawn}{t:Nat}{os:OsState}{a:Addr}{o:Obj}
def Fh:isSubtype (.type "AttributeError") (.type "AttributeError")=pure true:=by rw [isSubtype_type];kernel_rfl
def MY {tk:Tok}:ownMembersOf (.type "AttributeError") [.str m tk]=#[unsetMember,unsetMember]:=by kernel_rfl
def Hw {tk:Tok}:firstArgMember (.type "AttributeError") [.str m tk]=pure .none:=by kernel_rfl
def AE {α:Type}{self:Value}{name msg:Str}{Q:α->Shared->Prop}(hm:msg.length<=sizeLine)(hh:A.handled=none)
  (hq:∀h' t' e oe,(∀b o,h.get? b=111->h'.get? b=111)->h'.get? e=some oe->oe.cls=.type "AttributeError" -> E (.ref e) ⟨h',g,d,t',os⟩) :
  wpAny 147 A (raiseAttrError self name msg) Q E ⟨h,g,d,t,os⟩:=by
 have f1:=Fh;unfold raiseAttrError newExc;refine ax (wpAny_mkStr ?_ hm);have fe:=Hw (m:=msg) (tk:=t);rw [MY]
 repeat (any_goals (first | assumption | wp_step))
 unfold raiseNew;refine ax (wpAny_handled ?_);rw [hh];refine ax (aK ?_);refine wpAny_throw ?_;refine hq _ _ _ _ (λb o q=>?_) (qZ _ (cu _ rfl) rfl) rfl;have lt:=aP q;rw [jY _ _ (by rw [i5];exact iw (vG lt))];exact a_ _ (a_ _ q)
def A9 {tk:Tok}{n:Nat}{Q:Fin->Shared->Prop}(hx:h.get? a=some { cls:=.type "list",data:=.seq aN n })(hh:A.handled=none)
  (hq:∀h' t' e oe,(∀b o,h.get? b=111->h'.get? b=111)->h'.get? e=some oe->oe.cls=.type "AttributeError" -> E (.ref e) ⟨h',g,d,t',os⟩) :
  wpAny 147 A (Builtin.«object.__getattribute__» ⟨[.ref a,.str "keys" tk],[]⟩) Q E ⟨h,g,d,t,os⟩:=by
 have hT:(⟨h,g,d,t,os⟩:Shared).TypeIs (.ref a) "list" := ⟨_,hx,rfl⟩;have f4:=wZ
 repeat (any_goals (first | assumption | wp_step))
 exact AE nofun hh hq
def pD {n:Nat}{Q:z0j->Shared->Prop}(hx:h.get? a=some { cls:=.type "list",data:=.seq aN n })(hh:A.handled=none)
  (hq:∀h' t',(∀b o,h.get? b=111->h'.get? b=111)->Q none ⟨h',g,d,t',os⟩):wpAny 147 A (getAttr? (.ref a) "keys") Q E ⟨h,g,d,t,os⟩:=by
 have hT:∀t',(⟨h,g,d,t',os⟩:Shared).TypeIs (.ref a) "list" := λt'=>⟨_,hx,rfl⟩;have f1:=Fh;have f2:=vX.lookup;have f3:=vX.bind (.ref a);have f4:=w5;unfold getAttr? getAttrBy? getAttrBy;refine ax (wpAny_mkText (ax (j4 (jI (ax (lP (hT _) ?_))))));rw [f2];refine ax (aK ?_);show wpAny _ _ (getAttrByItsOwn _ _ _ _ _ _) _ _ _;unfold getAttrByItsOwn;refine ax (aK (a:=none) (ax (j4 (jI ?_))));show wpAny _ _ (boundAndCalled _ _ _) _ _ _;unfold boundAndCalled;rw [f3];refine ax (aK (fC (pX vX.plain F.entry_list_ga (vX.check _ _ _ _ _ _ _ _ (hT _) (F.args_list_getattribute_2 _ _) (A9 hx hh λh' t' e oe k ee ec=>?_)))));have te:(⟨h',g,d,t',os⟩:Shared).TypeIs (.ref e) "AttributeError" := ⟨oe,ee,ec⟩;show wpAny _ _ (getattributeRaised _ _ _ _ _ _ _) _ _ _;unfold getattributeRaised;refine ax (wpAny_isInstance te f1 ?_);rw [aA rfl];show wpAny _ _ (typeLookup _ _ >>= _) _ _ _;rw [f4];refine ax (aK ?_);show wpAny _ _ (throw _) _ _ _;refine wpAny_throw ?_;refine ax (wpAny_isInstance te f1 ?_);rw [aA rfl];exact aK (hq h' t' k)
end
def eW:plainId "dict.update.loop"=true:=by decide +kernel
def kU:entryFor table "dict.update.loop"=some Builtin.«dict.update.loop»:=entryFor_of_tree (nofun)
section
variable {prog:Program}{w:World}{K:Type} [DecidableEq K] {knd:KeyKind prog w K}{A:Around}{E:z0b}
def mU (knd:KeyKind prog w K)(h:Heap)(u:Value)(kv:K×Value):Prop :=
 ∃t key n o,u=.ref t/\knd.is kv.1 key=true/\h.get? t=111/\o.cls=185 /\ o.data=.seq #[key,kv.2] n
def mU.keep {h h':Heap}{u:Value}(p:mU knd h u kv)(k:∀b o,o.cls=185 -> h.get? b=111->h'.get? b=111):mU knd h' u kv :=
 let ⟨t,key,n,o,a,b,c,d,e⟩:=p;⟨t,key,n,o,a,b,k t o d c,d,e⟩
def HF {R:Result->Shared->Prop}{d it l:Addr}{items:z0k}(hh:A.handled=none):∀(more:List (K×Value)) (i:Nat)(s:Shared)(kvs:List (K×Value)) (j:Int)(tk:Tok),items.size=i+more.length ->
  s.heap.DictOf knd d kvs->s.heap.IsListIter it l i->s.heap.IsList l items->(∀m kv,more[m]?=some kv->∃u,items[i+m]?=some u/\mU knd s.heap u kv)->kvs.length+more.length<=sizeLine ->
  (∀h' t',h'.DictOf knd d (more.foldl (λa p=>stored a p.1 p.2) kvs)->(∀b o,b≠d->b≠it->178->h'.get? b=111)->R (.ok (.ret .none)) { s with heap:=h',toks:=t' }) ->
  codeAny 147 A (.builtin "dict.update.loop" ⟨[.ref d,.ref it,.int j tk,.none],[]⟩) R s:=by
 intro more
 induction more with
 | nil =>
  intro i s kvs j tk hi hd hit hl hp hz hR;refine oH kU ?_;rw [ro eW _];unfold Builtin.«dict.update.loop»;have hs:items[i]?=none:=Array.getElem?_eq_none (by rw [hi];exact aG _);refine ax (vP hh hit hl hs λh1 eb=>?_);have nd:d≠it:=λz=>by
   obtain⟨o,_,_,q,_,c,_⟩:=hd;obtain⟨o',q',_,c'⟩:=hit;rw [z,q'] at q;cases q;rw [c'] at c;cases c
  show wpAny _ _ (Builtin.Dict.addKeywords d [] >>= _) _ _ _;exact ax (aK (aK (hR h1 s.toks (hd.extBut eb nd) λb o n1 n2 q=>eb b o n2 q)))
 | cons kv more ih =>
  intro i s kvs j tk hi hd hit hl hp hz hR;refine oH kU ?_;rw [ro eW _];unfold Builtin.«dict.update.loop»;obtain⟨u,hu,t,key,n,o,rfl,hk,ho,hc,xl⟩:=hp 0 kv rfl;refine ax (wpAny_pyNext_list_item hit hl hu λh1 Vt sb=>?_);have nd:d≠it:=λz=>by
   obtain⟨o,_,_,q,_,c,_⟩:=hd;obtain⟨o',q',_,c'⟩:=hit;rw [z,q'] at q;cases q;rw [c'] at c;cases c
  have n2:∀b o,(o.cls=185 \/ o.cls=.type "list")->178->b≠d/\b≠it:=by
   intro b o c q;constructor
   .intro z;obtain⟨o',q',c'⟩:=hd.typeIs;rw [z,q'] at q;cases q;rw [c'] at c;rcases c with c | c <;> exact absurd c nofun
   intro z;obtain⟨o',q',c',_⟩:=hit;rw [z,q'] at q;cases q;rw [c'] at c;rcases c with c | c <;> exact absurd c nofun
  have nt:∀b o,o.cls=185 -> 178->b≠d/\b≠it:=λb o c q=>n2 b o (.inl c) q;have nl:l≠d/\l≠it:=by
   obtain⟨o,q,c,_⟩:=hl;exact n2 l o (.inr c) q
  have QR:h1.get? t=111:=(sb.2 t (nt t o hc ho).2).trans ho;have Q9:h1.DictOf knd d kvs:=hd.sameBut sb nd;refine ax (jI (ax (wpAny_tryCatch ?_)));unfold Builtin.Dict.pairItems;refine ax (lP (T := "tuple") ⟨o,QR,hc⟩ ?_);rw [aA nofun];refine ax (jU QR xl (aK ?_));show wpAny _ _ (holding [key,kv.2] (dictSet d key kv.2)) _ _ _;rw [c_] at hz hi;refine jI (wpAny_dictSet_pairs (s:={ s with heap:=h1 }) hk Q9 (λh2 hd2 PF=>?_) ∅);have kk:∀b o,b≠d->b≠it->178->h2.get? b=111:=λb o n1 n2 q=>(PF.2 b n1).trans ((sb.2 b n2).trans q);have ln:(stored kvs kv.1 kv.2).length<=kvs.length+1:=by
   unfold stored
   split
   .simp
   simp
  refine aK ⟨oE eW _,ih (i+1) _ _ _ _ ∅ hd2 (Vt.at λo q=>(PF.2 it (dA nd)).trans q) (hl.at λo q=>kk l o nl.1 nl.2 q) (λm Vp e=>?_) ∅ λh3 t3 ir k3=>?_⟩
  .obtain⟨u',e1,e2⟩:=hp (m+1) Vp e;exact⟨u',by rw [<-e1];congr 1;omega,e2.keep λb o c q=>kk b o (nt b o c q).1 (nt b o c q).2 q⟩
  exact hR h3 t3 ir λb o n1 n2 q=>k3 b o n1 n2 (kk b o n1 n2 q)
def Ac:(Value.type "list" != Value.type "dict")=true:=by decide
def tM {s:Shared}{items:z0k}{n:Nat}{more:List (K×Value)}(knd:KeyKind prog w K)(hh:A.handled=none)(hx:s.heap.get? l=some { cls:=.type "list",data:=.seq items n })
  (hi:items.size=more.length)(hp:∀(m:Nat) kv,more[m]?=some kv->∃u,items[m]?=some u/\mU knd s.heap u kv)(hz:more.length<=sizeLine)
  (h:∀h' t',h'.DictOf knd s.heap.objs.size (more.foldl (λa p=>stored a p.1 p.2) [])->(∀b o,178->h'.get? b=111)->Q (197) { s with heap:=h',toks:=t' }) :
  wpAny 147 A (call (.type "dict") [.ref l]) Q E s:=by
 refine callType_codes (Q₁:=λobj s₁=>obj=197/\s₁={ s with heap:=s.heap.push 285 }) F.kt_called_dict (F.kt_typeCall_dict_1 _) F.entry_dict_init (kt_code_dict_new _ ⟨rfl,rfl⟩) ?_;rintro obj s₁ ⟨rfl,rfl⟩;have A2:(s.heap.push 285).DictOf knd s.heap.objs.size []:=Heap.DictOf.new s.heap;have l0:=a_ 285 hx;refine⟨A2.typeIs,F.args_dict_init_2 _ _,?_⟩;unfold Builtin.«dict.__init__» Builtin.Dict.selfAndRest;refine ax (ax (wpAny_notOrdered_dict A2.typeIs (aK ?_)));show wpAny _ _ (Builtin.Dict.updateFrom "dict.__init__" s.heap.objs.size (.ref l) [] .none) _ _ _;unfold Builtin.Dict.updateFrom;refine ax (lP (T := "list") ⟨_,l0,rfl⟩ ?_);rw [aA Ac];refine ax (pD l0 hh λh1 t1 k1=>?_);refine ax (jo ?_);have l1:=k1 _ _ l0;refine ax (jV ⟨_,l1,rfl,_,rfl⟩ ?_);have k2:∀b o,178->(h1.push 302).get? b=111:=λb o q=>a_ _ (k1 _ _ (a_ _ q));refine aK ⟨oE eW _,HF (knd:=knd) (A:=A.in1) (l:=l) (items:=items) (show A.in1.handled=none from hh) more 0 _ [] _ _ (by rw [hi,lR]) ?_ ⟨_,cu _ rfl,rfl,rfl⟩ ⟨_,k2 _ _ hx,rfl,n,rfl⟩ (λm kv e=>?_) (by simpa using hz) λh' t' hd k3=>?_⟩
 .obtain⟨o,es,ep,q,r⟩:=A2;exact⟨o,es,ep,a_ _ (k1 _ _ q),r⟩
 .obtain⟨u,e1,e2⟩:=hp m kv e;exact⟨u,by rw [lR];exact e1,e2.keep λb o _ q=>k2 b o q⟩
 refine⟨rfl,h h' t' hd λb o q=>k3 b o (bp (aP q)) ?_ (k2 b o q)⟩;have:=aP (k1 _ _ (a_ 285 q));exact bp this
end
def EB (X:Cx)(ifs:z0p)(t:TT):Prop :=
 ∀(ai:z0e)(s:Shared)(σ:St)(H:Hp)(Q:Bool->Hp->Prop),121->t σ H Q ->
  wpAny 146 X.A (forIn ifs true λc r=>if r=true then do let ok <-isTrue c X.env (eval c X.env);pure (ForInStep.yield ok) else pure (ForInStep.yield r)) (TP X ai σ Q) X.xe s
def jc:TT:=λ_ H Q=>Q true H
def cJ {X:Cx}:EB X [] jc:=λ_ _ _ H _ I h=>wpAny_tests_nil ⟨H,I,h⟩
def gR {X:Cx}{c:Expr}{t:TT}(h:PT X c t):EB X [c] t:=λai s σ H Q I hw=>wpAny_tests_one (h ai s σ H Q I hw)
def qp {w:World}{R:Result->Shared->Prop}(I:Nat->Shared->Prop)
  (turn:∀n s,I n s->wpAny 147 A (pyNext it) (λr s₁=>match r with
   | none=>R (.ok .next) s₁
   | some v=>wpAny 147 A (letOwnedTupleGo target it v) (λ_ s₁=>wpAny 147 A (assign target env v) (λ_ s₂ =>
     wpAny 147 A (forIn ifs true λc r=>if r=true then do let ok <-isTrue c env (eval c env);pure (ForInStep.yield ok) else pure (ForInStep.yield r)) (λok s₃ =>
      if ok=true then wpAny 147 A (eval elt env) (λx s₄ =>
       wpAny 147 A (call (.builtin "list.append") [bG,x]) (λ_ s₅=>∃m,m < n/\I m s₅) (λ_ _=>False) s₄) (λ_ _=>False) s₃
      else ∃m,m < n/\I m s₃) (λ_ _=>False) s₂) (λ_ _=>False) s₁) (λ_ _=>False) s₁) (λ_ _=>False) s)
  (n:Nat)(h:I n s) :
  codeAny 147 A (.compLoop (.ListComp elt [⟨target,iter,ifs,0⟩] scope pos) 0 it bG env) R s:=by
 refine codeAny_loop rfl I (λn s hI=>?_) n h;show wpAny _ A ((compTurn (.ListComp elt [⟨target,iter,ifs,0⟩] scope pos) 0 it bG env).onRaise (λx=>do noteFrame x env;theTreesLotGoes x)) _ _ s;refine wpAny_noted ?_;rw [compTurn_list];refine ax (wpAny_standAt (ax (cH (turn n s hI) (λr s₁ h₁=>?_) λ_ _ h'=>h'.elim)));cases r with
 | none=>exact aK h₁
 | some v =>
  refine ax (cH h₁ (λ_ s₂ h₂=>?_) λ_ _ h'=>h'.elim);refine ax (cH h₂ (λ_ s₂ h₂=>ax (cH h₂ (λok s₃ h₃=>?_) λ_ _ h'=>h'.elim)) λ_ _ h'=>h'.elim);cases ok with
  | false=>exact aK ⟨rfl,h₃⟩
  | true =>
   exact ax (ax (cH h₃ (λx s₄ h₄=>ax (cH h₄ (λ_ s₅ h₅=>aK (aK ⟨rfl,h₅⟩)) λ_ _ h'=>h'.elim)) λ_ _ h'=>h'.elim))
def uT {X:Cx}{a:Expr}{ta:TE}(K:aV)(ha:PE X a ta)(he:∀whole,isTrue a X.env whole=(do let v <-whole;standAt a.pos;holding [v] (truthy v)))(hK:X.K=K:=by rfl) :
  PT X a (λσ H Q=>ta σ H λx H'=>∃k,EA K x H' k/\Q k H'):=by
 subst hK;exact iD ha he
def Ds {X:Cx}(hu:X.A.units < cLine):oy X (compareOp .Eq) (λx y H Q=>∃a b xs,x=.ref a/\y=.ref b/\aF X.K H a xs/\aF X.K H b []/\Q (.bl (xs.isEmpty)) H):=by
 intro ai s σ H x y v u Q I rx ry h;obtain⟨a,b,xs,rfl,rfl,ha,hb,q⟩:=h;cases rx;cases ry;obtain⟨aN,r,pl,hz⟩:=I.list ha;obtain⟨fK,r2,AG,Sv⟩:=I.list hb;have e2:fK=[]:=aY.zero r2;subst e2;have bN:=r.length;cases xs with
 | nil =>
  have e:aN=[]:=aY.zero r;subst e;refine SeqAt.eq_listAt (e:=λ_=>true) pl.isList AG.isList rfl hu (λj h1 _=>absurd h1 125) ⟨.bl true,H,I,rfl,q⟩
 | cons y ys =>
  refine SeqAt.eq_list_lengthsAt pl.isList AG.isList ?_ hu ⟨.bl false,H,I,rfl,q⟩;rw [cb,cb,<-bN];simp
structure KH (env:Env)(scope:Scope)(cl:z0f):Prop where
 eq:closureFor scope env=pure cl
 sub:∀y c,cl.lookup y=some c->env.cells.lookup y=some c
 all:∀y,(y,NameKind.free)∈scope.names->∃c,cl.lookup y=some c
def jB {y n:Str}{c:Addr}{l:z0f}:((n,c)::l).lookup y=if y=n then some c else l.lookup y:=by
 by_cases h:y=n
 .rw [aA h];simp [List.lookup,h]
 rw [az h];simp [List.lookup,jW.mpr h]
def xy {env:Env}{scope:Scope}(h:∀y,(y,NameKind.free)∈scope.names->∃c,env.cells.lookup y=some c):∃cl,KH env scope cl:=by
 have go:∀(names:List (Str×NameKind))(bG:z0f),(∀y,(y,NameKind.free)∈names->∃c,env.cells.lookup y=some c)->(∀y c,bG.lookup y=some c->env.cells.lookup y=some c) ->
   ∃cl,(forIn names bG λ(x:Str×NameKind)(cs:z0f)=>(if x.2 == .free then do let c <-cellOf env x.1;pure (ForInStep.yield ((x.1,c)::cs)) else pure (ForInStep.yield cs):Sem (ForInStep z0f)))=pure cl /\
    (∀y c,cl.lookup y=some c->env.cells.lookup y=some c)/\(∀y,(y,NameKind.free)∈names->∃c,cl.lookup y=some c)/\∀y c,bG.lookup y=some c->∃c',cl.lookup y=some c':=by
  intro names
  induction names with
  | nil=>intro bG _ hs;exact⟨bG,rfl,hs,λy hy=>absurd hy 125,λy c e=>⟨c,e⟩⟩
  | cons x r ih =>
   intro bG hf hs;obtain⟨n,k⟩:=x;rw [List.forIn_cons];by_cases hk:k=.free
   .subst hk;obtain⟨c0,e0⟩:=hf n cx;obtain⟨cl,e1,e2,e3,e4⟩:=ih ((n,c0)::bG) (λy hy=>hf y (cw _ hy)) (λy c e=>by
     rw [jB] at e;by_cases z:y=n
     .rw [aA z] at e;cases e;rw [z];exact e0
     rw [az z] at e;exact hs y c e)
    refine⟨cl,?_,e2,λy hy=>?_,λy c e=>?_⟩
    .rw [<-e1];have:cellOf env n=pure c0:=by unfold cellOf;rw [e0]
     simp only [this];rfl
    .rcases aS.mp hy with z | z
     .cases z;exact e4 n c0 (by rw [jB,aA rfl])
     exact e3 y z
    by_cases z:y=n
    .exact e4 y c0 (by rw [jB,aA z])
    exact e4 y c (by rw [jB,az z];exact e)
   obtain⟨cl,e1,e2,e3,e4⟩:=ih bG (λy hy=>hf y (cw _ hy)) hs;refine⟨cl,?_,e2,λy hy=>?_,e4⟩
   .rw [<-e1];have:(k == NameKind.free)=false:=by simpa using hk
    simp only [this];rfl
   rcases aS.mp hy with z | z
   .cases z;exact absurd rfl hk
   exact e3 y z
 obtain⟨cl,e1,e2,e3,_⟩:=go scope.names [] h (λy c e=>by simp at e);refine⟨cl,?_,e2,e3⟩;unfold closureFor;exact Eq.trans (congrArg (λt:Sem z0f=>t >>= λcs=>pure cs) e1) rfl
def wK {scope:Scope}{env:Env}{y:Str}(hk:env.scope.kind=.function)(hy:scope.names.lookup y=some .free)(he:env.kindOf y=some .cell):(relabel scope env).names.lookup y=some .cell:=by
 have go:∀l:List (Str×NameKind),l.lookup y=some .free->(l.map λ(x:Str×NameKind)=>if (x.2 == NameKind.free && env.scope.kind == .function && env.kindOf x.1 == some .cell) then (x.1,NameKind.cell) else (x.1,x.2)).lookup y=some .cell:=by
  intro l
  induction l with
  | nil=>intro z;cases z
  | cons x r ih =>
   obtain⟨n,k⟩:=x;intro hy;rw [bC];by_cases z:y=n
   .subst z;simp [List.lookup] at hy;subst hy;simp [List.lookup,hk,he]
   have zb:(y == n)=false:=jW.mpr z;simp only [List.lookup,zb] at hy;have:=ih hy;dsimp only
   split <;> simp only [List.lookup,zb] <;> exact this
 exact go _ hy
theorem wY {α:Type}{y:Str}{v:α}:∀{l:List (Str×α)},l.lookup y=some v->(y,v)∈l
 | [],h=>by cases h
 | (n,u)::r,h=>by
  by_cases z:y=n
  .subst z;simp [List.lookup] at h;subst h;exact cx
  have zb:(y == n)=false:=jW.mpr z;simp only [List.lookup,zb] at h;exact cw _ (wY h)
def nS {scope:Scope}{y:Str}{k:NameKind}(h:(relabel scope env).names.lookup y=some k)(hk:k=.cell\/k=.free)(hc:∀z∈scope.names,z.2≠.cell):(y,NameKind.free)∈scope.names:=by
 have m:=wY h;unfold relabel at m;obtain⟨⟨n,k'⟩,m1,m2⟩:=cQ.mp m;dsimp only at m2
 split at m2
 .rename_i q
  cases m2;simp at q;obtain⟨⟨q,_⟩,_⟩:=q;subst q;exact m1
 cases m2;rcases hk with hk | hk
 .exact absurd hk (hc _ m1)
 rw [<-hk];exact m1
def tF (X:Cx)(scope:Scope)(cl:z0f)(C:Addr)(s1:Shared)(H1:Hp) (N:z0r)(fp:z0o):Cx :=
 { X with N:=N,s₀:=s1,H₀:=H1,env:=compEnvC scope cl C X.env,outer:=X.stack,stack:=X.stack,ex:=fp,fn:=λ_=>false,pn:=[],xe:=λ_ _=>False }
structure KJ (X:Cx)(scope:Scope)(js:z0i):Prop where
 at_:∀p∈js,X.N[p.1]?=some p.2/\X.env.scope.names.lookup p.2=some .cell/\scope.names.lookup p.2=some .free
 all:∀y,(y,NameKind.free)∈scope.names->X.env.scope.names.lookup y=some .cell
def eI (ts:z0r)(js:z0i)(σ:St):St:=ts.map (λ_=>none)++js.map λp=>(σ[p.1]?).join
def u_ {X:Cx}{σ:St}{s1 s4:Shared}{scope:Scope}{js:z0i}{m:z0c}
  (I:Inv X ai σ H s1)(hf:∀b∈fp,tX X ai H b)(Hf:∀b∈fp,b < s1.heap.objs.size)(jh:scope.kind=.function)(ji:∀y∈scope.names,y.2≠.cell)(cp:KJ X scope js)(pG:KH X.env scope cl)
  (hC:s1.heap.objs.size < C)(ho:s4.os=s1.os)(hg:s4.gens=s1.gens)(old:∀b o,s1.heap.get? b=111->s4.heap.get? b=111)(hn:s4.heap.Ns C m)
  (hD:s4.heap.get? s1.heap.objs.size=some { cls:=.type "list",data:=.seq ([]:z0m).toArray 0 }) :
  Inv (tF X scope cl C s1 H (ts++js.map (·.2)) fp) [] (eI ts js σ) (upd H s1.heap.objs.size 128) s4:=by
 have xk:X.env.scope.kind=.function:=I.ok.kind;have has:∀y,((relabel scope X.env).names.lookup y=some .cell\/(relabel scope X.env).names.lookup y=some .free)->∃c,cl.lookup y=some c:=λy hy=>pG.all y (by
  rcases hy with hy | hy
  .exact nS hy (.inl rfl) ji
  exact nS hy (.inr rfl) ji)
 have lt:∀y c,cl.lookup y=some c->c < s1.heap.objs.size:=λy c e=>by
  obtain⟨v,o,ho,_⟩:=I.cell y c (pG.sub y c e);exact aP ho
 refine⟨⟨I.ok.mod,jh,I.ok.glob,I.ok.blt,j3 hC,λy z c h1 h2=>I.ok.inj y z c (pG.sub _ _ h1) (pG.sub _ _ h2),has,λy c h _=>absurd (show false=true from h) dj,I.ok.hd,I.ok.frames,.inl rfl,
   λb hb=>⟨bp (lQ (Hf b hb) hC),λy c h=>(hf b hb).2.2.2.2.1 y c (pG.sub _ _ h)⟩,I.bs,cI I.ok.ES I.sz,λb o e hb=>?_,λb hb=>?_,I.stack,I.qK⟩,
  ho,?_,Un.laid old (aG _) I.fresh,⟨m,hn,λi y v e1 e2 _=>?_⟩,λy c h=>?_,?_,λy c h=>?_,λp hp=>absurd (show p∈([]:z0e) from hp) 125,I.bw.laid old (aG _) ?_,?_⟩
 .obtain⟨_,_,_,h4,_⟩:=hf b hb;rcases h4 with h4 | h4
  .exact I.ok.yx b o e h4
  exact absurd (dX (aP (I.ok.bs b o e).1) h4) (jS _)
 .intro sU;obtain⟨_,h2,h3,_⟩:=hf b hb;rcases aS.mp (I.wk b sU) with z | z
  .exact h2 z
  exact h3 z
 .rw [hg];exact I.bare
 .have HE:(ts++js.map (·.2))[i]?=some y:=e1;have Bx:(ts.map (λ_=>(none:Option V))++js.map λp=>(σ[p.1]?).join)[i]?=some (some v):=e2;by_cases hi:i < ts.length
  .rw [zP (by simpa using hi)] at Bx;simp [hi] at Bx
  rw [v_ ∅] at HE;rw [v_ (by simpa using Nat.le_of_not_lt hi)] at Bx;rw [aC] at Bx;rw [bB] at HE Bx;cases hj:js[i - ts.length]? with
  | none=>rw [hj] at HE;cases HE
  | some p =>
   rw [hj] at HE Bx;simp only [rg,Option.some.injEq] at HE Bx;obtain⟨a1,a2,a3⟩:=cp.at_ p (cf hj);subst HE;have es:σ[p.1]?=some (some v):=by
    cases q:σ[p.1]? with
    | none=>rw [q] at Bx;cases Bx
    | some z=>rw [q] at Bx;exact congrArg some Bx
   obtain⟨m0,V5,lk⟩:=I.loc;obtain⟨u,ru,l⟩:=lk p.1 p.2 v a1 es (.inr (.inl a2));rcases l with l | ⟨_,c,ec,o,hc,hd⟩
   .have l1:X.env.scope.names.lookup p.2=some .local:=l.1;rw [a2] at l1;cases l1
   obtain⟨c',ZY⟩:=pG.all p.2 (wY a3);have e3:=pG.sub _ _ ZY;rw [ec] at e3;cases e3;exact⟨u,ru,.inr ⟨.inl (wK xk a3 a2),c,ZY,o,old _ _ hc,hd⟩⟩
 .obtain⟨v,o,h1,h2⟩:=I.cell y c (pG.sub y c h);exact⟨v,o,old _ _ h1,h2⟩
 .show upd H s1.heap.objs.size 128 C=none;rw [aj (iw hC)];exact I.bw.fresh (j3 hC)
 .show upd H s1.heap.objs.size 128 c=none;rw [aj (bp (lt y c h))];exact I.iF y c (pG.sub y c h)
 .exact⟨by show 0<=sizeLine;decide,[],0,.nil,hD⟩
 show (eI ts js σ).length=(ts++js.map (·.2)).length;simp [eI]
def Fc (wi:TI) (ts:z0r)(js:z0i)(g:TG)(tif:TT)(te:TE):TE:=λσ H Q=>wi σ H λJ H1=>∀D,H1 D=none->∃W:Nat->Nat->115->148,(∃m,W 0 m [] (eI ts js σ) (upd H1 D 128)) /\
 ∀i m ys σ' H,W i m ys σ' H->(J.stop i H/\Q (.ref D) H)\/(J.go i H/\∃m',m' < m/\∀x H',J.nu i H x H'->g x σ' H' λσ2 H2=>tif σ2 H2 λb H3 =>
  if b=true then te σ2 H3 248 else W (i+1) m' ys σ2 H3)
def bV {X:Cx}{elt iter tg:Expr}{ifs:z0p}{scope:Scope}{pos:Pos}{wi:TI}{g:TG}{tif:TT}{te:TE}(ts:z0r)(js:z0i)(hc:X.calm=true)(hi:PI X tg iter wi)
  (cp:KJ X scope js)(ji:∀y∈scope.names,y.2≠.cell)(jh:scope.kind=.function)
  (Bg:∀y∈scope.names,y.2=.local->scope.names.lookup y.1=some .local)
  (hg:∀cl C s1 H1 fp,PG (tF X scope cl C s1 H1 (ts++js.map (·.2)) fp) tg g)
  (Wc:∀cl C s1 H1 fp,EB (tF X scope cl C s1 H1 (ts++js.map (·.2)) fp) ifs tif)(he:∀cl C s1 H1 fp,PE (tF X scope cl C s1 H1 (ts++js.map (·.2)) fp) elt te)
  (hs:∀x,foldedSetIterable iter X.env x=pure x:=by intro _;rfl) :
  PE X (.ListComp elt [⟨tg,iter,ifs,0⟩] scope pos) (Fc wi ts js g tif te):=by
 intro ai s σ H Q I h;rw [eval_ListComp];obtain⟨cl,pG⟩:=xy (env:=X.env) (scope:=scope) λy hy=>I.ok.has y (.inl (cp.all y hy));refine wpAny_comprehension_free (use:=none) rfl hs pG.eq jh Bg (cE (hi ai s σ H _ I h) λv s1 h1=>cE h1 λSu s2 h2=>?_);obtain⟨it,fp,tn,J,H2,e,I2,T,Ij,f2,h2⟩:=h2;subst e;obtain⟨W,⟨m0,w0⟩,turn⟩:=h2 s2.heap.objs.size I2.fresh;have Hf:∀b∈fp,b < s2.heap.objs.size:=λb hb=>by obtain⟨o,e,_⟩:=T.obj _ _ Ij b hb;exact aP e
 refine j8 (wpAny_newFunctionEnv ji (by intro y hy;simp at hy) (λh₁ Bf xf=>?_) jh);dsimp only at Bf xf ⊢;generalize NK:s2.heap.push { cls:=.type "list",dict:=none,data:=.seq ([]:z0m).toArray }=G2 at Bf xf ⊢;have Kj:G2.objs.size=s2.heap.objs.size+1:=by rw [<-NK,i5]
 have Wz:s2.heap.objs.size≠G2.objs.size:=by rw [Kj];exact bp (jL _)
 have old:∀b o,s2.heap.get? b=111->h₁.get? b=111:=λb o e =>
  xf.extBut b o (by rw [Kj];exact bp (vG (aP e))) (a_ _ (NK ▸ a_ _ e))
 have DV:h₁.get? s2.heap.objs.size=some { cls:=.type "list",data:=.seq ([]:z0m).toArray 0 }:=xf.extBut _ _ Wz (a_ _ (NK ▸ cu _ rfl));generalize og:tF X scope cl G2.objs.size s2 H2 (ts++js.map (·.2)) fp=X2;have I4:Inv X2 [] (eI ts js σ) (upd H2 s2.heap.objs.size 128) { s2 with heap:=h₁,toks:=s2.toks+([]:z0d).length }:=by
  rw [<-og];exact u_ I2 f2 Hf jh ji cp pG (by rw [Kj];exact jL _) rfl rfl old Bf DV
 have x1:X2.prog=X.prog:=by rw [<-og];rfl
 have x2:X2.w=X.w:=by rw [<-og];rfl
 have x3:X2.K=X.K:=by rw [<-og];rfl
 have x4:X2.calm=true:=by rw [<-og];exact hc
 have x5:X2.A=X.A:=by rw [<-og];rfl
 have x6:X2.env=compEnvC scope cl G2.objs.size X.env:=by rw [<-og];rfl
 have x7:X2.xe=λ_ _=>False:=by rw [<-og];rfl
 have SH:PG X2 tg g:=by rw [<-og];exact hg _ _ _ _ _
 have NA:EB X2 ifs tif:=by rw [<-og];exact Wc _ _ _ _ _
 have Ke:PE X2 elt te:=by rw [<-og];exact he _ _ _ _ _
 have Pu:tn 0 h₁:=T.keep _ _ _ Ij λb _ o e=>old b o e;have rK:∀{H':Hp}{iS:z0e},(∀b∈fp,H' b=none)->(∀p∈iS,p.1∉fp)->∀b∈fp,tX X2 iS H' b:=λ{H' iS} hn hp b hb=>by
  have o4:=I4.ok;subst og;exact⟨hn b hb,(o4.Km b hb).1,o4.xt b hb,.inl hb,(o4.Km b hb).2,λp mF=>by
   have qm:p∈([]:z0e)++iS:=mF;rw [mZ] at qm;intro z;exact hp p qm (by rw [z];exact hb)⟩
 have fin:∀{s':Shared}{σ':St}{H':Hp},Inv X2 [] σ' H' s'->Q (.ref s2.heap.objs.size) H' ->
   compPost 146 X.A X.xe none (EP X ai σ Q) (.ref s2.heap.objs.size) G2.objs.size (.ok .next) s':=λ{s' σ' H'} J' q=>by
  subst og;obtain⟨m',Nz,_⟩:=J'.loc;refine⟨m',Nz,λh' OI=>?_⟩;have u:Un (qG X.stack) fp H2 H' s2.heap s'.heap:=J'.base;have nC:∀b o,s2.heap.get? b=111->b≠G2.objs.size:=λb o e=>by rw [Kj];exact bp (vG (aP e))
  have u':Un (qG X.stack) fp H2 H' s2.heap h':=⟨λb o e n hb hx=>(OI.2 b (nC b o e)).trans (u.keep b o e n hb hx),λb o e n hb hx=>by
    obtain⟨sl,z⟩:=u.slot b o e n hb hx;exact⟨sl,(OI.2 b (nC b o e)).trans z⟩,u.free,λb o e hx=>by
    obtain⟨o',z⟩:=u.there b o e hx;exact⟨o',(OI.2 b (nC b o e)).trans z⟩,u.rH,u.qF,u.qv⟩
  have bw:lM X.prog X.w H' h':=λb ob e=>by
   refine(J'.bw b ob e).gH (λc w' iK q'=>(OI.2 c ?_).trans q') (λ_ q=>q) λ_ _ q=>q;intro z;have fr:H' G2.objs.size=none:=J'.free;rcases iK with z' | z'
   .rw [<-z'] at e;rw [z,fr] at e;cases e
   rw [z,fr] at z';cases z'
  have I5:Inv X ai σ H' { s' with heap:=h' }:=I2.CQ (s':={ s' with heap:=h' }) J'.os u' bw J'.bare λb hb=>by
   obtain⟨_,f1,_,f3,f4,f5⟩:=f2 b hb;exact⟨f3,f1,f4,f5⟩
  exact⟨.ref s2.heap.objs.size,H',I5,rfl,q⟩
 have loop:∀s₃:Shared,s₃={ s2 with heap:=h₁,toks:=s2.toks+([]:z0d).length } ->
   codeAny 146 X.A (.compLoop (.ListComp elt [⟨tg,iter,ifs,0⟩] scope pos) 0 (.ref it) (.ref s2.heap.objs.size) (compEnvC scope cl G2.objs.size X.env))
    (compPost 146 X.A X.xe none (EP X ai σ Q) (.ref s2.heap.objs.size) G2.objs.size) s₃:=by
  rintro s₃ rfl;subst og;refine qp (λn s'=>∃i ys σ' H',Inv 304 [] σ' H' s'/\tn i s'.heap/\(∀b∈fp,H' b=none)/\W i n ys σ' H') ?_ m0
   ⟨0,[],_,_,I4,Pu,λb hb=>by rw [aj (bp (Hf b hb))];exact(f2 b hb).1,w0⟩
  rintro n s' ⟨i,ys,σ0,H',J',qL,Rj,w'⟩;rcases turn i n ys σ0 H' w' with ⟨stop,q⟩ | ⟨go,m',hm,step⟩
  .refine cH (T.done 304 rfl rfl rfl hc i [] s' _ H' (λ_ _=>False) J' (rK Rj 125) qL stop) (λr s4 ⟨hr,J4⟩=>?_) λ_ _ z=>z;subst hr;exact fin J4 q
  refine cH (T.item 304 rfl rfl rfl hc i [] s' _ H' (λ_ _=>False) J' (rK Rj 125) qL go) (λr s4 ⟨u,hr,h4⟩=>?_) λ_ _ z=>z;subst hr;refine cH h4 (λ_ s5 aW=>?_) λ_ _ z=>z;obtain⟨xv,H5,J5,r5,y5,Df,Ri⟩:=aW;have X1:=J5.pinned (rK Ri 125) (T.obj _ _ Df);have back:∀{s7:Shared}{σ7:St}{H7:Hp},Inv 304 ([]++pq fp s5.heap) σ7 H7 s7->Inv 304 [] σ7 H7 s7/\tn (i+1) s7.heap/\∀b∈fp,H7 b=none:=λ{s7 σ7 H7} J7=>by
   refine⟨J7.jb,T.keep _ _ _ Df λb hb o e=>(J7.pin (b,o) (fO _ (fO _ (fJ hb e)))).1,λb hb=>?_⟩;obtain⟨o,e,d⟩:=T.obj _ _ Df b hb;exact(J7.pin (b,o) (fO _ (fO _ (fJ hb e)))).2.1
  show wpAny _ _ (assign tg (tF X scope cl G2.objs.size s2 H2 (ts++js.map (·.2)) fp).env u) _ _ s5;refine cH (SH _ s5 _ H5 xv u _ X1 r5 (step xv H5 y5)) (λ_ s6 aW=>?_) λ_ _ z=>z;obtain⟨σ6,H6,J6,q6⟩:=aW;refine cH (NA _ s6 _ H6 _ J6 q6) (λb s7 aW=>?_) λ_ _ z=>z;obtain⟨H7,J7,q7⟩:=aW;cases b with
  | false =>
   rw [az dj] at q7 ⊢;obtain⟨J8,Ue,WK⟩:=back J7;exact⟨m',hm,i+1,ys,σ6,H7,J8,Ue,WK,q7⟩
  | true =>
   rw [aA rfl] at q7 ⊢;refine cH (Ke _ s7 _ H7 _ J7 q7) (λyv s8 aW=>?_) λ_ _ z=>z;obtain⟨y,H8,J8,r8,WA,Vz,w8⟩:=aW;refine cH (bR (X:=tF X scope cl G2.objs.size s2 H2 (ts++js.map (·.2)) fp) _ s8 _ H8 (.ref s2.heap.objs.size) [y] (.ref s2.heap.objs.size) [yv] (λv H'=>W (i+1) m' (ys++[y]) σ6 H') J8 rfl (.cons r8 .nil) ⟨s2.heap.objs.size,ys,y,rfl,rfl,WA,Vz,w8⟩)
    (λ_ s9 ⟨_,H9,J9,_,w9⟩=>?_) λ_ _ z=>z
   obtain⟨X3,Mt,NS⟩:=back J9;exact⟨m',hm,i+1,ys++[y],σ6,H9,X3,Mt,NS,w9⟩
 exact codeAny_compStart_list (loop _ rfl) (T.self _ _ _ _ _ Pu (loop _ rfl))
def RX (K:aV)(a:Addr):It :=
 ⟨λi H=>∃xs x,aF K H a xs/\xs[i]?=some x,λi H x H'=>∃t y,x=.ref t/\H t=none/\H'=upd H t (.tup [163,y])/\∀xs,aF K H a xs->xs[i]?=some y,λi H=>∃xs,aF K H a xs/\xs.length<=i⟩
def Dc {w:World}{K:aV}{k:Nat}(a e it:Addr)(Kd:e≠it) :
  Turn P w K (.Tuple elts k wc) (RX K a) [e,it] e (λi h=>(∃old,IsEnum h e it i old)/\h.IsListIter it a i) where
 mem:=108
 obj:=λi h st b hb=>by
  obtain⟨⟨old,he⟩,o,e1,c,d⟩:=st;rcases aS.mp hb with rfl | hb
  .exact⟨_,he,λv z=>by cases z⟩
  obtain rfl:b=it:=215
  exact⟨o,e1,λv z=>by rw [d] at z;cases z⟩
 keep:=λi h h' st k=>⟨⟨st.1.choose,k e 125 _ st.1.choose_spec⟩,st.2.at λo q=>k it 125 o q⟩
 item:=by
  intro X hP hw hK hc i ai s σ H E I hf st hg;subst hP hw hK;obtain⟨xs,x,hq,hx⟩:=hg;obtain⟨aN,rv,p,hz⟩:=I.list hq;obtain⟨u,hu,ru⟩:=rv.get hx;obtain⟨⟨old,he⟩,hit⟩:=st;refine wpAny_pyNext_enum_item he hit p.isList (x:=u) (by simpa using hu) Kd λh1 ho Hc hT hsz hk=>?_;refine⟨_,rfl,zN ho λh2 Q0 sb=>?_⟩;have ne:s.heap.objs.size≠e:=iw (aP he);have kk:∀b o,b≠e->b≠it->178->h2.get? b=111:=λb o n1 n2 q=>(sb.2 b n1).trans (hk b o n1 n2 q);have T2:h2.get? s.heap.objs.size=some { cls:=185,data:=.seq #[.int i s.toks,u] }:=(sb.2 _ ne).trans hT;have fe:=hf e 125;have fi:=hf it 125;have fT:H s.heap.objs.size=none:=I.bw.fresh (aG _);have tr:∀b v,H b=some v->b≠e/\b≠it:=λb v q=>⟨λz=>(by rw [z,fe.1] at q;cases q),λz=>(by rw [z,fi.1] at q;cases q)⟩;have nc:∀b,b∉[e,it]->b≠e/\b≠it:=λb z=>⟨λq=>z (by simp [q]),λq=>z (by simp [q])⟩;have lt:∀b o,178->b≠s.heap.objs.size:=λb o q=>bp (aP q);have I2:Inv X ai σ (upd H s.heap.objs.size (.tup [163,x])) { s with heap:=h2,toks:=s.toks+1 }:=by
   refine I.call (g':=s.gens) (t':=s.toks+1) (d':=s.drawn) (ch:=[e,it]) ⟨λb o q _ _ c=>kk b o (nc b c).1 (nc b c).2 q,λb o q _ _ c=>⟨o.slots,kk b o (nc b c).1 (nc b c).2 q⟩,
    λb o q n _=>by rw [aj (lt b o q)];exact n,λb o q c=>⟨o,kk b o (nc b c).1 (nc b c).2 q⟩,λb ys q=>by rw [aj (aq q fT)];exact q,λb o v q=>by rw [aj (aq q fT)];exact q,
    λb ps q=>⟨#[],by rw [aj (aq q fT),q];simp⟩⟩ (λb v q=>?_) I.bare (λb hb=>?_)
   .by_cases hb:b=s.heap.objs.size
    .subst hb;rw [ae] at q;cases q;exact⟨by show 2<=sizeLine;decide,[.int i s.toks,u],.cons 159 (.cons ru .nil),_,T2,rfl,_,rfl⟩
    rw [aj hb] at q;refine(I.bw b v q).gH (λc o iK z=>?_) (λc q'=>by rw [aj (aq q' fT)];exact q') λc ys q'=>by rw [aj (aq q' fT)];exact q'
    rcases iK with rfl | iK
    .exact kk c o (tr c _ q).1 (tr c _ q).2 z
    exact kk c o (tr c _ iK).1 (tr c _ iK).2 z
   rcases aS.mp hb with rfl | hb
   .exact⟨fe.2.2.2.1,fe.2.1,fe.2.2.2.2.1,fe.2.2.2.2.2⟩
   obtain rfl:b=it:=215
   exact⟨fi.2.2.2.1,fi.2.1,fi.2.2.2.2.1,fi.2.2.2.2.2⟩
  refine⟨197,_,I2,rfl,⟨_,x,rfl,fT,rfl,λys hy=>by rw [I.je hy hq];exact hx⟩,⟨⟨_,Q0⟩,Hc.at λo q=>(sb.2 it Kd.symm).trans q⟩,λb hb=>?_⟩;have sU:H b=none/\∃o,178:=by
   rcases aS.mp hb with rfl | hb
   .exact⟨fe.1,_,he⟩
   obtain rfl:b=it:=215
   obtain⟨o,q,_⟩:=hit;exact⟨fi.1,o,q⟩
  obtain⟨n,o,q⟩:=sU;rw [aj (lt b o q)];exact n
 done:=by
  intro X hP hw hK hc i ai s σ H E I hf st hg;subst hP hw hK;obtain⟨xs,hq,hx⟩:=hg;obtain⟨aN,rv,p,hz⟩:=I.list hq;obtain⟨⟨old,he⟩,hit⟩:=st;obtain⟨f0,f1,f2,f3,f4,f5⟩:=hf it 125;have hl:=rv.length;exact wpAny_pyNext_enum_end (I.ok.hd hc) he hit p.isList (by simp;omega) 338
 self:=λ_ _ _ _ _ st h=>oK st.1.choose_spec h
def pN:bootBuiltins "enumerate"=some (.type "enumerate"):=by decide +kernel
def Qx (K:aV)(ta:TA):TI:=λσ H R=>ta σ H λvs H1=>Tr vs (aF K H1) λa=>R (RX K a) H1
def nV {X:Cx}{k:Nat}{l:Expr}{ta:TA}(hg:Gl X "enumerate")(hm:X.mg "enumerate"=none)(ha:PA X [l] ta)(hs:starEach [l] X.env=[(false,eval l X.env)]:=by rfl) :
  PI X (.Tuple elts k wc) (.Call (.Name "enumerate" p) [l] [] pos) (Qx X.K ta):=by
 intro ai s σ H R I h;refine Call_ (gM I hg hm pN (q9 270 hs rfl));obtain⟨vs,H1,I1,r1,q1⟩:=aW;obtain⟨a,xs,e,hq,q⟩:=q1;subst e;obtain⟨u,rfl,rx⟩:=r1.one;cases rx;obtain⟨aN,rv,pl,hz⟩:=I1.list hq;refine call_enumerate_list pl.isList λh1 he hit hsz hk=>oK he ?_;refine⟨s1.heap.objs.size+1,[s1.heap.objs.size+1,s1.heap.objs.size],_,_,H1,rfl,I1.kept (t':=s1.toks) λb o e=>hk b o e,Dc a _ _ (iw (jL _)),⟨⟨_,he⟩,hit⟩,λb hb=>?_,q⟩;rcases aS.mp hb with rfl | hb
 .exact I1.kA (hJ _) (I1.bw.fresh (hJ _))
 obtain rfl:b=s1.heap.objs.size:=215
 exact I1.kA (aG _) (I1.bw.fresh (aG _))
def cU (kvs bG:140):140:=kvs.foldl (λa p=>bP a p.1 p.2) bG
theorem sX:∀{kvs:140}{vs:List (aR×Value)}{bG:140}{HN:List (aR×Value)},KV kvs vs->KV bG HN->KV (cU kvs bG) (vs.foldl (λa p=>stored a p.1 p.2) HN)
 | _,_,_,_,.nil,h=>h
 | _,_,_,_,.cons (a:=p) (b:=q) r t,h=>by
  obtain⟨e,rv⟩:=r;show KV (cU _ (bP _ p.1 p.2)) (List.foldl _ (stored _ q.1 q.2) _);rw [<-e];exact sX t (h.put p.1 rv)
theorem sY:∀(kvs bG:140),(cU kvs bG).length<=bG.length+kvs.length
 | [],bG=>by simp [cU]
 | p::r,bG=>by
  have:=sY r (bP bG p.1 p.2);have:=dZ bG p.1 p.2;show (cU r (bP bG p.1 p.2)).length<=_;rw [c_];omega
section
variable {X:Cx}{ai:z0e}{σ:St}{H:Hp}{s:Shared}
theorem pairs_at (I:121):∀{ts:z0o}{kvs:140}{aN:z0m},Paired (λt kv=>aZ X.K H t [kV kv.1,kv.2]) ts kvs->aY (ts.map V.ref) aN ->
  ∃vs:List (aR×Value),KV kvs vs/\Paired (λu kv=>mU (aX X.prog X.w) s.heap u kv) aN vs
 | [],_,_,.nil,r=>by
  rw [jZ] at r;cases r;exact⟨[],.nil,.nil⟩
 | t::ts,kv::kvs,_,.cons h p,r=>by
  rw [bC] at r;cases r with
  | cons r1 r2 =>
   obtain⟨vs,e1,e2⟩:=pairs_at I p r2;obtain⟨aN,rv,⟨o,h1,h2,n,h3⟩,_⟩:=I.tuple h;obtain⟨u1,u2,rfl,q1,q2⟩:=vals2 rv;exact⟨(kv.1,u2)::vs,.cons ⟨rfl,q2⟩ e1,.cons ⟨t,u1,n,o,r1,lH q1,h1,h2,h3⟩ e2⟩
theorem Paired.at_ {α β:Type}{F:α->β->Prop}:∀{xs:List α}{ys:List β},Paired F xs ys->∀(m:Nat)(y:β),ys[m]?=some y->∃x,xs[m]?=some x/\F x y
 | _,_,.nil,m,y,e=>by cases m <;> cases e
 | _,_,.cons h t,0,y,e=>by cases e;exact⟨_,rfl,h⟩
 | _,_,.cons h t,m+1,y,e=>Paired.at_ t m y e
def d5 (hc:X.calm=true):fu X (.type "dict") (λxs H Q=>∃a ts kvs,xs=[.ref a]/\H a=217/\Paired (λt kv=>aZ X.K H t [kV kv.1,kv.2]) ts kvs/\∀d,H d=none->Q (.ref d) (upd H d (.dK (cU kvs [])))):=by
 intro ai s σ H xs us Q I r h;obtain⟨a,ts,kvs,rfl,e,p,q⟩:=h;obtain⟨u,rfl,rx⟩:=vals1 r;cases (show u=Value.ref a from rx);obtain⟨z,aN,n,rv,ho⟩:=(show b8 X.prog X.w H s.heap a (.lst _) from I.bw a _ e);obtain⟨vs,r1,r2⟩:=pairs_at I p rv;have l1:=bT r2;have l2:=r1.length;have l3:=bT p;rw [aC] at z;refine tM (aX X.prog X.w) (I.ok.hd hc) ho (by simpa using l1) (λm kv em=>?_) ∅ λh' t' hd kk=>?_
 .obtain⟨u,e1,e2⟩:=Paired.at_ r2 m kv em;exact⟨u,by simpa using e1,e2⟩
 have new:b8 X.prog X.w (upd H s.heap.objs.size (.dK (cU kvs []))) h' s.heap.objs.size (.dK (cU kvs [])):=by
  refine tE ?_ ?_ (sX r1 .nil) hd
  .have:=sY kvs [];simp at this;omega
  have:=I.big;exact jW.mpr (iw this)
 exact⟨197,_,I.laid (t':=t') kk (aG _) new,rfl,q _ (I.bw.fresh (aG _))⟩
theorem uV {α β:Type}{F:α->β->Prop}:∀{xs:List α}{ys:List β},xs.length=ys.length->(∀(j:Nat) x y,xs[j]?=some x->ys[j]?=some y->F x y)->Paired F xs ys
 | [],[],_,_=>.nil
 | [],_::_,e,_=>by cases e
 | _::_,[],e,_=>by cases e
 | x::xs,y::ys,e,h=>.cons (h 0 x y rfl rfl) (uV (Nat.succ.inj e) λj a b e1 e2=>h (j+1) a b e1 e2)
def Ln {w:World}{k:aR}{u:Value}(h:(aX P w).is k u=true):RelV (kV k) u:=by
 rcases cY (show sI k u=true from h) with ⟨i,t,rfl,rfl⟩ | ⟨x,t,rfl,rfl⟩
 .exact⟨t,rfl⟩
 exact⟨t,rfl⟩
def mQ (hc:X.calm=true):fu X (.type "list") (λxs H Q=>∃a kvs,xs=[.ref a]/\H a=184/\∀D,H D=none->Q (.ref D) (upd H D (.lst (kvs.map λp=>kV p.1)))):=by
 intro ai s σ H xs us Q I r h;obtain⟨a,kvs,rfl,e,q⟩:=h;obtain⟨u,rfl,rx⟩:=vals1 r;cases (show u=Value.ref a from rx);obtain⟨z,hs,vs,rel,dd⟩:=yV I.bw e;obtain⟨o,es,ep,d1,d2,d3,d4⟩:=dd;have l1:=rel.length;refine PySem.W.kdl_call (PySem.W.kdl_dict (knd:=aX X.prog X.w) (kvs:=vs) (ep:=ep) hs) (I.ok.hd hc) ⟨o,es,d1,d2,d3,d4⟩ ∅ λh' tk bG c kk hD DV=>?_;have keys:=rel.keys;have vals:aY (kvs.map λp=>kV p.1) bG.toList:=by
  refine uV (by have h1:=DV.1;simp only [aC,pW];omega) λj x y e1 e2=>?_;rw [Array.getElem?_toList] at e2;obtain⟨k,v,e3,e4⟩:=DV.2 j y e2;rw [bB] at e1;obtain⟨p,e5,rfl⟩:=b9.mp e1;have e6:(kvs.map 56)[j]?=some p.1:=by rw [bB,e5];rfl
  rw [keys,bB,e3] at e6;cases e6;exact Ln e4
 have new:b8 X.prog X.w (upd H s.heap.objs.size (.lst (kvs.map λp=>kV p.1))) h' s.heap.objs.size (.lst (kvs.map λp=>kV p.1)):=⟨by rw [aC];exact z,bG.toList,c,vals,by simpa using hD⟩;exact⟨197,_,I.laid (t':=tk) kk (aG _) new,rfl,q _ (I.bw.fresh (aG _))⟩
end
def mT (v:V):Prop:=iG v=true\/∃r,v=.ref r
def Hz {x:V}(h:iG x=true):zH x x=true:=by
 cases x with
 | dq=>rfl
 | bl b=>exact lV b
 | int i=>exact lV i
 | str z=>exact lV z
 | _=>cases h
def Br {x:V}{u v:Value}(h:mT x)(ru:RelV x u)(rv:RelV x v):SeqAt.EqAt A s u v true:=by
 rcases h with h | ⟨r,rfl⟩
 .have q:=Bt (A:=A) (s:=s) ru rv h h;rw [Hz h] at q;exact q
 cases (show u=Value.ref r from ru);cases (show v=Value.ref r from rv);exact .same _
def sJ {xs:115}{aN fK:z0m}(r:aY xs aN)(r2:aY xs fK)(hx:∀v∈xs,mT v) (j:Nat)(h1:j < aN.toArray.size)(h2:j < fK.toArray.size) :
  SeqAt.EqAt A s aN.toArray[j] fK.toArray[j] true:=by
 have l1:=r.length;have k1:j < aN.length:=by simpa using h1
 have k2:j < fK.length:=by simpa using h2
 have g1:xs[j]?=some (xs[j]'∅):=cN ∅;obtain⟨u1,e1,q1⟩:=r.get g1;obtain⟨u2,e2,q2⟩:=r2.get g1;have f1:aN.toArray[j]=u1:=by
  have:=(bM.mp e1).2;simpa using this
 have f2:fK.toArray[j]=u2:=by
  have:=(bM.mp e2).2;simpa using this
 rw [f1,f2];exact Br (hx _ (j6 _)) q1 q2
def K6 (K:aV)(b:Bool):V->V->Hp->VK->Prop:=λx y H Q=>∃p q xs,x=.ref p/\y=.ref q/\aF K H p xs/\aF K H q xs/\(∀v∈xs,mT v)/\Q (.bl b) H
def MZ {X:Cx}(hu:X.A.units < cLine):oy X (compareOp .Eq) (K6 X.K true):=by
 intro ai s σ H x y v u Q I rx ry h;obtain⟨a,b,xs,rfl,rfl,ha,hb,hx,q⟩:=h;cases rx;cases ry;obtain⟨aN,r,pl,hz⟩:=I.list ha;obtain⟨fK,r2,AG,Sv⟩:=I.list hb;have l1:=r.length;have l2:=r2.length;refine SeqAt.eq_listAt (e:=λ_=>true) pl.isList AG.isList (by simp only [cb];omega) hu (λj h1 h2=>sJ r r2 hx j h1 h2) ?_;have e:((List.range aN.toArray.size).all λ_=>true)=true:=108
 rw [e];exact⟨.bl true,H,I,rfl,q⟩
def AK {X:Cx}(hu:X.A.units < cLine):oy X (compareOp .NotEq) (K6 X.K false):=by
 intro ai s σ H x y v u Q I rx ry h;obtain⟨a,b,xs,rfl,rfl,ha,hb,hx,q⟩:=h;cases rx;cases ry;obtain⟨aN,r,pl,hz⟩:=I.list ha;obtain⟨fK,r2,AG,Sv⟩:=I.list hb;have l1:=r.length;have l2:=r2.length;refine SeqAt.RcNeAt.lists (e:=λ_=>true) pl.isList AG.isList (by simp only [cb];omega) hu (λj h1 h2=>sJ r r2 hx j h1 h2) X.prog X.w X.xe _ ?_;have e:(!(List.range aN.toArray.size).all λ_=>true)=false:=108
 rw [e];exact⟨.bl false,H,I,rfl,q⟩
theorem wj:∀{ts:z0r}{aN:z0m},aY (ts.map V.str) aN->StrsAre aN ts
 | [],_,r=>by rw [jZ] at r;cases r;exact .nil
 | z::ts,_,r=>by
  rw [bC] at r;cases r with
  | cons h t =>
   obtain⟨tk,e⟩:=(show ∃tk,_=Value.str z tk from h);subst e;exact .cons z tk (wj t)
def rJoin (K:aV):V->115->Hp->VK->Prop:=λx vs H Q=>∃z a ts,x=.str z/\vs=[.ref a]/\aF K H a (ts.map V.str)/\(ts.map (·.length)).sum+ts.length * z.length<=16777216/\Q (.str (Txt.join z ts)) H
def CC {X:Cx}:KD X "str.join" (rJoin X.K):=by
 intro ai s σ H x vs v us Q I rx rv h;obtain⟨z,a,ts,rfl,rfl,hq,hz,q⟩:=h;obtain⟨t,rfl⟩:=rx;obtain⟨u,rfl,ru⟩:=rv.one;cases (show u=Value.ref a from ru);obtain⟨aN,r,pl,_⟩:=I.list hq;exact join_list pl.isList (by simpa using wj r) hz λt' k=>⟨.str _,H,I.tok _,159,q⟩
section
variable {K:aV}{a D:Addr}{xs:115}{ts:z0r}{js:z0i}{g:TG}{tif:TT}{te:TE}{R:Hp->Prop}{σ:St}{H:Hp}
def bX (Pv:Nat->115->148)(h0:Pv 0 [] (eI ts js σ) (upd H D 128))(hl:∀i ys σ H,i<=xs.length->Pv i ys σ H->aF K H a xs)
  (hs:∀i x ys σ H,xs[i]?=some x->Pv i ys σ H->g x σ H 413)
  (hd:∀ys σ H,Pv xs.length ys σ H->R H) :
  ∃W:Nat->Nat->115->148,(∃m,W 0 m [] (eI ts js σ) (upd H D 128)) /\
 ∀i m ys σ' H,W i m ys σ' H->((kF K a).stop i H/\R H)\/((kF K a).go i H/\∃m',m' < m/\∀x H',(kF K a).nu i H x H'->g x σ' H' λσ2 H2=>tif σ2 H2 λb H3 =>
  if b=true then te σ2 H3 248 else W (i+1) m' ys σ2 H3):=by
 refine⟨λi m ys σ H=>m=xs.length - i/\i<=xs.length/\Pv i ys σ H,⟨xs.length,108,d6 _,h0⟩,?_⟩;rintro i m ys σ' H ⟨rfl,hi,p⟩;have q:=hl i ys σ' H hi p;by_cases iM:i < xs.length
 .refine .inr ⟨⟨xs,xs[i],q,by simp [iM]⟩,xs.length - (i+1),∅,λx H' y=>?_⟩;obtain⟨e,y⟩:=y;subst e;have z:=hs i x ys σ' _ (y xs q) p;have h1:(i+1<=xs.length)=True:=eq_true iM;simp only [h1,true_and];exact z
 have e:i=xs.length:=by omega
 subst e;exact .inl ⟨⟨xs,q,aG _⟩,hd ys σ' H p⟩
end
def xA {X:Cx}:fu X (.builtin "isinstance") (λxs H Q=>∃a ys n b,xs=[.ref a,.ty n]/\aF X.K H a ys/\PySem.W.kitOne X.K (.type "list") (.type n)=some b/\Q (.bl b) H):=by
 intro ai s σ H xs us Q I r h;obtain⟨a,ys,n,b,rfl,hq,e,q⟩:=h;obtain⟨u,w',rfl,rx,rn⟩:=vals2 r;cases (show u=Value.ref a from rx);cases (show w'=Value.type n from rn);obtain⟨aN,_,pl,_⟩:=I.list hq;obtain⟨o,h1,h2,_⟩:=pl.isList;exact PySem.W.kia_one PySem.W.kitx_list I.kx ⟨o,h1,h2⟩ e (λz=>nomatch z) λtk=>⟨.bl b,H,I.tok _,rfl,q⟩
def yJ {K:aV}{t:Value}:PySem.W.kitOne K t t=some true:=by unfold PySem.W.kitOne;rw [aA (lV t)]
def Pp (t:TS):TS:=λD σ H=>∃R:148,t { D with nx:=R } σ H/\∀σ' H',R σ' H'->D.nx σ' H'
def Cs {X:Cx}{st:Stmt}{t:TS}(h:PS X st t):PS X st (Pp t):=by
 intro ai s σ H D I ⟨R,q,m⟩;refine cE (h ai s σ H _ I q) λf s1 z=>?_;cases f with
 | next=>obtain⟨σ',H',I',r⟩:=z;exact⟨σ',H',I',m _ _ r⟩
 | ret v=>exact z
 | brk=>exact z
 | cont=>exact z
def aL (P:Program)(w:World)(K:aV)(mg:z0c)(base:Heap) (k:Nat)(x:Str) (ps:z0r)(sp:Sp):Prop :=
 ∃f fd,bF P w K mg base fN k f fd ps sp/\Binds K fd ps []/\PySem.W.keepIn K (.ref f)=true/\mg x=some (.ref f)
theorem aL.mono {w:World}{K:aV}{j k:Nat}{x:Str}{sp:Sp}(c:aL P w K mg base j x ps sp)(h:j<=k):aL P w K mg base k x ps sp :=
 let ⟨f,fd,a,b⟩:=c;⟨f,fd,a.mono h,b⟩
def bU {X:Cx}{k:Nat}{x:Str}{ps:z0r}{sp:Sp}{e:Expr}{es:z0p}{t:TA}{p pos:Pos}(c:aL X.prog X.w X.K X.mg X.base k x ps sp)(hr:dG k X.A)(hg:Gl X x)(ha:PA X (e::es) t)
  (qC:267:=by decide)(he:292:=by rfl)(mE:(backTo pos (starEach es X.env)).any 56=false:=by rfl) :
  PE X (.Call (.Name x p) (e::es) [] pos) (Fd sp [] E0 t):=by
 obtain⟨f,fd,G,b,kp,m⟩:=c;exact Cy G hr hg m kp b .nil qh ha qC he mE
def fits {n:Nat}(h:n<=1000000):n<=sizeLine:=cI h nofun
def bx {n:Nat}(h:n<=1000000):n < sizeLine:=oR h nofun
def ah {p:Addr}(h:H p=none)(o:HO):aE H (upd H p o):=λb u q=>by rw [aj (aq q h)];exact q
def aE.tup {K:aV}{a:Addr}{xs:115}(e:aE H H')(h:aZ K H a xs):aZ K H' a xs:=by
 rcases h with (h | ⟨o,h⟩) | h
 .exact .inl (.inl (e _ _ h))
 .exact .inl (.inr ⟨o,e _ _ h⟩)
 exact .inr h
def pM {X:Cx}(hc:X.calm=true):fu X (.builtin "all") (λxs H Q=>∃(a:Addr)(bs:List Bool),xs=[.ref a]/\aF X.K H a (bs.map V.bl)/\Q (.bl (bs.all id)) H):=by
 intro ai s σ H xs us Q I r h;obtain⟨a,bs,rfl,hq,q⟩:=h;obtain⟨u,rfl,rx⟩:=vals1 r;cases (show u=Value.ref a from rx);obtain⟨aN,rv,pl,hz⟩:=I.list hq;obtain⟨o,h1,h2,m,h3⟩:=id pl.isList;have la:a < s.heap.objs.size:=aP h1;have ln:=rv.length;rw [aC] at ln;have Vu:∀(i:Nat) v,aN.toArray[i]?=some v->v=.bool (bs.getD i true):=λi v e=>by
  have e':aN[i]?=some v:=by simpa using e
  obtain⟨x,e2,e3⟩:=Paired.at_ rv i v e';rw [bB] at e2;obtain⟨b,e4,rfl⟩:=b9.mp e2;rw [p8,e4];exact e3
 refine call_all_walk (jV pl.isList ?_);refine⟨s.heap.objs.size,_,_,_,_,_,λi=>bs.getD i true,rfl,Walks.list (A:=X.A.in1) (show X.A.in1.handled=none from I.ok.hd hc) s.heap.objs.size a (bp la) aN.toArray,⟨⟨_,cu _ rfl,rfl,rfl⟩,⟨o,a_ _ h1,h2,m,h3⟩⟩,?_,λh' tk kk=>?_⟩
 .intro i v s1 Q1 E1 hP Wx;rw [Vu i v hP];exact pR Wx
 have e:((List.range aN.toArray.size).all λi=>bs.getD i true)=bs.all id:=by
  rw [cb,<-ln,ib,dW,dW];constructor
  .intro h b hb;obtain⟨i,hi,e⟩:=pY.mp hb;have:=h i (jq.mpr hi);rw [p8,cN hi,e] at this;exact this
  intro h i hi;have QY:=jq.mp hi;rw [p8,cN QY];exact h _ (j6 QY)
 rw [e];exact⟨.bl _,H,I.kept (t':=tk) λb o' e'=>kk b o' (by simp;exact bp (aP e')) (a_ _ e'),rfl,q⟩
section
variable {prog:Program}{w:World}{A:Around}{E:z0b}{s:Shared}
def A1 {i:Nat}{x:Value}(hit:s.heap.IsTupleIter it l i)(hl:s.heap.IsTuple l items)(hx:items[i]?=some x)
  (hQ:∀h',h'.IsTupleIter it l (i+1)->Heap.SameBut it s.heap h'->Q x 216):wpAny 147 A (Builtin.SmallTypes.nextOf (.ref it)) Q E s:=by
 obtain⟨o,ho,hc,hd⟩:=id hit;obtain⟨ol,QN,_,nl,Q3⟩:=hl;unfold Builtin.SmallTypes.nextOf;refine ax (p6 (name:=Str.ofString "__next__") hit.typeIs vZ (j5 vZ hit.typeIs F.entry_tuple_iterator_next ?_ (F.args_tuple_iterator_next_1 _)));show wpAny _ _ (field (.ref it) 0 >>= λv=>_) _ _ s;refine ax (dU ho hd (x:=.ref l) (by rfl) ?_);show wpAny _ _ (if (Value.ref l == .none)=true then _ else _) _ _ s;rw [az (by exact dj)];show wpAny _ _ (field (.ref it) 1 >>= λv=>_) _ _ s;refine ax (dU ho hd (x:=.int i 0) (by rfl) ?_);show wpAny _ _ (seqItems? (.ref l) >>= λv=>_) _ _ s;refine ax (jU QN Q3 (by
  simp only [pT,hx];refine ax (lS ho hd 125 (aK ⟨x,rfl,aK (hQ _ ⟨_,qZ _ ho (vN (lW hd _)),(Obj.cls_mapFields ..).trans hc,?_⟩ (vE ..))⟩));rw [lW hd];simp [rawInt]))
def Bu {e it l:Addr}{i:Nat}{x old:Value}{Q:z0j->Shared->Prop}(he:IsEnum s.heap e it i old)(hit:s.heap.IsTupleIter it l i)(hl:s.heap.IsTuple l items)(hx:items[i]?=some x)(qS:e≠it)
  (hQ:∀h',IsEnumOut h' e it ((i:Int)+1) x s.heap.objs.size->h'.IsTupleIter it l (i+1)->h'.get? s.heap.objs.size=some { cls:=185,data:=.seq #[.int i s.toks,x] } ->
   (∀b o,b≠e->b≠it->178->h'.get? b=111)->Q (some (197)) { s with heap:=h',toks:=s.toks+1 }) :
  wpAny 147 A (pyNext (.ref e)) Q E s:=by
 have hT:s.TypeIs (.ref e) "enumerate" := ⟨_,he,rfl⟩;unfold pyNext;refine ax (j4 (p6 (name:=Str.ofString "__next__") hT vM (j5 vM hT F.entry_enumerate_next ?_ (F.args_enumerate_next_1 _))));obtain⟨hp,g,d,tk,os⟩:=s;show wpAny _ _ (field (.ref e) 2 >>= λv=>_) _ _ _;refine ax (dU he rfl (x:=.ref it) (by rfl) (ax (A1 hit hl hx λh₁ Wb QF=>?_)));replace QF:Heap.SameBut it hp h₁:=QF;have Wj:IsEnum h₁ e it i old:=(QF.2 e qS).trans he;show wpAny _ _ (field (.ref e) 3 >>= λv=>_) _ _ ⟨h₁,g,d,tk,os⟩;refine ax (dU Wj rfl (x:=rawInt i) (by rfl) ?_);show wpAny _ _ (field (.ref e) 4 >>= λv=>_) _ _ ⟨h₁,g,d,tk,os⟩;refine ax (dU Wj rfl (x:=.none) (by rfl) ?_);show wpAny _ _ (mkInt i >>= λv=>_) _ _ ⟨h₁,g,d,tk,os⟩;refine ax (wpAny_mkInt ?_);show wpAny _ _ (setField (.ref e) 3 (rawInt ((i:Int)+1)) >>= λv=>_) _ _ ⟨h₁,g,d,tk+1,os⟩;refine ax (lC Wj 125 λh₂ f₂ hs₂=>?_);have he₂:IsEnum h₂ e it ((i:Int)+1) old:=f₂;have k₂:Heap.SameBut e h₁ h₂:=hs₂;show wpAny _ _ (setField (.ref e) 4 .none >>= λv=>_) _ _ ⟨h₂,g,d,tk+1,os⟩;refine ax (lC he₂ 125 λh₃ f₃ hs₃=>?_);have he₃:IsEnum h₃ e it ((i:Int)+1) old:=f₃;have k₃:Heap.SameBut e h₂ h₃:=hs₃;show wpAny _ _ (newTuple [.int i tk,x] >>= λv=>_) _ _ ⟨h₃,g,d,tk+1,os⟩;refine ax (wpAny_newTuple ?_);have SJ:IsEnum (h₃.push { cls:=185,data:=.seq #[.int i tk,x] }) e it ((i:Int)+1) old:=a_ _ he₃;have hsz:h₃.objs.size=hp.objs.size:=by rw [k₃.1,k₂.1,QF.1]
 have Zp:e < hp.objs.size:=aP he;have Y8:(h₃.push { cls:=185,data:=.seq #[.int i tk,x] }).get? hp.objs.size=some { cls:=185,data:=.seq #[.int i tk,x] }:=by rw [<-hsz];exact cu _ rfl
 have Zh:∀b o,b≠e->b≠it->hp.get? b=111->(h₃.push { cls:=185,data:=.seq #[.int i tk,x] }).get? b=111:=λb o n1 n2 hb=>a_ _ (k₃.extBut b o n1 (k₂.extBut b o n1 (QF.extBut b o n2 hb)));have QW:(h₃.push { cls:=185,data:=.seq #[.int i tk,x] }).IsTupleIter it l (i+1):=Wb.at λo q=>a_ _ (k₃.extBut it o (dA qS) (k₂.extBut it o (dA qS) q));generalize h₃.push { cls:=185,data:=.seq #[.int i tk,x] }=h₄ at SJ Y8 Zh QW ⊢;rw [hsz];show wpAny _ _ (Builtin.SmallTypes.ownedTupleIsFree (.ref e) >>= λv=>_) _ _ ⟨h₄,g,d,tk+1,os⟩;refine ax (by
  unfold Builtin.SmallTypes.ownedTupleIsFree;refine ax (dU SJ rfl (x:=.none) (by rfl) (aK (by
   simp only [if_true];refine ax (jo (ax (dU SJ rfl (x:=old) (by rfl) (ax (lC SJ 125 λh₅ f₅ hs₅=>?_)))));have he₅:IsEnum h₅ e it ((i:Int)+1) x:=f₅;have k₅:Heap.SameBut e h₄ h₅:=hs₅;show wpAny _ _ (Builtin.SmallTypes.ownedTupleHandOut (.ref e) (.ref hp.objs.size) >>= λv=>_) _ _ ⟨h₅,g,d,tk+1,os⟩;refine ax (by
    unfold Builtin.SmallTypes.ownedTupleHandOut;refine ax (lC he₅ 125 λh₆ f₆ hs₆=>?_);have he₆:IsEnumOut h₆ e it ((i:Int)+1) x hp.objs.size:=f₆;have k₆:Heap.SameBut e h₅ h₆:=hs₆;refine lC he₆ 125 λh₇ f₇ hs₇=>?_;have he₇:IsEnumOut h₇ e it ((i:Int)+1) x hp.objs.size:=f₇;have k₇:Heap.SameBut e h₆ h₇:=hs₇;have up:∀b o,b≠e->h₄.get? b=111->h₇.get? b=111:=λb o n q=>k₇.extBut b o n (k₆.extBut b o n (k₅.extBut b o n q));exact ax (wpAny_letGo (aK ⟨_,rfl,aK (hQ h₇ he₇ (QW.at λo q=>up it o (dA qS) q) (up _ _ (iw Zp) Y8) λb o n1 n2 q=>up b o n1 (Zh b o n1 n2 q))⟩)))))))
def su {i:Nat}(hh:A.handled=none)(hit:s.heap.IsTupleIter it l i)(hl:s.heap.IsTuple l items)(hx:items[i]?=none)
  (hE:∀h' e,Heap.ExtBut it s.heap h'->(∃o,h'.get? e=111/\o.cls=.type "StopIteration")->E (.ref e) 216):wpAny 147 A (Builtin.SmallTypes.nextOf (.ref it)) Q E s:=by
 obtain⟨o,ho,hc,hd⟩:=id hit;obtain⟨ol,QN,_,nl,Q3⟩:=hl;unfold Builtin.SmallTypes.nextOf;refine ax (p6 (name:=Str.ofString "__next__") hit.typeIs vZ (j5 vZ hit.typeIs F.entry_tuple_iterator_next ?_ (F.args_tuple_iterator_next_1 _)));show wpAny _ _ (field (.ref it) 0 >>= λv=>_) _ _ s;refine ax (dU ho hd (x:=.ref l) (by rfl) ?_);show wpAny _ _ (if (Value.ref l == .none)=true then _ else _) _ _ s;rw [az (by exact dj)];show wpAny _ _ (field (.ref it) 1 >>= λv=>_) _ _ s;refine ax (dU ho hd (x:=.int i 0) (by rfl) ?_);show wpAny _ _ (seqItems? (.ref l) >>= λv=>_) _ _ s;refine ax (jU QN Q3 ?_);simp only [pT,hx];refine ax (jo (ax (lS ho hd 125 (ax ?_))));simp only [newExc,newTuple];refine ax (j8 ?_ (by size_fits));refine ax (m:=firstArgMember _ _) (wpAny_of_eq (a:=Value.none) (by first | rfl | (simp only [firstArgMember];rfl)) ?_)
 refine j8 ?_ (by size_fits);simp only [raiseNew];refine ax (wpAny_handled ?_)
 first | rw [show A.in1.handled=none from hh] | rw [hh]
 refine ax (aK (wpAny_throw (hE _ _ (((vE ..).extBut.push _).push _) ⟨_,cu _ rfl,rfl⟩)))
def Eb {e it l:Addr}{i:Nat}{Q:z0j->Shared->Prop}(hh:A.handled=none)(he:IsEnum s.heap e it i old)(hit:s.heap.IsTupleIter it l i)(hl:s.heap.IsTuple l items)(hx:items[i]?=none)
  (hQ:∀h',Heap.ExtBut it s.heap h'->Q none 216):wpAny 147 A (pyNext (.ref e)) Q E s:=by
 have hT:s.TypeIs (.ref e) "enumerate" := ⟨_,he,rfl⟩;unfold pyNext;refine ax (j4 (p6 (name:=Str.ofString "__next__") hT vM (j5 vM hT F.entry_enumerate_next ?_ (F.args_enumerate_next_1 _))));show wpAny _ _ (field (.ref e) 2 >>= λv=>_) _ _ _;refine ax (dU he rfl (x:=.ref it) (by rfl) (ax (su hh hit hl hx λh' x Ke VE=>?_)));obtain⟨o,ho,hc⟩:=VE;exact ax (wpAny_isInstance (T := "StopIteration") (b:=true) ⟨o,ho,hc⟩ isSubtype_stop (aK (hQ _ Ke)))
end
open PySem.AutoSeq1 (wpAny_loadPart')
def yE (l:Addr)(items:z0k) (n:Nat)(xO:z0l)(sl:z0a) :
  Meets (Builtin.«enumerate.__new__» ⟨[.type "enumerate",.ref l],[]⟩) (λ_ R s=>s.heap.get? l=some { cls:=185,dict:=xO,data:=.seq items n,slots:=sl } /\
   R (.ok (.ret (.ref (s.heap.push { cls:=.type "tuple_iterator",data:=.fields #[.ref l,.int 0 0] }).objs.size)))
    { s with heap:=(s.heap.push { cls:=.type "tuple_iterator",data:=.fields #[.ref l,.int 0 0] }).push { cls:=.type "enumerate",data:=.fields #[.none,.bool false,197,rawInt 0,.none,.none] } }) :=
 .of_wp λprog w A R s h=>by
  obtain⟨hp,g,d,tk,os⟩:=s;obtain⟨hl,h⟩:=h;have Nv:=sub_enumerate;have hT:Heap.IsTuple (Shared.heap ⟨hp,g,d,tk,os⟩) l items:=⟨_,hl,rfl,n,rfl⟩
  wp_walk using pZ hl
  refine wpAny_stack_any λst=>aK ?_;split
  .rename_i c _ _ _ _ _
   cases (c == Value.type "enumerate")
   .wp_walk using pZ hl,vD hT;exact⟨_,rfl,h⟩
   wp_walk using pZ hl,vD hT;exact⟨_,rfl,h⟩
  wp_walk using pZ hl,vD hT;exact⟨_,rfl,h⟩
section
variable {prog:Program}{w:World}{A:Around}{E:z0b}{s:Shared}
def BA (hL:s.heap.IsTuple l items)
  (h:∀h',IsEnum h' 190 s.heap.objs.size 0 .none->h'.IsTupleIter s.heap.objs.size l 0->(∀b o,178->h'.get? b=111)->Q (.ref 190) 216) :
  wpAny 147 A (call (.type "enumerate") [.ref l]) Q E s:=by
 obtain⟨⟨c,xO,dt,sl⟩,hl,hc,n,hd⟩:=hL;replace hc:c=185 := hc;replace hd:dt=.seq items n:=hd;subst hc hd;refine callType_new F.called_enumerate nofun (F.typeCall_enumerate_1 _) (F.newCall_enumerate_1 _) (λobj=>F.args_object_init_2 obj _) F.entry_enumerate_new (yE l items n xO sl) ⟨hl,?_⟩;have hz:(s.heap.push { cls:=.type "tuple_iterator",data:=.fields #[.ref l,.int 0 0] }).objs.size=179:=i5 ..;show _/\_;rw [hz];have he:IsEnum ((s.heap.push { cls:=.type "tuple_iterator",data:=.fields #[.ref l,.int 0 0] }).push { cls:=.type "enumerate",data:=.fields #[.none,.bool false,197,rawInt 0,.none,.none] }) 190 s.heap.objs.size 0 .none:=by
  have:=cu (s.heap.push { cls:=.type "tuple_iterator",data:=.fields #[.ref l,.int 0 0] }) (o:={ cls:=.type "enumerate",data:=.fields #[.none,.bool false,197,rawInt 0,.none,.none] }) rfl;rw [hz] at this;exact this
 exact⟨⟨_,he,rfl⟩,h _ he ⟨_,a_ _ (cu _ rfl),rfl,rfl⟩ λb o x=>a_ _ (a_ _ x)⟩
end
def tW (K:aV)(a:Addr):It :=
 ⟨λi H=>∃xs x,aZ K H a xs/\xs[i]?=some x,λi H x H'=>∃t y,x=.ref t/\H t=none/\H'=upd H t (.tup [163,y])/\∀xs,aZ K H a xs->xs[i]?=some y,λi H=>∃xs,aZ K H a xs/\xs.length<=i⟩
def zY {w:World}{K:aV}{k:Nat}(a e it:Addr)(Kd:e≠it) :
  Turn P w K (.Tuple elts k wc) (tW K a) [e,it] e (λi h=>(∃old,IsEnum h e it i old)/\h.IsTupleIter it a i) where
 mem:=108
 obj:=λi h st b hb=>by
  obtain⟨⟨old,he⟩,o,e1,c,d⟩:=st;rcases aS.mp hb with rfl | hb
  .exact⟨_,he,λv z=>by cases z⟩
  obtain rfl:b=it:=215
  exact⟨o,e1,λv z=>by rw [d] at z;cases z⟩
 keep:=λi h h' st k=>⟨⟨st.1.choose,k e 125 _ st.1.choose_spec⟩,st.2.at λo q=>k it 125 o q⟩
 item:=by
  intro X hP hw hK hc i ai s σ H E I hf st hg;subst hP hw hK;obtain⟨xs,x,hq,hx⟩:=hg;obtain⟨aN,rv,p,hz⟩:=I.tuple hq;obtain⟨u,hu,ru⟩:=rv.get hx;obtain⟨⟨old,he⟩,hit⟩:=st;refine Bu he hit (show s.heap.IsTuple a aN.toArray from p) (x:=u) (by simpa using hu) Kd λh1 ho Hc hT hk=>?_;refine⟨_,rfl,zN ho λh2 Q0 sb=>?_⟩;have ne:s.heap.objs.size≠e:=iw (aP he);have kk:∀b o,b≠e->b≠it->178->h2.get? b=111:=λb o n1 n2 q=>(sb.2 b n1).trans (hk b o n1 n2 q);have T2:h2.get? s.heap.objs.size=some { cls:=185,data:=.seq #[.int i s.toks,u] }:=(sb.2 _ ne).trans hT;have fe:=hf e 125;have fi:=hf it 125;have fT:H s.heap.objs.size=none:=I.bw.fresh (aG _);have tr:∀b v,H b=some v->b≠e/\b≠it:=λb v q=>⟨λz=>(by rw [z,fe.1] at q;cases q),λz=>(by rw [z,fi.1] at q;cases q)⟩;have nc:∀b,b∉[e,it]->b≠e/\b≠it:=λb z=>⟨λq=>z (by simp [q]),λq=>z (by simp [q])⟩;have lt:∀b o,178->b≠s.heap.objs.size:=λb o q=>bp (aP q);have I2:Inv X ai σ (upd H s.heap.objs.size (.tup [163,x])) { s with heap:=h2,toks:=s.toks+1 }:=by
   refine I.call (g':=s.gens) (t':=s.toks+1) (d':=s.drawn) (ch:=[e,it]) ⟨λb o q _ _ c=>kk b o (nc b c).1 (nc b c).2 q,λb o q _ _ c=>⟨o.slots,kk b o (nc b c).1 (nc b c).2 q⟩,
    λb o q n _=>by rw [aj (lt b o q)];exact n,λb o q c=>⟨o,kk b o (nc b c).1 (nc b c).2 q⟩,λb ys q=>by rw [aj (aq q fT)];exact q,λb o v q=>by rw [aj (aq q fT)];exact q,
    λb ps q=>⟨#[],by rw [aj (aq q fT),q];simp⟩⟩ (λb v q=>?_) I.bare (λb hb=>?_)
   .by_cases hb:b=s.heap.objs.size
    .subst hb;rw [ae] at q;cases q;exact⟨by show 2<=sizeLine;decide,[.int i s.toks,u],.cons 159 (.cons ru .nil),_,T2,rfl,_,rfl⟩
    rw [aj hb] at q;refine(I.bw b v q).gH (λc o iK z=>?_) (λc q'=>by rw [aj (aq q' fT)];exact q') λc ys q'=>by rw [aj (aq q' fT)];exact q'
    rcases iK with rfl | iK
    .exact kk c o (tr c _ q).1 (tr c _ q).2 z
    exact kk c o (tr c _ iK).1 (tr c _ iK).2 z
   rcases aS.mp hb with rfl | hb
   .exact⟨fe.2.2.2.1,fe.2.1,fe.2.2.2.2.1,fe.2.2.2.2.2⟩
   obtain rfl:b=it:=215
   exact⟨fi.2.2.2.1,fi.2.1,fi.2.2.2.2.1,fi.2.2.2.2.2⟩
  refine⟨197,_,I2,rfl,⟨_,x,rfl,fT,rfl,λys hy=>by rw [I.uF hy hq];exact hx⟩,⟨⟨_,Q0⟩,Hc.at λo q=>(sb.2 it Kd.symm).trans q⟩,λb hb=>?_⟩;have sU:H b=none/\∃o,178:=by
   rcases aS.mp hb with rfl | hb
   .exact⟨fe.1,_,he⟩
   obtain rfl:b=it:=215
   obtain⟨o,q,_⟩:=hit;exact⟨fi.1,o,q⟩
  obtain⟨n,o,q⟩:=sU;rw [aj (lt b o q)];exact n
 done:=by
  intro X hP hw hK hc i ai s σ H E I hf st hg;subst hP hw hK;obtain⟨xs,hq,hx⟩:=hg;obtain⟨aN,rv,p,hz⟩:=I.tuple hq;obtain⟨⟨old,he⟩,hit⟩:=st;obtain⟨f0,f1,f2,f3,f4,f5⟩:=hf it 125;have hl:=rv.length;exact Eb (I.ok.hd hc) he hit (show s.heap.IsTuple a aN.toArray from p) (by simp;omega) 338
 self:=λ_ _ _ _ _ st h=>oK st.1.choose_spec h
def Np (K:aV)(ta:TA):TI:=λσ H R=>ta σ H λvs H1=>Tr vs (aZ K H1) λa=>R (tW K a) H1
def nU {X:Cx}{k:Nat}{l:Expr}{ta:TA}(hg:Gl X "enumerate")(hm:X.mg "enumerate"=none)(ha:PA X [l] ta)(hs:starEach [l] X.env=[(false,eval l X.env)]:=by rfl) :
  PI X (.Tuple elts k wc) (.Call (.Name "enumerate" p) [l] [] pos) (Np X.K ta):=by
 intro ai s σ H R I h;refine Call_ (gM I hg hm pN (q9 270 hs rfl));obtain⟨vs,H1,I1,r1,q1⟩:=aW;obtain⟨a,xs,e,hq,q⟩:=q1;subst e;obtain⟨u,rfl,rx⟩:=r1.one;cases rx;obtain⟨aN,rv,pl,hz⟩:=I1.tuple hq;refine BA (show s1.heap.IsTuple a aN.toArray from pl) λh1 he hit hk=>oK he ?_;refine⟨s1.heap.objs.size+1,[s1.heap.objs.size+1,s1.heap.objs.size],_,_,H1,rfl,I1.kept (t':=s1.toks) λb o e=>hk b o e,zY a _ _ (iw (jL _)),⟨⟨_,he⟩,hit⟩,λb hb=>?_,q⟩;rcases aS.mp hb with rfl | hb
 .exact I1.kA (hJ _) (I1.bw.fresh (hJ _))
 obtain rfl:b=s1.heap.objs.size:=215
 exact I1.kA (aG _) (I1.bw.fresh (aG _))
open PySem PySem.Spec PyProof.Rows PySem.W
def jQ (c':Addr)(qual:Str):HO:=.ext λh=>h.CodeRec (.ref c') qual
def pB (f:Addr)(o:Obj):HO:=.ext λh=>h.get? f=111
def zh {w:World}{h:Heap}(hr:h.CodeRec (.ref c') qual):b8 P w H h c' (jQ c' qual):=by
 obtain⟨c2,oc,vs,t,e,zE,hd,hv⟩:=id hr;cases e;exact⟨hr,⟨oc,zE⟩,λh1 h2 ⟨c3,oc3,vs3,t3,e3,V0,ir,OG⟩ k=>by cases e3;exact⟨_,oc3,vs3,t3,rfl,k _ V0,ir,OG⟩⟩
def qQ {w:World}{h:Heap}{f:Addr}{o:Obj}(e:h.get? f=111):b8 P w H h f (pB f o):=⟨e,⟨o,e⟩,λ_ _ q k=>k _ q⟩
def Tab (T:Addr)(pos:Pos)(qual:Str)(H:Hp):Prop :=
 ∃ps,H T=some (.ub ps)/\TriplesOk ps.toList/\(codeAmong pos ps.toList=none\/∃c',codeAmong pos ps.toList=some (.ref c')/\H c'=some (jQ c' qual))
def fq (T:Addr)(H H':Hp):Prop:=∀b o,b≠T->H b=111->H' b=111
def t_ (mg:z0c)(base:Heap):Prop :=
 ∃bm o,mg "__builtins__"=some (.ref bm)/\bm≠builtinsNs/\bm≠mainGlobals/\base.get? bm=111/\o.cls=.type "module" /\ o.dict=some builtinsNs/\o.data=.plain
theorem ju {a b:Int}{ta tb:Tok}{c:Value}:∀l:z0m,TriplesOk l->TriplesOk (l++[.int a ta,.int b tb,c])
 | [],_=>trivial
 | [x],h=>by cases x <;> exact h.elim
 | [x,y],h=>by cases x <;> cases y <;> exact h.elim
 | x::y::z::r,h=>by
  cases x with
  | int i ti =>
   cases y with
   | int j tj=>exact ju r h
   | _=>exact h.elim
  | _=>exact h.elim
section
variable {X:Cx}{params:Arguments}{body:Expr}{scope:Scope}{pos:Pos}{c T:Addr}
abbrev mv (X:Cx)(params:Arguments)(body:Expr)(scope:Scope)(c':Addr)(fV:Value):Obj:=kla_obj "<lambda>" (X.env.qual ++ "<lambda>") params body scope [] ((X.mg "__name__").getD .none) c' fV
def T6 (X:Cx)(params:Arguments)(body:Expr)(scope:Scope)(pos:Pos)(T:Addr):TE:=λσ H Q=>Tab T pos (X.env.qual ++ "<lambda>") H /\
 ∀f c' fV H',fq T H H'->Tab T pos (X.env.qual ++ "<lambda>") H'->H f=none->H' f=some (pB f (mv X params body scope c' fV))->H' c'=some (jQ c' (X.env.qual ++ "<lambda>"))->Q (.ref f) H'
def Ga (sQ:X.env.code=.ref c)(hC:codeHdIn X.K c T=true)(hB:t_ X.mg X.base)(n_:∀y∈scope.names,y.2≠.free)(Hh:defaultsOf params X.env=([],[]):=by rfl):PE X (.Lambda params body scope pos) (T6 X params body scope pos T):=by
 intro ai s σ H Q I h;obtain⟨⟨ps,hT,ht,Hi⟩,q⟩:=h;refine kla_eval Hh ?_;have NI:s.heap.get? T=some (tabObj ps):=(show b8 X.prog X.w H s.heap T (.ub ps) from I.bw T _ hT);have hg:=I.mod.glob.keeps I.bk;have C:=codeHd_of_K I.kx hC;obtain⟨bm,ob,b1,b2,b3,b4,b5,b6,b7⟩:=hB;have XE:=I.bk _ _ b4;have U5:bm≠T:=λz=>by
  have:=(I.bs _ _ b4).2;rw [z,hT] at this;cases this
 have UZ:mainGlobals≠T:=λz=>by
  obtain⟨o,es,ep,e,d,_⟩:=hg;rw [z,NI] at e;cases e;cases d
 have Rh:s.heap.BuiltinsAt X.mg T:=⟨bm,ob,b1,b2,b3,U5,XE,b5,b6,b7⟩;have Ig:∀b v,H b=some v->b < s.heap.objs.size:=λb v e=>I.bw.lt e;rcases Hi with QS | ⟨c',hf,iK⟩
 .refine kla_makeFunction (closureFor_none n_) I.ok.glob hg sQ C NI ht QS UZ Rh λc' fV h' tk hx J_ iM G8 QD=>?_;have hcr:∃oc,h'.get? c'=some oc:=by
   obtain⟨c2,oc,vs,t,e,zE,_⟩:=G8;cases e;exact⟨oc,zE⟩
  have sO:h'.objs.size > s.heap.objs.size:=oR J_ iM;have keep:∀b o,b≠T->178->(h'.push (mv X params body scope c' fV)).get? b=111:=λb o n e=>a_ _ (hx b o n e)
  let H':Hp:=upd (upd (upd H T (.ub (ps++#[rawInt pos.line,rawInt pos.col,.ref c']))) c' (jQ c' (X.env.qual ++ "<lambda>"))) h'.objs.size (pB h'.objs.size (mv X params body scope c' fV))
  have A5:∀b v,H b=some v->b≠c'/\b≠h'.objs.size:=λb v e=>⟨bp (dX (Ig b v e) J_),bp (lQ (Ig b v e) sO)⟩;have U4:c'≠h'.objs.size:=bp iM;have Qc:=A5 T _ hT;have eT:H' T=some (.ub (ps++#[rawInt pos.line,rawInt pos.col,.ref c'])):=by
   show upd (upd (upd H T _) c' _) h'.objs.size _ T=_;rw [aj Qc.2,aj Qc.1,ae]
  have ec:H' c'=some (jQ c' (X.env.qual ++ "<lambda>")):=by
   show upd (upd (upd H T _) c' _) h'.objs.size _ c'=_;rw [aj U4,ae]
  have ef:H' h'.objs.size=some (pB h'.objs.size (mv X params body scope c' fV)):=ae;have eo:∀b,b≠T->b≠c'->b≠h'.objs.size->H' b=H b:=λb n1 n2 n3=>by
   show upd (upd (upd H T _) c' _) h'.objs.size _ b=_;rw [aj n3,aj n2,aj n1]
  have sT:fq T H H':=λb o n e=>by rw [eo b n (A5 b o e).1 (A5 b o e).2];exact e
  have I2:Inv X ai σ H' { s with heap:=h'.push (mv X params body scope c' fV),toks:=tk }:=by
   refine I.call (g':=s.gens) (t':=tk) (d':=s.drawn) (ch:=[]) ⟨λb o e n _ _=>keep b o (λz=>by rw [z,hT] at n;cases n) e,λb o e n _ _=>⟨o.slots,keep b o (λz=>by rw [z,hT] at n;cases n) e⟩,λb o e n _=>?_,λb o e _=>?_,λb xs e=>?_,λb o u e=>?_,λb UA e=>?_⟩ (λb v e=>?_) I.bare (λb hb=>nomatch hb)
   .have lb:=aP e;rw [eo b (λz=>by rw [z,hT] at n;cases n) (bp (dX lb J_)) (bp (lQ lb sO))];exact n
   .by_cases z:b=T
    .exact⟨_,by rw [z];exact a_ _ QD⟩
    exact⟨o,keep b o z e⟩
   .exact sT b _ (λz=>by rw [z,hT] at e;cases e) e
   .exact sT b _ (λz=>by rw [z,hT] at e;cases e) e
   .by_cases z:b=T
    .subst z;rw [hT] at e;cases e;exact⟨_,eT⟩
    exact⟨#[],by rw [vH];exact sT b _ z e⟩
   by_cases z1:b=h'.objs.size
   .subst z1;rw [ef] at e;cases e;exact qQ (cu _ rfl)
   by_cases z2:b=c'
   .subst z2;rw [ec] at e;cases e;refine zh ?_;obtain⟨c2,oc,vs,t,e',zE,hd,hv⟩:=G8;cases e';exact⟨_,oc,vs,t,rfl,a_ _ zE,hd,hv⟩
   by_cases z3:b=T
   .subst z3;rw [eT] at e;cases e;exact a_ _ QD
   rw [eo b z3 z2 z1] at e;refine(I.bw b v e).gH (λd o DU e'=>?_) (λd e'=>sT d _ (λz=>by rw [z,hT] at e';cases e') e') λd ys e'=>sT d _ (λz=>by rw [z,hT] at e';cases e') e';rcases DU with rfl | DU
   .exact keep d o z3 e'
   exact keep d o (λz=>by rw [z,hT] at DU;cases DU) e'
  have fresh:H h'.objs.size=none:=I.bw.fresh (j3 sO);exact⟨.ref h'.objs.size,H',I2,rfl,q _ c' fV H' sT ⟨_,eT,by rw [rp];exact ju _ ht,.inr ⟨c',by rw [rp];exact codeAmong_snoc _ ht QS,ec⟩⟩ fresh ef ec⟩
 refine kla_makeFunctionHit (closureFor_none n_) I.ok.glob hg sQ C NI ht hf Rh λfV h' tk hk hsz=>?_;have keep:∀b o,178->(h'.push (mv X params body scope c' fV)).get? b=111:=λb o e=>a_ _ (hk b o e);have fresh:H h'.objs.size=none:=I.bw.fresh hsz;refine⟨.ref h'.objs.size,_,I.laid (a:=h'.objs.size) (o:=pB h'.objs.size (mv X params body scope c' fV)) (t':=tk) keep hsz (qQ (cu _ rfl)),rfl,?_⟩;refine q _ c' fV _ (λb o _ e=>by rw [aj (aq e fresh)];exact e) ⟨ps,by rw [aj (aq hT fresh)];exact hT,ht,.inr ⟨c',hf,by rw [aj (aq iK fresh)];exact iK⟩⟩ fresh ae (by rw [aj (aq iK fresh)];exact iK)
end
section
variable {P:Program}{w:World}{K:Frag}{mg:z0c}{base:Heap}{f c':Addr}{q:Str}{params:Arguments}{body:Expr}{scope:Scope}{pm fV:Value}{N ps:z0r}{k:Nat}{te:TE}
def JV (S:aJ N ps scope)(sS:∀us:z0m,us.length=ps.length->bindArgs (kla_fn "<lambda>" q params body scope [] pm (.ref c') fV) ⟨us,[]⟩=pure (ps.zip us))
  (g_:∀(A:Around)(outer:List Env)(s:Shared)(H:Hp),PE (eY fN P w K mg base N q scope f (.ref c') A outer s H λ_ _ _=>False) body te)
  (A:Around)(outer:List Env)(s:Shared)(H:Hp)(us:z0m)(vs:115)(Q:VK)(hr:dG (k+1) A)(e0:zA P w K mg base A outer s H)(hf:H f=some (pB f (kla_obj "<lambda>" q params body scope [] pm c' fV)))
  (hc:H c'=some (jQ c' q))(rv:aY vs us)(hl:vs.length=ps.length)(h:te (start N vs) H Q):codeAny (model P w) A (.call (.ref f) ⟨us,[]⟩) (CR fN outer P w H s Q λ_ _ _=>False) s:=by
 obtain⟨ef,_⟩:=e0.bw f _ hf;obtain⟨ec,_⟩:=e0.bw c' _ hc;have lu:us.length=ps.length:=by rw [<-rv.length];exact hl
 have lim:s.heap.NoLimit:=e0.mod.nolimit.keeps λb o e=>(e0.bs b o e).1;have jh:∀y∈ps.zip us,scope.names.lookup y.1=some .local\/(scope.names.lookup y.1=some .cell/\((cellsFrom 190 scope.names []).lookup y.1).isSome=true):=λ⟨n,v⟩ hy=>by
  rcases S.par n (List.of_mem_zip hy).1 with z | z
  .exact .inl z
  exact .inr ⟨z,cellsFrom_some _ _ _ (.inl z)⟩
 refine kla_callFunE hr.depth ef rfl S.co S.gen rfl ec ?_;rw [sS us lu];refine aK (wpAny_newFunctionEnv_cells S.kind jh λenv he s1 x=>?_);subst he;refine⟨lim.keeps x.toInCall.keep,kla_codeExpr ?_⟩;have I:Inv (eY fN P w K mg base N q scope f (.ref c') A outer s H λ_ _ _=>False) [] (start N vs) H s1:=u9 S hr.hd e0 hl rv x;refine cH (g_ A outer s H [] s1 (start N vs) H _ I h) (λv s' aW=>?_) λe s' z=>z;obtain⟨y,H',J,r,z⟩:=aW;exact⟨y,H',J.os,J.bare,J.base,J.bw,r,z⟩
end
section
variable {X:Cx}{i:Nat}{x:Str}{e:Expr}{es:z0p}{t:TA}{p pos:Pos}{q:Str}{params:Arguments}{body:Expr}{scope:Scope}{N ps:z0r}{k:Nat}{te:TE}
def E_ (i:Nat)(q:Str)(params:Arguments)(body:Expr)(scope:Scope) (N ps:z0r)(t:TA)(te:TE):TE:=λσ H Q=>∃f pm c' fV,σ[i]?=some (some (.ref f)) /\
 t σ H λvs H1=>H1 f=some (pB f (kla_obj "<lambda>" q params body scope [] pm c' fV))/\H1 c'=some (jQ c' q)/\vs.length=ps.length/\te (start N vs) H1 Q
def AJ (hN:X.N[i]?=some x)(hx:X.env.scope.names.lookup x=some .local)(S:aJ N ps scope)(hr:dG (k+1) X.A)
  (sS:∀(pm fV:Value)(c':Addr)(us:z0m),us.length=ps.length->bindArgs (kla_fn "<lambda>" q params body scope [] pm (.ref c') fV) ⟨us,[]⟩=pure (ps.zip us))
  (g_:∀(f c':Addr)(A:Around)(outer:List Env)(s:Shared)(H:Hp),PE (eY fN X.prog X.w X.K X.mg X.base N q scope f (.ref c') A outer s H λ_ _ _=>False) body te)(ha:PA X (e::es) t)
  (qC:267:=by decide)(he:292:=by rfl)(mE:(backTo pos (starEach es X.env)).any 56=false:=by rfl) :
  PE X (.Call (.Name x p) (e::es) [] pos) (E_ i q params body scope N ps t te):=by
 intro ai s σ H Q I h;obtain⟨f,pm,c',fV,hσ,h⟩:=h;obtain⟨m,hn,hl⟩:=I.loc;obtain⟨u,ru,lk⟩:=hl i x (.ref f) hN hσ (.inl hx);cases (show u=Value.ref f from ru);have hm:m x=some (.ref f):=by
  rcases lk with l | ⟨l,_⟩
  .exact l.2
  have l':X.env.scope.names.lookup x=some .cell\/X.env.scope.names.lookup x=some .free:=l;rw [hx] at l';rcases l' with l' | l' <;> cases l'
 refine jM (wpAny_Name (vL I.ok.kind hx hn hm ?_) qC);refine callWith_def (o:=kla_obj "<lambda>" q params body scope [] pm c' fV) rfl 270 he;obtain⟨vs,H1,I1,r,z1,z2,z3,z4⟩:=aW;obtain⟨ef,_⟩:=I1.bw f _ z1;refine⟨ef,fC (iY (JV (k:=k) S (λus hl=>sS pm fV c' us hl) (g_ f c') X.A X.stack s1 H1 us vs Q hr I1.Ea z1 z2 r z3 z4) λr' s' z=>?_)⟩;cases r' with
 | error e=>exact z.elim
 | ok fl =>
  cases fl with
  | ret u=>exact I1.after z
  | next=>exact z.elim
  | brk=>exact z.elim
  | cont=>exact z.elim
end
def Ia (ts:z0o)(H:Hp):Prop:=∀b,H b=none\/(∃o xs,H b=some (.kT o (.lst xs)))\/(b∈ts/\H b=some (.ub #[]))
def DM {w:World}{K:Frag}{k:Nat}{fa a:Addr}{x:Str}{sp:Sp}{s₁:Shared}{vs:z0m}{ns:z0s}{ts:z0o}
  (KX:K.In s₁.heap)(qR:s₁.heap.Ns mainGlobals mg)(hb:s₁.heap.Ns builtinsNs mb)(Rb:∀x:Str,x ≠ "__name__" -> mb x=bootBuiltins x)(V7:s₁.heap.NoLimit)
  (hbm:∃bm ob,mg "__builtins__"=some (.ref bm)/\bm≠builtinsNs/\s₁.heap.get? bm=some ob/\ob.cls=.type "module" /\ ob.dict=some builtinsNs/\ob.data=.plain)(hg:s₁.gens=#[])
  (Nt:∀T∈ts,s₁.heap.get? T=some (tabObj #[])/\K.lookup T=none/\∃c,codeHdIn K c T=true)
  (ha:s₁.heap.get? a=some { cls:=.type "list",data:=.seq vs.toArray })(hi:IntsAre vs ns)(hl:ns.length<=sizeLine)(hr:dG k callerA)
  (F:∀base:Heap,K.In base->base.Ns mainGlobals mg->t_ mg base->bF P w K mg base CX k fa fd [x] sp)(sS:∀(s:Shared)(u:Value),BindsTo s fd ⟨[u],[]⟩ [(x,u)])
  (zD:∀H:Hp,Ia ts H->(∀T∈ts,H T=some (.ub #[]))->aF K H a (ns.map V.int)->sp [.ref a] H (λv _=>v=.bl true) λ_ _ _=>False)
  (WG:∀H e s',CX [] H s₁ (λ_ _ _=>False) e s'->False) :
  codeAny (model P w) callerA (.call (.ref fa) ⟨[.ref a],[]⟩) (λr s'=>r=.ok (.ret (.bool true))/\OldK s₁.heap s'.heap/\s'.os=s₁.os/\AllBare s'.gens) s₁:=by
 have rv:=uD hi;have Vm:=hi.length;have core:∀H:Hp,Ia ts H->(∀T∈ts,H T=some (.ub #[]))->aF K H a (ns.map V.int)->lM P w H s₁.heap->(∀b,H b≠none->b=a\/b∈ts)->(H a≠none->K.lookup a=none) ->
   codeAny (model P w) callerA (.call (.ref fa) ⟨[.ref a],[]⟩) (λr s'=>r=.ok (.ret (.bool true))/\OldK s₁.heap s'.heap/\s'.os=s₁.os/\AllBare s'.gens) s₁:=by
  intro H hO hT hS bw hA hK;have xC:∀{b:Addr}{o:Obj},s₁.heap.get? b=111->H b=none->(uq s₁.heap H).get? b=111:=λe n=>Hd e n;have off:∀{b:Addr}{o:Obj},s₁.heap.get? b=111->(∀aN n,o.data≠.seq aN n)->(∀fs,o.data≠.fields fs)->H b=none:=λ{b o} e d1 d2=>by
   cases q:H b with
   | none=>rfl
   | some u =>
    rcases hA b (by rw [q];simp) with e' | e'
    .subst e';rw [ha] at e;cases e;exact(d1 _ _ rfl).elim
    rw [(Nt b e').1] at e;cases e;exact(d2 _ rfl).elim
  have Si:∀{b:Addr}{m:z0c},s₁.heap.Ns b m->(uq s₁.heap H).Ns b m:=λ{b m} ⟨o,es,ep,e,d,r⟩=>⟨o,es,ep,xC e (off e (λ_ _ z=>by rw [d] at z;cases z) λ_ z=>by rw [d] at z;cases z),d,r⟩;have Zz:K.In (uq s₁.heap H):=λb o e=>xC (KX b o e) (by
   cases q:H b with
   | none=>rfl
   | some u =>
    rcases hA b (by rw [q];simp) with e' | e'
    .subst e';rw [hK (by rw [q];simp)] at e;cases e
    rw [(Nt b e').2.1] at e;cases e)
  have hM:Mod K mg (uq s₁.heap H):=⟨Zz,Si qR,⟨mb,Si hb,Rb⟩,let ⟨mc,h1,h2⟩:=V7;⟨mc,Si h1,h2⟩⟩;have Rg:t_ mg (uq s₁.heap H):=by
   obtain⟨bm,ob,b1,b2,b3,b4,b5,b6⟩:=hbm;refine⟨bm,ob,b1,b2,λz=>?_,xC b3 (off b3 (λ_ _ z=>by rw [b6] at z;cases z) λ_ z=>by rw [b6] at z;cases z),b4,b5,b6⟩;obtain⟨o,es,ep,e,d,_⟩:=qR;rw [<-z,b3] at e;cases e;rw [b6] at d;cases d
  have e0:zA P w K mg (uq s₁.heap H) callerA [] s₁ H:=⟨rfl,hM,λb o e=>JK e,Nat.le_of_eq (DT _ _),trivial,λb hb=>absurd (show b∈([]:z0o) from hb) 125,bw,.of_eq hg⟩;refine iY ((F _ Zz (Si qR) Rg).run callerA [] s₁ H ⟨[.ref a],[]⟩ [.ref a] [.ref a] _ _ hr e0 (sS s₁ (.ref a)) (.cons rfl .nil) (zD H hO hT hS)) λr s' h=>?_;cases r with
  | error e=>exact(WG H e s' h).elim
  | ok fl =>
   cases fl with
   | next=>exact False.elim h
   | brk=>exact False.elim h
   | cont=>exact False.elim h
   | ret u =>
    obtain⟨v,H',os,bare,un,QO,r',q⟩:=h;have q':v=.bl true:=q;subst q';obtain rfl:u=Value.bool true:=r';have each:∀b o,s₁.heap.get? b=111->asItWas s₁.heap s'.heap b o/\∃o',s'.heap.get? b=some o':=λb o e=>by
     cases q:H b with
     | none =>
      have z:=un.keep b o e q (by intro z;exact absurd (show b∈([]:z0o) from z) 125) 125;exact⟨.inl z,o,z⟩
     | some u =>
      rcases hO b with z | ⟨ob,xs,z⟩ | ⟨sU,z⟩
      .rw [q] at z;cases z
      .have z2:=un.qF b ob _ z;obtain⟨e1,_⟩:=bw b _ z;obtain⟨e2,_⟩:=QO b _ z2;rw [e] at e1;cases e1;exact⟨.inl e2,_,e2⟩
      obtain⟨more,z2⟩:=un.qv b _ z;have e2:s'.heap.get? b=some (tabObj (#[]++more)):=QO b _ z2;rw [(Nt b sU).1] at e;cases e;obtain⟨c,hc⟩:=(Nt b sU).2.2;obtain⟨oc,vs',file,tf,flags,tg,inF,text,tt,d1,d2,d3,d4,_⟩:=codeHd_of_K KX hc;exact⟨.inr (.inl ⟨⟨c,oc,vs',d1,d2,d3,d4⟩,rfl,#[],more,rfl,e2⟩),_,e2⟩
    exact⟨rfl,⟨λb o e=>(each b o e).1,λb o e=>(each b o e).2⟩,os,bare⟩
 have na:a∉ts:=λz=>by
  have:=(Nt a z).1;rw [ha] at this;cases this
 cases hk:K.lookup a with
 | some o =>
  have e:=KX a o hk;rw [ha] at e;cases e;refine core (λb=>if b∈ts then some (.ub #[]) else none) (λb=>?_) (λT h=>aA h) (.inr ⟨_,vs.toArray,_,hk,rfl,rfl,rfl,by rw [cb,Vm];exact hl,by simpa using rv⟩) (λb u z=>?_) (λb z=>?_) λz=>absurd (az na) z
  .by_cases h:b∈ts
   .exact .inr (.inr ⟨h,aA h⟩)
   exact .inl (az h)
  .by_cases h:b∈ts
   .have z':=(aA h).symm.trans z;cases z';exact(Nt b h).1
   have z':=(az h).symm.trans z;cases z'
  by_cases h:b∈ts
  .exact .inr h
  exact absurd (az h) z
 | none =>
  refine core (λb=>if b=a then some (.kT { cls:=.type "list",data:=.seq vs.toArray } (.lst (ns.map V.int))) else if b∈ts then some (.ub #[]) else none) (λb=>?_) (λT h=>?_) (.inl (.inr ⟨{ cls:=.type "list",data:=.seq vs.toArray },aA rfl⟩)) (λb u z=>?_) (λb z=>?_) λ_=>hk
  .by_cases hb:b=a
   .exact .inr (.inl ⟨_,_,aA hb⟩)
   by_cases h:b∈ts
   .exact .inr (.inr ⟨h,(az hb).trans (aA h)⟩)
   exact .inl ((az hb).trans (az h))
  .exact(az (λz:T=a=>na (z ▸ h))).trans (aA h)
  .by_cases hb:b=a
   .have z':=(aA hb).symm.trans z;cases z';subst hb;exact⟨ha,by rw [aC];exact hl,vs,_,rv,ha⟩
   by_cases h:b∈ts
   .have z':=((az hb).trans (aA h)).symm.trans z;cases z';exact(Nt b h).1
   have z':=((az hb).trans (az h)).symm.trans z;cases z'
  by_cases hb:b=a
  .exact .inl hb
  by_cases h:b∈ts
  .exact .inr h
  exact absurd ((az hb).trans (az h)) z
def E6 {l:OpenLaw}{n k:Nat}{q:Program}{loose:z0r}{d:DefRec}{K:Params->Frag}{CX:World->EY}{sp:World->Sp}{x:Str}{ts:z0o}
  (hn:l.most=some n)(Lu:n<=sizeLine)(Q4:d.params.defaults=[])(hr:dG k callerA)
  (hY:∀(w:World)(h:Heap),YP w h->(K w.params).In h/\∀T∈ts,h.get? T=some (tabObj #[]))
  (hK:∀w:World,∀T∈ts,(K w.params).lookup T=none/\∃c,codeHdIn (K w.params) c T=true)
  (F:∀(w:World)(mg:z0c)(fa:Addr)(h:Heap),(K w.params).In h->h.Ns mainGlobals mg->mg d.name=some (.ref fa) ->
   ∃fd:FuncData,(∀(s:Shared)(u:Value),BindsTo s fd ⟨[u],[]⟩ [(x,u)]) /\
    ∀base:Heap,(K w.params).In base->base.Ns mainGlobals mg->t_ mg base->bF l.prog w (K w.params) mg base (CX w) k fa fd [x] (sp w))
  (zD:∀(w:World)(H:Hp)(a:Addr)(ns:z0s),ns.length<=n->Ia ts H->(∀T∈ts,H T=some (.ub #[]))->aF (K w.params) H a (ns.map V.int)->sp w [.ref a] H (λv _=>v=.bl true) λ_ _ _=>False)
  (WG:∀(w:World)(H:Hp)(s:Shared)(e:Value)(s':Shared),CX w [] H s (λ_ _ _=>False) e s'->False) :
  WalkO q loose XP YP l.row.toRowW d [] (λf vs=>PySem.call f vs):=by
 refine KN.zo hn Q4 λw s₀ s₁ mg mb fa o pm cd doc a vs ns G Y ho hd sR QT Ny hints bN hg=>?_;obtain⟨KX,TX⟩:=hY w _ Y;obtain⟨fd,hb,hF⟩:=F w mg fa _ KX G.T.g QT;exact DM KX G.T.g G.T.b G.T.builtins G.T.nolimit G.T.bmain hg (λT hT=>⟨TX T hT,hK w T hT⟩) Ny hints (cI bN Lu) hr hF hb (λH hO hT hS=>zD w H a ns bN hO hT hS) λH e s'=>WG w H s₁ e s'
def bH {X:Cx}{scope:Scope}{js:z0i}(h:(js.all λp=>X.N[p.1]? == some p.2 && X.env.scope.names.lookup p.2 == some .cell && scope.names.lookup p.2 == some .free)=true)
  (h2:(scope.names.all λy=>y.2 != .free || X.env.scope.names.lookup y.1 == some .cell)=true):KJ X scope js:=by
 refine⟨λp hp=>?_,λy hy=>?_⟩
 .have:=dW.mp h p hp;simp only [jK,beq_iff_eq] at this;exact⟨this.1.1,this.1.2,this.2⟩
 have:=dW.mp h2 _ hy;simpa using this
def zF {σ:St}{A B:Hp->Prop}(h:A H):jc σ H λb H3=>if b=true then A H3 else B H3:=by
 show if true=true then A H else B H;exact lB h
def goN {i:Nat}{v:V}{σ:St}{Q:148}(h:Q (σ.set i (some v)) H):eA i v σ H Q:=h
def fQ (x y:Str):(x++y).length=x.length+y.length:=by
 show (x.cps++y.cps).size=_;rw [Array.size_append];rfl
def HK (ns:z0s)(lo hi:z0n):∃EL:z0s,fM (ns.map V.int) lo hi=EL.map V.int/\(∀n∈EL,n∈ns)/\EL.length<=ns.length :=
 ⟨(ns.drop (HT.kZ (ns.map V.int).length 0 lo)).take (HT.kZ (ns.map V.int).length (ns.map V.int).length hi - HT.kZ (ns.map V.int).length 0 lo),by unfold fM;rw [<-List.map_drop,<-List.map_take],λn hn=>List.mem_of_mem_drop (vR hn),by rw [d7,ng];omega⟩
def G5 {X:Cx}(K:aV)(hK:X.K=K:=by rfl):RW X (PR K):=by
 subst hK;exact aQ
def iT {X:Cx}{es:z0p}{k:Nat}{t:LS}{n:Nat}{pos:Pos}(K:aV)(hc:X.calm=true)(h:RR X es t)(hK:X.K=K:=by rfl)
  (hn:(assignEach es X.env).length=n:=by rfl)(lI:(assignEach es X.env).findIdx? 56=none:=by rfl):PG X (.Tuple es k pos) (DY K n t):=by
 subst hK;exact e_ hc h hn lI
end L2
section
variable {P:PySem.Program}{w:PySem.World}{K:aV}{mg:PySem.Str->Option PySem.Value}{base:PySem.Heap}{f:PySem.Addr}{fd:PySem.FuncData}
namespace eZ
open PySem L2
def top (i:Nat):Stmt:=PySem.Challenge.pw_wright_k19_vast_trees.main.body.getD i (.Pass ⟨0,0,0,0⟩)
abbrev Au:Stmt:=top 2
abbrev Al:Stmt:=top 3
abbrev rW:Stmt:=top 7
abbrev wF:Stmt:=top 8
abbrev Av:Stmt:=top 9
abbrev FC:Stmt:=top 26
abbrev Ao:Stmt:=top 27
abbrev Mz:Stmt:=top 28
abbrev rS:Stmt:=top 30
abbrev wH:Stmt:=top 31
abbrev nJ:Stmt:=top 32
abbrev wD:Stmt:=top 35
abbrev Am:Stmt:=top 36
abbrev MC:Stmt:=top 37
abbrev yd:Stmt:=top 44
abbrev FA:Stmt:=top 4
abbrev MA:Stmt:=top 5
abbrev nK:Stmt:=top 39
abbrev pd:Stmt:=top 40
abbrev rV:Stmt:=top 41
abbrev sLT:Stmt:=top 42
structure Txt (mg:z0c):Prop where
 len:mg "len"=none
 Im:mg "range"=none
 Bb:mg "isinstance"=none
 tup:mg "tuple"=none
 lst:mg "list"=none
 xO:mg "dict"=none
 all:mg "all"=none
 any:mg "any"=none
 str:mg "str"=none
 int:mg "int"=none
 boo:mg "bool"=none
 IB:mg "enumerate"=none
 sum:mg "sum"=none
 max:mg "max"=none
 min:mg "min"=none
section
def boot_all:bootBuiltins "all"=some (.builtin "all"):=by decide +kernel
def gq:bootBuiltins "list"=some (.type "list"):=by decide +kernel
def fk:bootBuiltins "dict"=some (.type "dict"):=by decide +kernel
end
end eZ
namespace L2
open PySem
def aT {K:aV}{D a:Addr}{xs ys:115}{o:HO}(hD:H D=some (.lst ys))(h:aZ K H a xs):aZ K (upd H D o) a xs:=by
 rcases h with (h | ⟨u,h⟩) | h
 .exact .inl (.inl (by rw [aj (λz=>by rw [z,hD] at h;cases h)];exact h))
 .exact .inl (.inr ⟨u,by rw [aj (λz=>by rw [z,hD] at h;cases h)];exact h⟩)
 exact .inr h
def xE (kvs:140)(k:aR):(kvs.any λkv=>decide (kv.1=k))=true↔k∈kvs.map 56:=by
 rw [List.any_eq_true,cQ];constructor
 .rintro⟨x,h1,h2⟩;exact⟨x,h1,dJ h2⟩
 rintro⟨x,h1,h2⟩;exact⟨x,h1,ff h2⟩
def AF {kvs:140}{k:aR}{v:V}(h:k∈kvs.map 56):(bP kvs k v).map 56=kvs.map 56:=by
 unfold bP;rw [aA ((xE kvs k).mpr h),iN];refine oS λx hx=>?_;show (if x.1=k then (x.1,v) else x).1=x.1
 split <;> rfl
def iR {kvs:140}{k:aR}{v:V}(h:¬k∈kvs.map 56):(bP kvs k v).map 56=kvs.map 56++[k]:=by
 unfold bP;rw [az (λz=>h ((xE kvs k).mp z)),bA];rfl
def eF (kvs:140)(k:aR):(ba kvs k).isSome=true↔k∈kvs.map 56:=by
 rw [<-ja];exact xE kvs k
theorem cO {α β γ:Type}{F:α->β->Prop}{G:α->γ->Prop}{φ:β->γ}:∀{xs:List α}{ys:List β},Paired F xs ys->(∀a b,F a b->G a (φ b))->Paired G xs (ys.map φ)
 | _,_,.nil,_=>.nil
 | _,_,.cons h t,k=>.cons (k _ _ h) (cO t k)
def cW {l:z0r}:(127:aR)∈l.map Sum.inr↔z∈l:=by
 rw [cQ];constructor
 .rintro⟨x,h1,h2⟩;rw [<-lO h2];exact h1
 intro h;exact⟨z,h,rfl⟩
end L2
namespace M11
abbrev aB:=PySem.Str×List PySem.Str
def gu (a:List PySem.Str)(h:PySem.Str):List PySem.Str:=if h∈a then a else a++[h]
def qU (bG hs:List PySem.Str):List PySem.Str:=hs.foldl gu bG
def addW (bY a:List PySem.Str)(p:PySem.Str):List PySem.Str:=if p∈bY then a else gu a p
def qa (bY bG ps:List PySem.Str):List PySem.Str:=ps.foldl (addW bY) bG
def OF (aa:113)(name:PySem.Str) (k:Nat):Bool:=decide ((aa[k]?.map 56)=some name)
def nums (aa:113)(name:PySem.Str) (i:Nat):z0s:=((List.range i).filter (OF aa name)).map λk:Nat=>(k:Int)
def Dz (aa:113)(name:PySem.Str) (i:Nat):nums aa name (i+1)=nums aa name i++(if OF aa name i=true then [(i:Int)] else []):=by
 unfold nums;rw [List.range_succ,i6,bA]
 congr 1
 by_cases h:OF aa name i=true
 .rw [aA h];simp [h]
 rw [az h];simp [h]
def yu (aa:113)(name:PySem.Str) (i:Nat):(nums aa name i).length<=i:=by
 unfold nums;rw [aC];have:=i8 (OF aa name) (List.range i);rw [oP] at this;exact this
def zq (a:List PySem.Str)(h:PySem.Str):(gu a h).length<=a.length+1:=by
 unfold gu;split <;> simp
theorem fw:∀(hs bG:List PySem.Str),(qU bG hs).length<=bG.length+hs.length
 | [],bG=>by simp [qU]
 | h::r,bG=>by
  have:=fw r (gu bG h);have:=zq bG h;show (qU (gu bG h) r).length<=_;rw [c_];omega
def HM (bY a:List PySem.Str)(p:PySem.Str):(addW bY a p).length<=a.length+1:=by
 unfold addW;split
 .omega
 exact zq a p
theorem wa (bY:List PySem.Str):∀(ps bG:List PySem.Str),(qa bY bG ps).length<=bG.length+ps.length
 | [],bG=>by simp [qa]
 | p::r,bG=>by
  have:=wa bY r (addW bY bG p);have:=HM bY bG p;show (qa bY (addW bY bG p) r).length<=_;rw [c_];omega
end M11
namespace eZ
open PySem L2 M11
def ku {bG:140}{as:z0r}(e:bG.map 56=as.map Sum.inr)(h:Str){v:V}:(bP bG (Sum.inr h) v).map 56=(gu as h).map Sum.inr:=by
 unfold gu;by_cases q:h∈as
 .rw [aA q,AF (by rw [e];exact cW.mpr q),e]
 rw [az q,iR (by rw [e];exact λz=>q (cW.mp z)),e,bA];rfl
theorem nZ:∀(hs:z0r)(bG:140) (as:z0r),bG.map 56=as.map Sum.inr->(cU (hs.map λh=>((Sum.inr h:aR),V.bl true)) bG).map 56=(qU as hs).map Sum.inr
 | [],bG,as,e=>e
 | h::r,bG,as,e=>by
  refine nZ r (bP bG (Sum.inr h) (.bl true)) (gu as h) ?_;exact ku e h
def keys_str {kvs:140}{zs:z0r}(e:kvs.map 56=zs.map Sum.inr):(kvs.map λp=>kV p.1)=zs.map V.str:=by
 have e2:(kvs.map λp=>kV p.1)=(kvs.map 56).map kV:=by rw [iN];rfl
 rw [e2,e,iN];rfl
section
def iI (K:aV)(H:Hp)(r:Addr)(ru:aB):Prop:=∃p,aZ K H r [.str ru.1,.ref p]/\aZ K H p (ru.2.map V.str)
def bj (K:aV)(H:Hp)(rs:z0o)(aa:113):Prop:=Paired (λr ru=>iI K H r ru) rs aa
def bj.keep {aa:113}(h:bj K H rs aa)(k:∀a xs,aZ K H a xs->aZ K H' a xs):bj K H' rs aa:=Paired.ij h λr ru ⟨p,a,b⟩=>⟨p,k _ _ a,k _ _ b⟩
def bj.same {aa:113}(h:bj K H rs aa)(s:aE H H'):bj K H' rs aa:=h.keep λ_ _ z=>s.tup z
def bj.get {aa:113}(h:bj K H rs aa){i:Nat}{r:Addr}(e:rs[i]?=some r):∃ru,aa[i]?=some ru/\iI K H r ru:=by
 have l:=bT h;have li:=(bM.mp e).1;have e2:aa[i]?=some (aa[i]'∅):=cN ∅;obtain⟨x,e3,e4⟩:=Paired.at_ h i _ e2;rw [e] at e3;cases e3;exact⟨_,e2,e4⟩
def tH {H:Hp}{R D:Addr}{rs:z0o}{aa:113}{σ:St}{Qp:Hp->Prop}(hR:aF K H R 162)(cT:bj K H rs aa)(bN:aa.length<=1000)(hD:H D=none)
  (q:∀ts H2,aE H H2->H2 D=217->Paired (λt h=>aZ K H2 t [.str h,.bl true]) ts (aa.map 56)->Qp H2) :
  ∃W:Nat->Nat->115->148,(∃m,W 0 m [] (eI ["head","parts"] [] σ) (upd H D 128)) /\
 ∀i m ys σ' H,W i m ys σ' H->((kF K R).stop i H/\Qp H)\/((kF K R).go i H/\∃m',m' < m/\∀x H',(kF K R).nu i H x H'->DY K 2 (ky (eA 0) (ky (eA 1) Hr)) x σ' H' λσ2 H2=>jc σ2 H2 λb H3 =>
  if b=true then ug (fZ (gw 0) (fZ (tC (.bl true)) qw)) σ2 H3 248 else W (i+1) m' ys σ2 H3):=by
 have ll:=bT cT;refine bX (xs:=143) (λi ys σ2 H2=>∃ts:z0o,ys=ts.map V.ref/\ts.length=i/\Paired (λt h=>aZ K H2 t [.str h,.bl true]) ts ((aa.take i).map 56)/\(∃y0 y1,σ2=[y0,y1])/\aE H H2/\H2 D=some (.lst ys))
  ⟨[],rfl,rfl,.nil,⟨none,none,rfl⟩,ah hD _,ae⟩ (λi ys σ2 H2 _ h=>?_) (λi x ys σ2 H2 ex h=>?_) (λys σ2 H2 h=>?_)
 .obtain⟨_,_,_,_,_,sm,_⟩:=h;exact sm.seq hR
 .obtain⟨ts,rfl,ht,hp,⟨y0,y1,rfl⟩,sm,hd⟩:=h;rw [bB] at ex;obtain⟨r,er,rfl⟩:=b9.mp ex;obtain⟨ru,e1,p,v1,v2⟩:=cT.get er;have li:=(bM.mp e1).1;refine⟨r,_,rfl,sm.tup v1,rfl,_,_,rfl,_,_,rfl,rfl,?_⟩;refine zF ?_;refine⟨_,rfl,lX,λt iL=>⟨?_,210,ts++[t],?_,?_,?_,⟨_,_,rfl⟩,?_,ae⟩⟩
  .rw [aj (aq hd iL)];exact hd
  .rw [bA];rfl
  .rw [bO,ht];rfl
  .rw [cM,e1,bA];have ir:upd H2 t (.tup [.str ru.1,.bl true]) D=217:=by rw [aj (aq hd iL)];exact hd
   exact gA (Paired.ij hp λt' h' z=>aT ir ((ah iL _).tup z)) (aT ir (aZ.of ae))
  intro b o hb;rw [254];exact ah iL _ _ _ (sm b o hb)
 obtain⟨ts,rfl,ht,hp,_,sm,hd⟩:=h;rw [aC,ll,dI] at hp;exact q ts H2 sm hd hp
def kJ (K:aV):Sp:=λvs H Q _=>∃(R:Addr)(rs:z0o)(aa:113),vs=[.ref R]/\aF K H R 162/\bj K H rs aa/\aa.length<=1000 /\
 ∀D H',H D=none->aE H H'->H' D=some (.lst ((qU [] (aa.map 56)).map V.str))->Q (.ref D) H'
def Ja:aJ ["rules"] ["rules"] (av Au):=182
def Gw (F:iu K "heads_of" "heads_of" Au f fd)(T:Txt mg):bF P w K mg base fN 1 f fd ["rules"] (kJ K):=by
 refine F.ok Ja 186 195
 .obtain⟨R,rs,aa,rfl,_⟩:=h;rfl
 obtain⟨R,rs,aa,rfl,hR,cT,bN,q⟩:=h;refine⟨_,ar (br (bh (mQ rfl) rfl T.lst gq (af (bh (d5 rfl) rfl T.xO fk (af
  (bV ["head","parts"] [] rfl (bq (pv 0)) (bH rfl rfl) nofun rfl nofun
   (λ_ _ _ _ _=>iT (n:=2) K rfl (aI (ay (i:=0) (show (["head","parts"]:z0r).Nodup by decide +kernel) rfl 116) (aI (ay (i:=1) (show (["head","parts"]:z0r).Nodup by decide +kernel) rfl 116) cy))) (λ_ _ _ _ _=>cJ)
   (λ_ _ _ _ _=>bJ (af (pv 0) (af eO ak)))) ak)) ak))),?_⟩
 dsimp only [pK];refine⟨_,rfl,R,rfl,⟨_,hR⟩,λD hD=>tH hR cT bN hD λts H2 sm hd hp=>?_⟩;have kp:Paired (λt (kv:aR×V)=>aZ K H2 t [kV kv.1,kv.2]) ts ((aa.map 56).map λh=>((Sum.inr h:aR),V.bl true)):=cO hp λ_ _ z=>z;refine⟨D,ts,_,rfl,hd,kp,λd hd2=>?_⟩;refine⟨d,_,rfl,ae,λD2 mJ=>?_⟩;rw [keys_str (nZ (aa.map 56) [] [] rfl)];have nd:D2≠d:=λz=>by rw [z,ae] at mJ;cases mJ
 exact q D2 _ (sm.free (by rw [aj nd] at mJ;exact mJ)) (sm.trans ((ah hd2 _).trans (ah mJ _))) ae
theorem jl:∀(aa:113) (n:Nat),aa.length<=n->250->(aa.flatMap (·.2)).length<=8 * n
 | [],n,_,_=>108
 | ru::r,n,hl,h=>by
  rw [c_] at hl;have:=jl r (n - 1) ∅ λx hx=>h x (cw _ hx);have:=h ru cx;rw [List.flatMap_cons,bO];omega
def hd (aa:113):z0r:=qU [] (aa.map 56)
def B7 (K:aV):Sp:=λvs H Q _=>∃(R:Addr)(rs:z0o)(aa:113),vs=[.ref R]/\aF K H R 162/\bj K H rs aa/\aa.length<=1000/\250 /\
 ∀D H',H D=none->aE H H'->H' D=some (.lst ((qa (hd aa) [] (aa.flatMap (·.2))).map V.str))->Q (.ref D) H'
def kK:aJ ["rules","heads","words","head","parts","part"] ["rules"] (av Al):=182
def Gj (F:iu K "words_in" "words_in" Al f fd)(T:Txt mg):bF P w K mg base fN 1 f fd ["rules"] (B7 K):=by
 refine F.ok kK 186 195
 .obtain⟨R,rs,aa,rfl,_⟩:=h;rfl
 obtain⟨R,rs,aa,rfl,hR,cT,bN,h8,q⟩:=h;have hu:=fU hr;refine⟨_,ao (aD (i:=1) kK.nd rfl 116 (bh (d5 rfl) rfl T.xO fk (af
  (bV ["head","parts"] [] rfl (bq (pv 0)) (bH rfl rfl) nofun rfl nofun
   (λ_ _ _ _ _=>iT (n:=2) K rfl (aI (ay (i:=0) (show (["head","parts"]:z0r).Nodup by decide +kernel) rfl 116) (aI (ay (i:=1) (show (["head","parts"]:z0r).Nodup by decide +kernel) rfl 116) cy))) (λ_ _ _ _ _=>cJ)
   (λ_ _ _ _ _=>bJ (af (pv 0) (af eO ak)))) ak)))
  (ao (aD (i:=2) kK.nd rfl 116 fg)
  (ao (b_ cD rfl (bq (pv 0)) (e_ rfl (aI (ay (i:=3) kK.nd rfl 116) (aI (ay (i:=4) kK.nd rfl 116) cy)))
   (ar (b_ cD rfl (hV (pv 4)) (ay (i:=5) kK.nd rfl 116)
    (ar (cR (eK (dP hu (pv 5) (pv 1))) (ar (gP hu (pv 2) (pv 5) eO rfl)) bL)))))
  (ar (br (bh (mQ rfl) rfl T.lst gq (af (pv 2) ak)))))),?_⟩
 nofun
 refine⟨_,rfl,R,rfl,⟨_,hR⟩,λD hD=>tH hR cT bN hD λts H2 sm hd2 hp=>?_⟩;have kp:Paired (λt (kv:aR×V)=>aZ K H2 t [kV kv.1,kv.2]) ts ((aa.map 56).map λh=>((Sum.inr h:aR),V.bl true)):=cO hp λ_ _ z=>z;refine⟨D,ts,_,rfl,hd2,kp,λd hdd=>?_⟩;have Lj:(cU ((aa.map 56).map λh=>((Sum.inr h:aR),V.bl true)) []).map 56=(hd aa).map Sum.inr:=nZ (aa.map 56) [] [] rfl;generalize cU ((aa.map 56).map λh=>((Sum.inr h:aR),V.bl true)) []=kH at Lj ⊢;have Ox:=sm.trans (ah hdd (.dK kH));have ir:upd H2 d (.dK kH) d=some (.dK kH):=ae;generalize upd H2 d (.dK kH)=H3 at Ox ir;intro e he;have hde:∀o,upd H3 e o d=some (.dK kH):=λo=>by rw [aj (aq ir he)];exact ir
 have Cj:∀o,aE H (upd H3 e o):=λo=>Ox.trans (ah he o);have ll:=bT cT
 let BN:BO:=λi σ H5=>∃(kvs:140)(y3 y4 y5:Option V),σ=[bc R,bc d,bc e,y3,y4,y5]/\H5=upd H3 e (.dK kvs) /\
  kvs.map 56=(qa (hd aa) [] ((aa.take i).flatMap (·.2))).map Sum.inr
 refine⟨_,rfl,R,rfl,⟨_,(Cj _).seq hR⟩,du (xs:=143) BN ⟨[],none,none,none,rfl,rfl,rfl⟩ ?_ ?_ ?_⟩
 .rintro i σ H5 _ ⟨kvs,y3,y4,y5,rfl,rfl,_⟩;exact(Cj _).seq hR
 .rintro i x σ H5 ex ⟨kvs,y3,y4,y5,rfl,rfl,hk⟩
  ac_nf0
  rw [bB] at ex;obtain⟨r,er,rfl⟩:=b9.mp ex;obtain⟨ru,e1,p,v1,v2⟩:=cT.get er;have li:=(bM.mp e1).1;have Ly:=h8 ru (cf e1);have eT:(aa.take (i+1)).flatMap (·.2)=(aa.take i).flatMap (·.2)++ru.2:=by
   rw [cM,e1,List.flatMap_append];simp
  have lA:((aa.take i).flatMap (·.2)).length<=8 * i:=jl (aa.take i) i (by rw [d7];omega) λru mD=>h8 ru (vR mD);refine⟨r,_,rfl,(Cj _).tup v1,rfl,_,_,rfl,_,_,rfl,rfl,?_⟩
  let KG:BO:=λj σ H6=>∃(kvs:140)(y5:Option V),σ=[bc R,bc d,bc e,some (.str ru.1),bc p,y5]/\H6=upd H3 e (.dK kvs) /\
   kvs.map 56=(qa (hd aa) [] ((aa.take i).flatMap (·.2)++ru.2.take j)).map Sum.inr
  refine⟨_,rfl,p,rfl,⟨_,(Cj _).tup v2⟩,xq (xs:=ru.2.map V.str) KG ⟨kvs,_,rfl,rfl,by rw [List.take_zero,eE];exact hk⟩ ?_ ?_ ?_⟩
  .rintro j σ H6 _ ⟨kvs,y5,rfl,rfl,_⟩;exact(Cj _).tup v2
  .rintro j x σ H6 Hy ⟨kvs,y5,rfl,rfl,DS⟩
   ac_nf0
   rw [bB] at Hy;obtain⟨z,ez,rfl⟩:=b9.mp Hy;have lj:=(bM.mp ez).1;have eS:qa (hd aa) [] ((aa.take i).flatMap (·.2)++ru.2.take (j+1))=addW (hd aa) (qa (hd aa) [] ((aa.take i).flatMap (·.2)++ru.2.take j)) z:=by
    rw [cM,ez,<-iP];exact vF
   have lk:kvs.length<=8 * i+8:=by
    have h1:kvs.length=(qa (hd aa) [] ((aa.take i).flatMap (·.2)++ru.2.take j)).length:=by
     have:=congrArg List.length DS;rw [aC,aC] at this;exact this
    have h2:=wa (hd aa) ((aa.take i).flatMap (·.2)++ru.2.take j) [];rw [bO,d7] at h2;simp only [ix] at h2;omega
   have mem:(ba kH 145).isSome=true↔z∈hd aa:=by rw [eF,Lj];exact cW
   refine⟨_,rfl,_,rfl,d,_,rfl,cq.k (k:=127) (hde _),_,rfl,?_⟩;refine cC (λc=>?_) (λc=>?_)
   .have nm:z∉hd aa:=λh=>by rw [mem.mpr h] at c;exact absurd c nofun
    refine⟨_,rfl,_,rfl,e,_,rfl,pP.k (k:=127) ae (bx ∅),?_⟩;refine⟨bP kvs 145 (.bl true),_,rfl,by rw [ie],?_⟩;rw [eS];unfold addW;rw [az nm];exact ku DS z
   have im:z∈hd aa:=mem.mp (by
    cases h:(ba kH 145).isSome with
    | true=>rfl
    | false=>exact absurd (by rw [h];rfl) c)
   refine⟨kvs,_,rfl,rfl,?_⟩;rw [eS];unfold addW;rw [aA im];exact DS
  rintro σ H6 ⟨kvs,y5,rfl,rfl,DS⟩;rw [aC,dI,<-eT] at DS;exact⟨kvs,_,_,_,rfl,rfl,DS⟩
 rintro σ H5 ⟨kvs,y3,y4,y5,rfl,rfl,hk⟩;rw [aC,ll,dI] at hk;refine⟨_,rfl,e,_,rfl,ae,λD2 mJ=>?_⟩;rw [keys_str hk];exact q D2 _ ((Cj _).free mJ) ((Cj _).trans (ah mJ _)) ae
end
end eZ
namespace L2
open PySem
section
variable {K:aV}{a D:Addr}{xs:115}{ts:z0r}{js:z0i}{g:TG}{tif:TT}{te:TE}{R:Hp->Prop}{σ:St}{H:Hp}
def gN (Pv:Nat->115->148)(h0:Pv 0 [] (eI ts js σ) (upd H D 128))(hl:∀i ys σ H,i<=xs.length->Pv i ys σ H->aZ K H a xs)
  (hs:∀i x ys σ H,xs[i]?=some x->Pv i ys σ H->g x σ H 413)
  (hd:∀ys σ H,Pv xs.length ys σ H->R H) :
  ∃W:Nat->Nat->115->148,(∃m,W 0 m [] (eI ts js σ) (upd H D 128)) /\
 ∀i m ys σ' H,W i m ys σ' H->((tV K a).stop i H/\R H)\/((tV K a).go i H/\∃m',m' < m/\∀x H',(tV K a).nu i H x H'->g x σ' H' λσ2 H2=>tif σ2 H2 λb H3 =>
  if b=true then te σ2 H3 248 else W (i+1) m' ys σ2 H3):=by
 refine⟨λi m ys σ H=>m=xs.length - i/\i<=xs.length/\Pv i ys σ H,⟨xs.length,108,d6 _,h0⟩,?_⟩;rintro i m ys σ' H ⟨rfl,hi,p⟩;have q:=hl i ys σ' H hi p;by_cases iM:i < xs.length
 .refine .inr ⟨⟨xs,xs[i],q,by simp [iM]⟩,xs.length - (i+1),∅,λx H' y=>?_⟩;obtain⟨e,y⟩:=y;subst e;have z:=hs i x ys σ' _ (y xs q) p;have h1:(i+1<=xs.length)=True:=eq_true iM;simp only [h1,true_and];exact z
 have e:i=xs.length:=by omega
 subst e;exact .inl ⟨⟨xs,q,aG _⟩,hd ys σ' H p⟩
def zg (Pv:Nat->115->148)(h0:Pv 0 [] (eI ts js σ) (upd H D 128))(hl:∀i ys σ H,i<=xs.length->Pv i ys σ H->aZ K H a xs)
  (hs:∀i x ys σ H t,xs[i]?=some x->Pv i ys σ H->H t=none->g (.ref t) σ (upd H t (.tup [163,x])) 413)
  (hd:∀ys σ H,Pv xs.length ys σ H->R H) :
  ∃W:Nat->Nat->115->148,(∃m,W 0 m [] (eI ts js σ) (upd H D 128)) /\
 ∀i m ys σ' H,W i m ys σ' H->((tW K a).stop i H/\R H)\/((tW K a).go i H/\∃m',m' < m/\∀x H',(tW K a).nu i H x H'->g x σ' H' λσ2 H2=>tif σ2 H2 λb H3 =>
  if b=true then te σ2 H3 248 else W (i+1) m' ys σ2 H3):=by
 refine⟨λi m ys σ H=>m=xs.length - i/\i<=xs.length/\Pv i ys σ H,⟨xs.length,108,d6 _,h0⟩,?_⟩;rintro i m ys σ' H ⟨rfl,hi,p⟩;have q:=hl i ys σ' H hi p;by_cases iM:i < xs.length
 .refine .inr ⟨⟨xs,xs[i],q,by simp [iM]⟩,xs.length - (i+1),∅,λx H' y=>?_⟩;obtain⟨t,y0,rfl,ht,rfl,y⟩:=y;have z:=hs i y0 ys σ' _ t (y xs q) p ht;have h1:(i+1<=xs.length)=True:=eq_true iM;simp only [h1,true_and];exact z
 have e:i=xs.length:=by omega
 subst e;exact .inl ⟨⟨xs,q,aG _⟩,hd ys σ' H p⟩
end
def kC {K:aV}{a:Addr}{xs:115}{g:TG}{tb:TS}{D:Ends}{σ:St}(Pv:Nat->148)(h0:Pv 0 σ H)(hl:∀i σ H,i<=xs.length->Pv i σ H->aF K H a xs)
  (hs:∀i x σ H t,xs[i]?=some x->Pv i σ H->H t=none->g (.ref t) σ (upd H t (.tup [163,x])) λσ2 H2=>tb { D with nx:=Pv (i+1),ct:=Pv (i+1),bk:=D.nx } σ2 H2)(hd:∀σ H,Pv xs.length σ H->D.nx σ H) :
  ∃W:Nat->Nat->148,(∃m,W 0 m σ H)/\∀i m σ H,W i m σ H ->
   ((RX K a).stop i H/\D.nx σ H)\/((RX K a).go i H/\∃N:148,(∀σ' H',N σ' H'->∃m',m' < m/\W (i+1) m' σ' H')/\∀x H',(RX K a).nu i H x H'->321):=by
 refine 341;rintro i m σ H ⟨rfl,hi,p⟩;have q:=hl i σ H hi p;by_cases iM:i < xs.length
 .refine 346;obtain⟨t,y0,rfl,ht,rfl,y⟩:=y;exact hs i y0 σ _ t (y xs q) p ht
 have e:i=xs.length:=by omega
 subst e;exact .inl ⟨⟨xs,q,aG _⟩,hd σ H p⟩
def pH {K:aV}{a:Addr}{xs:115}{g:TG}{tb:TS}{D:Ends}{σ:St}(Pv:Nat->148)(h0:Pv 0 σ H)(hl:∀i σ H,i<=xs.length->Pv i σ H->aZ K H a xs)
  (hs:∀i x σ H t,xs[i]?=some x->Pv i σ H->H t=none->g (.ref t) σ (upd H t (.tup [163,x])) λσ2 H2=>tb { D with nx:=Pv (i+1),ct:=Pv (i+1),bk:=D.nx } σ2 H2)(hd:∀σ H,Pv xs.length σ H->D.nx σ H) :
  ∃W:Nat->Nat->148,(∃m,W 0 m σ H)/\∀i m σ H,W i m σ H ->
   ((tW K a).stop i H/\D.nx σ H)\/((tW K a).go i H/\∃N:148,(∀σ' H',N σ' H'->∃m',m' < m/\W (i+1) m' σ' H')/\∀x H',(tW K a).nu i H x H'->321):=by
 refine 341;rintro i m σ H ⟨rfl,hi,p⟩;have q:=hl i σ H hi p;by_cases iM:i < xs.length
 .refine 346;obtain⟨t,y0,rfl,ht,rfl,y⟩:=y;exact hs i y0 σ _ t (y xs q) p ht
 have e:i=xs.length:=by omega
 subst e;exact .inl ⟨⟨xs,q,aG _⟩,hd σ H p⟩
section
variable {prog:Program}{w:World}{K:Type} [DecidableEq K] {knd:KeyKind prog w K}{A:Around}{E:z0b}
def uw {s:Shared}{d l:Addr}{items:z0k}{n:Nat}{kvs more:List (K×Value)}(hh:A.handled=none)(qD:s.heap.DictOf knd d kvs)(hx:s.heap.get? l=some { cls:=.type "list",data:=.seq items n })
  (hi:items.size=more.length)(hp:∀(m:Nat) kv,more[m]?=some kv->∃u,items[m]?=some u/\mU knd s.heap u kv)(hz:kvs.length+more.length<=sizeLine)
  (h:∀h' t',h'.DictOf knd d (more.foldl (λa p=>stored a p.1 p.2) kvs)->(∀b o,b≠d->178->h'.get? b=111)->Q .none { s with heap:=h',toks:=t' }) :
  wpAny 147 A (call (.builtin "dict.update") [.ref d,.ref l]) Q E s:=by
 refine fC (pX zO.plain PySem.F.entry_dict_update (zO.check _ _ _ _ _ _ _ _ qD.typeIs (PySem.F.args_dict_update_2 _ _) ?_));unfold Builtin.«dict.update»;refine ax ?_;unfold Builtin.Dict.selfAndRest;refine ax (wpAny_notOrdered_dict qD.typeIs ?_);show wpAny _ _ (pure (d,[Value.ref l])) _ _ s;refine aK ?_;show wpAny _ _ (Builtin.Dict.updateFrom "dict.update" d (.ref l) [] .none) _ _ s;unfold Builtin.Dict.updateFrom;refine ax (lP (T := "list") ⟨_,hx,rfl⟩ ?_);rw [aA Ac];refine ax (pD hx hh λh1 t1 k1=>?_);refine ax (jo ?_);have l1:=k1 _ _ hx;refine ax (jV ⟨_,l1,rfl,_,rfl⟩ ?_);have k2:∀b o,178->(h1.push 302).get? b=111:=λb o q=>a_ _ (k1 _ _ q);refine aK ⟨oE eW _,HF (knd:=knd) (A:=A) (l:=l) (items:=items) hh more 0 _ kvs _ _ (by rw [hi,lR]) ?_ ⟨_,cu _ rfl,rfl,rfl⟩ ⟨_,k2 _ _ hx,rfl,n,rfl⟩ (λm kv e=>?_) hz λh' t' hd k3=>?_⟩
 .obtain⟨o,es,ep,q,r⟩:=qD;exact⟨o,es,ep,k2 _ _ q,r⟩
 .obtain⟨u,e1,e2⟩:=hp m kv e;exact⟨u,by rw [lR];exact e1,e2.keep λb o _ q=>k2 b o q⟩
 exact h h' t' hd λb o n q=>k3 b o n (bp (aP (k1 _ _ q))) (k2 b o q)
end
section
variable {X:Cx}{o e:Expr}{apos fh:Pos}{td ty:TE}
def Pn (K:aV)(td ty:TE):TE:=λσ H Q=>td σ H λx H1=>∃a,x=.ref a/\Tv H1 a/\ty σ H1 λy H2=>∃l ts kvs more,y=.ref l/\H2 a=184/\H2 l=217 /\
 Paired (λt kv=>aZ K H2 t [kV kv.1,kv.2]) ts more/\kvs.length+more.length<=sizeLine/\Q .dq (upd H2 a (.dK (cU more kvs)))
def Jy (hc:X.calm=true)(ho:PE X o td)(he:PE X e ty)(m:M1 X o "update" apos e fh):PE X (.Call (.Attribute o "update" apos) [e] [] fh) (Pn X.K td ty):=by
 intro ai s σ H Q I h;refine wpAny_Call_method m.base m.SS m.line zM zO PySem.F.type_dict_update (cE (ho ai s σ H _ I h) λu s1 aW=>?_);obtain⟨x,H1,I1,rx,a,ex,d,q1⟩:=aW;subst ex;obtain rfl:u=Value.ref a:=rx;obtain⟨t1,t2,_⟩:=Bd I1 d;refine⟨t1,t2,?_⟩;rw [m.trees];refine vQ rfl (vI (pV (cE (he ai s1 σ H1 _ I1 q1) λiv s2 aW=>?_)));obtain⟨y,H2,I2,ry,l,ts,kvs,more,ey,ea,el,p,hz,q2⟩:=aW;refine rh ?_;subst ey;cases (show iv=Value.ref l from ry);obtain⟨z,Y_,vs,rel,dd⟩:=yV I2.bw ea;obtain⟨z2,aN,n,rv,hl⟩:=(show b8 X.prog X.w H2 s2.heap l (.lst _) from I2.bw l _ el);obtain⟨ms,r1,r2⟩:=pairs_at I2 p rv;have l1:=bT r2;have l2:=r1.length;have l3:=bT p;refine uw (I2.ok.hd hc) dd hl (by simpa using l1) (λm kv em=>?_) (by rw [<-rel.length,<-l2];exact hz) λh' t' hd kk=>?_
 .obtain⟨u,e1,e2⟩:=Paired.at_ r2 m kv em;exact⟨u,by simpa using e1,e2⟩
 have hn:(cU more kvs).length<=sizeLine:=cI (sY more kvs) hz;have he:∃q,h'.get? a=some q:=let ⟨q,_,_,hq,_⟩:=hd;⟨q,hq⟩;exact⟨.dq,_,I2.write (x:=a) (e:=a) (by rw [ea];exact True.intro) (.inl rfl) (λb q hb z=>kk b q hb z) he (tE hn Y_ (sX r1 rel) hd),rfl,q2⟩
def vm:fu X (.builtin "len") (λxs H Q=>∃a kvs,xs=[.ref a]/\H a=184/\Q (.int kvs.length) H):=by
 intro ai s σ H xs us Q I r h;obtain⟨a,kvs,rfl,e,q⟩:=h;obtain⟨u,rfl,rx⟩:=vals1 r;cases (show u=Value.ref a from rx);exact RD I (.inl e) λt s' I'=>⟨.int _,H,I',159,q⟩
end
theorem yL:∀{us:z0m}{ns:z0s},PyProof.Rows.IntsAre us ns->∀ys:List (Int×Tok),us=ys.map (λp=>Value.int p.1 p.2)->ys.map 56=ns
 | _,_,.nil,ys,e=>by
  cases ys with
  | nil=>rfl
  | cons _ _=>cases e
 | _,_,.cons n t h,ys,e=>by
  cases ys with
  | nil=>cases e
  | cons y r =>
   rw [bC] at e;injection e with e1 e2;injection e1 with e3 e4;rw [bC,yL h r e2,e3]
def pL {X:Cx}(hc:X.calm=true):fu X (.builtin "sum") (λxs H Q=>∃a ns,xs=[.ref a]/\aF X.K H a (List.map V.int ns)/\Q (.int ns.sum) H):=by
 intro ai s σ H xs us Q I r h;obtain⟨a,ns,rfl,hq,q⟩:=h;obtain⟨u,rfl,rx⟩:=vals1 r;cases rx;obtain⟨aN,rv,pl,hz⟩:=I.list hq;have hi:=intsAre_of rv;have qE:AllInts aN.toArray:=hi.allInts;obtain⟨xs,e⟩:=qE.items;have hl:=pl.isList;rw [e] at hl;refine sum_intListG (I.ok.hd hc) hl λh' tk t' hk=>⟨.int _,H,I.kept hk,159,?_⟩;have e5:xs.toList.map 56=ns:=yL hi xs.toList (by
  have:=congrArg Array.toList e;simpa [intItems] using this)
 have e6:preSum (numAt xs) xs.size=ns.sum:=by
  rw [preSum_eq,e5,lE (by rw [<-e5];simp)]
 rw [e6];exact q
open PySem PySem.Spec PyProof.Rows
def NY (o:Obj):Nat:=match o.data with
 | .dict _ ep=>ep
 | _=>0
def RY (d:Addr)(o:Obj)(kvs:140):It :=
 ⟨λi H=>H d=some (.kT o (.dK kvs))/\i < kvs.length,λi H x H'=>H'=H/\∃kv,kvs[i]?=some kv/\x=kV kv.1,λi H=>H d=some (.kT o (.dK kvs))/\kvs.length<=i⟩
def Bp {X:Cx}{σ:St}{s:Shared}{d:Addr}{o:Obj}(I:121)(e:H d=some (.kT o (.dK kvs))) :
  (d == sysModules)=false/\∃vs,KV kvs vs/\s.heap.DictAt (aX X.prog X.w) d vs (NY o):=by
 obtain⟨ho,hz,hs,vs,r,o',es,ep,h1,h2,h3,h4⟩:=(show b8 X.prog X.w H s.heap d (.kT o (.dK kvs)) from I.bw d _ e);rw [ho] at h1;cases h1;refine⟨hs,vs,r,o,es,ho,h2,?_,h4⟩;unfold NY;rw [h3]
def Dd {w:World}{K:aV}(d it:Addr)(o:Obj)(kvs:140):Turn P w K tg (RY d o kvs) [it] it (λi h=>h.IsKeyIter it d i kvs.length (NY o)) where
 mem:=108
 obj:=λi h st b hb=>by
  have e:b=it:=215
  subst e;obtain⟨o,e,c,d⟩:=st;exact⟨o,e,λv z=>by rw [d] at z;cases z⟩
 keep:=λi h h' st k=>let ⟨o,e,r⟩:=st;⟨o,k it 125 o e,r⟩
 item:=by
  intro X hP hw hK hc i ai s σ H E I hf st hg;subst hP hw hK;obtain⟨hq,hi⟩:=hg;obtain⟨hs,vs,r,da⟩:=Bp I hq;have l:=r.length;obtain⟨kv,SY⟩:∃kv,kvs[i]?=some kv:=⟨kvs[i],cN hi⟩;obtain⟨q,eq⟩:∃q,vs[i]?=some q:=⟨vs[i]'∅,cN ∅⟩;have ek:kv.1=q.1:=by
   have:=congrArg (λl:List aR=>l[i]?) r.keys;simp only [bB,SY,eq] at this;exact jJ this
  obtain⟨f0,f1,f2,f3,f4,f5⟩:=hf it 125;rw [l] at st;refine wpAny_pyNext_dict_item (k:=q.1) (v:=q.2) st da eq λkey h' hk qL sb=>?_;have I1:Inv X ai σ H 216:=I.turned (t':=s.toks) (λb o hb e=>(sb.2 b hb).trans e) f0 f1 f3 f4 f5;obtain⟨o2,e,c,dd⟩:=id qL;rw [<-l] at qL;exact⟨key,rfl,CH (s:=216) e c dd nofun ⟨kV kv.1,H,I1,by rw [ek];exact Ln hk,⟨rfl,kv,SY,rfl⟩,qL,λb hb=>(hf b hb).1⟩⟩
 done:=by
  intro X hP hw hK hc i ai s σ H E I hf st hg;subst hP hw hK;obtain⟨hq,hi⟩:=hg;obtain⟨hs,vs,r,da⟩:=Bp I hq;have l:=r.length;obtain⟨f0,f1,f2,f3,f4,f5⟩:=hf it 125;rw [l] at st;exact wpAny_pyNext_dict_end (I.ok.hd hc) st da (List.getElem?_eq_none ∅) 338
 self:=λ_ _ _ _ _ st h=>wpAny_pyIter_keyiter st h
def Qy (tl:TE):TI:=λσ H R=>tl σ H λx H1=>∃d kvs,x=.ref d/\H1 d=184/\∀o,R (RY d o kvs) (upd H1 d (.kT o (.dK kvs)))
def Cu {tg l:Expr}{tl:TE}(hl:PE X l tl):PI X tg l (Qy tl):=by
 intro ai s σ H R I h;refine cE (hl ai s σ H _ I h) λv s1 aW=>?_;obtain⟨x,H1,I1,r1,q1⟩:=aW;obtain⟨d,kvs,e,hd,q⟩:=q1;subst e;cases r1;obtain⟨hz,hs,vs,r,o,es,ep,h1,h2⟩:=(show b8 X.prog X.w H1 s1.heap d (.dK kvs) from I1.bw d _ hd);have I2:Inv X ai σ (upd H1 d (.kT o (.dK kvs))) { s1 with heap:=s1.heap,toks:=s1.toks }:=I1.write (x:=d) (e:=d) (by rw [hd];exact True.intro) (.inl rfl) (λb u _ e=>e) ⟨o,h1⟩ ⟨h1,hz,hs,vs,r,o,es,ep,h1,h2⟩;have e2:upd H1 d (.kT o (.dK kvs)) d=some (.kT o (.dK kvs)):=ae;obtain⟨_,Yi,r2,da⟩:=Bp I2 e2;have q2:=q o;generalize upd H1 d (.kT o (.dK kvs))=H2 at I2 e2 q2;refine wpAny_pyIter_dict hs da ?_;refine⟨s1.heap.objs.size,[s1.heap.objs.size],_,_,H2,rfl,I2.kept (t':=s1.toks) λb o e=>a_ _ e,Dd d _ o kvs,⟨_,cu _ rfl,rfl,by rw [r2.length];rfl⟩,λb hb=>?_,q2⟩;have e:b=s1.heap.objs.size:=215
 subst e;exact I2.kA (aG _) (I2.bw.fresh (aG _))
section
variable {d D:Addr}{o:Obj}{kvs:140}{ts:z0r}{js:z0i}{g:TG}{tif:TT}{te:TE}{R:Hp->Prop}{σ:St}{H:Hp}
def tJ (Pv:Nat->115->148)(h0:Pv 0 [] (eI ts js σ) (upd H D 128))(hl:∀i ys σ H,i<=kvs.length->Pv i ys σ H->H d=some (.kT o (.dK kvs)))
  (hs:∀i kv ys σ H,kvs[i]?=some kv->Pv i ys σ H->g (kV kv.1) σ H 413)
  (hd:∀ys σ H,Pv kvs.length ys σ H->R H) :
  ∃W:Nat->Nat->115->148,(∃m,W 0 m [] (eI ts js σ) (upd H D 128)) /\
 ∀i m ys σ' H,W i m ys σ' H->((RY d o kvs).stop i H/\R H)\/((RY d o kvs).go i H/\∃m',m' < m/\∀x H',(RY d o kvs).nu i H x H'->g x σ' H' λσ2 H2=>tif σ2 H2 λb H3 =>
  if b=true then te σ2 H3 248 else W (i+1) m' ys σ2 H3):=by
 refine⟨λi m ys σ H=>m=kvs.length - i/\i<=kvs.length/\Pv i ys σ H,⟨kvs.length,108,d6 _,h0⟩,?_⟩;rintro i m ys σ' H ⟨rfl,hi,p⟩;have q:=hl i ys σ' H hi p;by_cases iM:i < kvs.length
 .refine .inr ⟨⟨q,iM⟩,kvs.length - (i+1),∅,λx H' y=>?_⟩;obtain⟨e,kv,SY,rfl⟩:=y;subst e;have z:=hs i kv ys σ' _ SY p;have h1:(i+1<=kvs.length)=True:=eq_true iM;simp only [h1,true_and];exact z
 have e:i=kvs.length:=by omega
 subst e;exact .inl ⟨⟨q,aG _⟩,hd ys σ' H p⟩
end
def vf {A:Around}{s:Shared}{l b:Addr}{ys xs:z0s}{aN fK:z0m}(r:aY (ys.map V.int) aN)(r2:aY (xs.map V.int) fK)(hl:s.heap.IsList l aN.toArray)(hb:s.heap.IsList b fK.toArray)(ne:l≠b)(hu:A.units < cLine) :
  SeqAt.EqAt A s (.ref l) (.ref b) (decide (ys=xs)):=by
 have l1:=r.length;have l2:=r2.length;rw [aC] at l1 l2;by_cases bN:ys.length=xs.length
 .have h:=SeqAt.RcAt.lists (A:=A) (e:=λj=>decide (ys[j]?=xs[j]?)) hl hb (by simp only [cb];omega) hu λj h1 h2=>?_
  .have e:((List.range aN.toArray.size).all λj=>decide (ys[j]?=xs[j]?))=decide (ys=xs):=by
    rw [ib,dW,decide_eq_true_iff];constructor
    .intro h;refine List.ext_getElem? λj=>?_;by_cases c:j < ys.length
     .exact dJ (h j (jq.mpr (by simp only [cb];omega)))
     rw [List.getElem?_eq_none ∅,List.getElem?_eq_none ∅]
    intro h j _;rw [h];exact ff rfl
   rw [e] at h;exact .of_refs ne h
  have k1:j < aN.length:=by simpa using h1
  have k2:j < fK.length:=by simpa using h2
  have e1:ys[j]?=some (ys[j]'∅):=cN ∅;have e2:xs[j]?=some (xs[j]'∅):=cN ∅;obtain⟨u1,f1,q1⟩:=r.get (show (ys.map V.int)[j]?=some (.int (ys[j]'∅)) by rw [bB,e1];rfl);obtain⟨u2,f2,q2⟩:=r2.get (show (xs.map V.int)[j]?=some (.int (xs[j]'∅)) by rw [bB,e2];rfl);have g1:aN.toArray[j]=u1:=by
   have:=(bM.mp f1).2;simpa using this
  have g2:fK.toArray[j]=u2:=by
   have:=(bM.mp f2).2;simpa using this
  rw [g1,g2,e1,e2];obtain⟨t1,rfl⟩:=q1;obtain⟨t2,rfl⟩:=q2;have:=SeqAt.EqAt.int_int (A:=A.in1) (s:=s) (ys[j]'∅) t1 (xs[j]'∅) t2;have e3:(ys[j]'∅ == xs[j]'∅)=decide (some (ys[j]'∅)=some (xs[j]'∅)):=by
   rw [ib,beq_iff_eq,decide_eq_true_iff,Option.some.injEq]
  rw [e3] at this;exact this
 have h:=SeqAt.RcAt.lists_lengths (A:=A) hl hb (by simp only [cb,bne_iff_ne];omega) hu;rw [gB (λz=>bN (by rw [z]))];exact .of_refs ne h
def Dr {X:Cx}(hu:X.A.units+1 < cLine):oy X (compareOp .In) (λx y H Q=>∃t a l1 l2 xs ys zs,x=.ref a/\y=.ref t/\aZ X.K H t [.ref l1,.ref l2]/\aF X.K H a (List.map V.int xs)/\aF X.K H l1 (List.map V.int ys)/\aF X.K H l2 (List.map V.int zs)/\l1≠a/\l2≠a /\
  Q (.bl (decide (ys=xs) || decide (zs=xs))) H):=by
 intro ai s σ H x y v u Q I rx ry h;obtain⟨t,a,l1,l2,xs,ys,zs,rfl,rfl,ht,ha,h1,h2,n1,n2,q⟩:=h;cases rx;cases ry;obtain⟨aN,r,pl,hz⟩:=I.tuple ht;obtain⟨u1,u2,rfl,q1,q2⟩:=vals2 r;cases (show u1=Value.ref l1 from q1);cases (show u2=Value.ref l2 from q2);obtain⟨xa,ra,pa,za⟩:=I.list ha;obtain⟨x1,r1,p1,z1⟩:=I.list h1;obtain⟨x2,r2,p2,z2⟩:=I.list h2;have e1:=vf (A:=X.A.in1) (s:=s) r1 ra p1.isList pa.isList n1 hu;have e2:=vf (A:=X.A.in1) (s:=s) r2 ra p2.isList pa.isList n2 hu;refine SeqAt.in_tupleAt (λy=>if y == .ref l1 then decide (ys=xs) else decide (zs=xs)) (show s.heap.IsTuple t #[.ref l1,.ref l2] from pl) (λy hy=>?_) ?_
 .have Sw:y=.ref l1\/y=.ref l2:=by simpa using hy
  by_cases c:y=.ref l1
  .subst c;rw [aA (lV _)];exact e1
  rcases Sw with z | z
  .exact absurd z c
  subst z;rw [az (λq=>c (eq_of_beq q))];exact e2
 refine⟨.bl (decide (ys=xs) || decide (zs=xs)),H,I,?_,q⟩
 show Value.bool _=Value.bool _
 congr 1
 by_cases c:l2=l1
 .subst c;have e3:=I.je h1 h2;have e4:ys=zs:=by
   have:=congrArg (List.map λv:V=>match v with | .int n=>n | _=>0) e3
   simpa [iN,Function.comp_def] using this
  subst e4;simp
 simp [c]
def ig {X:Cx}{elt iter tg:Expr}{iy:Nat}{y:Str}{py Px:Pos}{ifs:z0p}{scope:Scope}{pos:Pos}{wi:TI}{g:TG}{tif:TT}{te:TE}(ts:z0r)(js:z0i)(hN:X.N.Nodup)(hiy:X.N[iy]?=some y)(hy:X.env.scope.names.lookup y=some .local)(hc:X.calm=true)(hi:PI X tg iter wi)
  (cp:KJ X scope js)(ji:∀y∈scope.names,y.2≠.cell)(jh:scope.kind=.function)
  (Bg:∀y∈scope.names,y.2=.local->scope.names.lookup y.1=some .local)
  (hg:∀cl C s1 H1 fp,PG (tF X scope cl C s1 H1 (ts++js.map (·.2)) fp) tg g)
  (Wc:∀cl C s1 H1 fp,EB (tF X scope cl C s1 H1 (ts++js.map (·.2)) fp) ifs tif)(he:∀cl C s1 H1 fp,PE (tF X scope cl C s1 H1 (ts++js.map (·.2)) fp) elt te)
  (hsw:swapsWith (.ListComp elt [⟨tg,iter,ifs,0⟩] scope pos) (some (.Name y py)) Px.line X.env=pure true:=by rfl)(hs:∀x,foldedSetIterable iter X.env x=pure x:=by intro _;rfl) :
  PS X (.Assign [.Name y py] (.ListComp elt [⟨tg,iter,ifs,0⟩] scope pos) Px) (Pq (Fc wi ts js g tif te) (eA iy)):=by
 intro ai s σ H DD I h;rw [exec_Assign_Name_used _ _ _ _ hsw];refine ax (wpAny_standAt (ax ?_));show wpAny _ _ (do let _ <-comprehension (.ListComp elt [⟨tg,iter,ifs,0⟩] scope pos) scope X.env _ (newList []) false (eval iter X.env) (some (assign (.Name y py) X.env))) _ _ s;obtain⟨cl,pG⟩:=xy (env:=X.env) (scope:=scope) λy hy=>I.ok.has y (.inl (cp.all y hy));refine ax (cH (wpAny_comprehension_free (use:=some (assign (.Name y py) X.env)) (Q:=λ_ s'=>SP X ai DD .next s') rfl hs pG.eq jh Bg (cE (hi ai s σ H _ I h) λv s1 h1=>cE h1 λSu s2 h2=>?_)) (λ_ s' hq=>aK (aK hq)) λ_ _ e=>e);obtain⟨it,fp,tn,J,H2,e,I2,T,Ij,f2,h2⟩:=h2;subst e;obtain⟨W,⟨m0,w0⟩,turn⟩:=h2 s2.heap.objs.size I2.fresh;have Hf:∀b∈fp,b < s2.heap.objs.size:=λb hb=>by obtain⟨o,e,_⟩:=T.obj _ _ Ij b hb;exact aP e
 refine j8 (wpAny_newFunctionEnv ji (by intro y hy;simp at hy) (λh₁ Bf xf=>?_) jh);dsimp only at Bf xf ⊢;generalize NK:s2.heap.push { cls:=.type "list",dict:=none,data:=.seq ([]:z0m).toArray }=G2 at Bf xf ⊢;have Kj:G2.objs.size=s2.heap.objs.size+1:=by rw [<-NK,i5]
 have Wz:s2.heap.objs.size≠G2.objs.size:=by rw [Kj];exact bp (jL _)
 have old:∀b o,s2.heap.get? b=111->h₁.get? b=111:=λb o e =>
  xf.extBut b o (by rw [Kj];exact bp (vG (aP e))) (a_ _ (NK ▸ a_ _ e))
 have DV:h₁.get? s2.heap.objs.size=some { cls:=.type "list",data:=.seq ([]:z0m).toArray 0 }:=xf.extBut _ _ Wz (a_ _ (NK ▸ cu _ rfl));generalize og:tF X scope cl G2.objs.size s2 H2 (ts++js.map (·.2)) fp=X2;have I4:Inv X2 [] (eI ts js σ) (upd H2 s2.heap.objs.size 128) { s2 with heap:=h₁,toks:=s2.toks+([]:z0d).length }:=by
  rw [<-og];exact u_ I2 f2 Hf jh ji cp pG (by rw [Kj];exact jL _) rfl rfl old Bf DV
 have x1:X2.prog=X.prog:=by rw [<-og];rfl
 have x2:X2.w=X.w:=by rw [<-og];rfl
 have x3:X2.K=X.K:=by rw [<-og];rfl
 have x4:X2.calm=true:=by rw [<-og];exact hc
 have x5:X2.A=X.A:=by rw [<-og];rfl
 have x6:X2.env=compEnvC scope cl G2.objs.size X.env:=by rw [<-og];rfl
 have x7:X2.xe=λ_ _=>False:=by rw [<-og];rfl
 have SH:PG X2 tg g:=by rw [<-og];exact hg _ _ _ _ _
 have NA:EB X2 ifs tif:=by rw [<-og];exact Wc _ _ _ _ _
 have Ke:PE X2 elt te:=by rw [<-og];exact he _ _ _ _ _
 have Pu:tn 0 h₁:=T.keep _ _ _ Ij λb _ o e=>old b o e;have rK:∀{H':Hp}{iS:z0e},(∀b∈fp,H' b=none)->(∀p∈iS,p.1∉fp)->∀b∈fp,tX X2 iS H' b:=λ{H' iS} hn hp b hb=>by
  have o4:=I4.ok;subst og;exact⟨hn b hb,(o4.Km b hb).1,o4.xt b hb,.inl hb,(o4.Km b hb).2,λp mF=>by
   have qm:p∈([]:z0e)++iS:=mF;rw [mZ] at qm;intro z;exact hp p qm (by rw [z];exact hb)⟩
 have fin:∀{s':Shared}{σ':St}{H':Hp},Inv X2 [] σ' H' s'->DD.nx (σ.set iy (some (.ref s2.heap.objs.size))) H' ->
   compPost 146 X.A X.xe (some (assign (.Name y py) X.env)) (λ_ s'=>SP X ai DD .next s') (.ref s2.heap.objs.size) G2.objs.size (.ok .next) s':=λ{s' σ' H'} J' q=>by
  subst og;obtain⟨m',Nz,_⟩:=J'.loc;have I5:Inv X ai σ H' s':=I2.CQ (s':=s') J'.os J'.base J'.bw J'.bare λb hb=>by
   obtain⟨_,f1,_,f3,f4,f5⟩:=f2 b hb;exact⟨f3,f1,f4,f5⟩
  obtain⟨f0,f1,_,f3,f4,f5⟩:=I2.kA (H':=H') (b:=G2.objs.size) (by rw [Kj];exact hJ _) J'.free;show wpAny _ _ (assign (.Name y py) X.env (.ref s2.heap.objs.size)) _ _ s';refine wpAny_assign_Name (uJ I5 hN hiy (.inl hy) (v:=.ref s2.heap.objs.size) rfl (λFK I6 aW=>?_) (.inr hy));obtain⟨a,sb,ha⟩:=aW;have nCa:G2.objs.size≠a:=by
   rcases ha with ha | ha
   .rw [ha];exact f1
   exact(f4 _ _ ha).symm
  refine⟨m',Nz.sameBut sb nCa,λh' OI=>?_⟩;exact⟨_,H',I6.turned (t':=FK.toks) (λb o hb e=>(OI.2 b hb).trans e) f0 f1 f3 f4 f5,q⟩
 have loop:∀s₃:Shared,s₃={ s2 with heap:=h₁,toks:=s2.toks+([]:z0d).length } ->
   codeAny 146 X.A (.compLoop (.ListComp elt [⟨tg,iter,ifs,0⟩] scope pos) 0 (.ref it) (.ref s2.heap.objs.size) (compEnvC scope cl G2.objs.size X.env))
    (compPost 146 X.A X.xe (some (assign (.Name y py) X.env)) (λ_ s'=>SP X ai DD .next s') (.ref s2.heap.objs.size) G2.objs.size) s₃:=by
  rintro s₃ rfl;subst og;refine qp (λn s'=>∃i ys σ' H',Inv 304 [] σ' H' s'/\tn i s'.heap/\(∀b∈fp,H' b=none)/\W i n ys σ' H') ?_ m0
   ⟨0,[],_,_,I4,Pu,λb hb=>by rw [aj (bp (Hf b hb))];exact(f2 b hb).1,w0⟩
  rintro n s' ⟨i,ys,σ0,H',J',qL,Rj,w'⟩;rcases turn i n ys σ0 H' w' with ⟨stop,q⟩ | ⟨go,m',hm,step⟩
  .refine cH (T.done 304 rfl rfl rfl hc i [] s' _ H' (λ_ _=>False) J' (rK Rj 125) qL stop) (λr s4 ⟨hr,J4⟩=>?_) λ_ _ z=>z;subst hr;exact fin J4 q
  refine cH (T.item 304 rfl rfl rfl hc i [] s' _ H' (λ_ _=>False) J' (rK Rj 125) qL go) (λr s4 ⟨u,hr,h4⟩=>?_) λ_ _ z=>z;subst hr;refine cH h4 (λ_ s5 aW=>?_) λ_ _ z=>z;obtain⟨xv,H5,J5,r5,y5,Df,Ri⟩:=aW;have X1:=J5.pinned (rK Ri 125) (T.obj _ _ Df);have back:∀{s7:Shared}{σ7:St}{H7:Hp},Inv 304 ([]++pq fp s5.heap) σ7 H7 s7->Inv 304 [] σ7 H7 s7/\tn (i+1) s7.heap/\∀b∈fp,H7 b=none:=λ{s7 σ7 H7} J7=>by
   refine⟨J7.jb,T.keep _ _ _ Df λb hb o e=>(J7.pin (b,o) (fO _ (fO _ (fJ hb e)))).1,λb hb=>?_⟩;obtain⟨o,e,d⟩:=T.obj _ _ Df b hb;exact(J7.pin (b,o) (fO _ (fO _ (fJ hb e)))).2.1
  show wpAny _ _ (assign tg (tF X scope cl G2.objs.size s2 H2 (ts++js.map (·.2)) fp).env u) _ _ s5;refine cH (SH _ s5 _ H5 xv u _ X1 r5 (step xv H5 y5)) (λ_ s6 aW=>?_) λ_ _ z=>z;obtain⟨σ6,H6,J6,q6⟩:=aW;refine cH (NA _ s6 _ H6 _ J6 q6) (λb s7 aW=>?_) λ_ _ z=>z;obtain⟨H7,J7,q7⟩:=aW;cases b with
  | false =>
   rw [az dj] at q7 ⊢;obtain⟨J8,Ue,WK⟩:=back J7;exact⟨m',hm,i+1,ys,σ6,H7,J8,Ue,WK,q7⟩
  | true =>
   rw [aA rfl] at q7 ⊢;refine cH (Ke _ s7 _ H7 _ J7 q7) (λyv s8 aW=>?_) λ_ _ z=>z;obtain⟨y,H8,J8,r8,WA,Vz,w8⟩:=aW;refine cH (bR (X:=tF X scope cl G2.objs.size s2 H2 (ts++js.map (·.2)) fp) _ s8 _ H8 (.ref s2.heap.objs.size) [y] (.ref s2.heap.objs.size) [yv] (λv H'=>W (i+1) m' (ys++[y]) σ6 H') J8 rfl (.cons r8 .nil) ⟨s2.heap.objs.size,ys,y,rfl,rfl,WA,Vz,w8⟩)
    (λ_ s9 ⟨_,H9,J9,_,w9⟩=>?_) λ_ _ z=>z
   obtain⟨X3,Mt,NS⟩:=back J9;exact⟨m',hm,i+1,ys++[y],σ6,H9,X3,Mt,NS,w9⟩
 exact codeAny_compStart_list (loop _ rfl) (T.self _ _ _ _ _ Pu (loop _ rfl))
section
variable {prog:Program}{w:World}{A:Around}{E:z0b}{s:Shared}
def zp (a b c:Value):argsOk "min" ⟨[a],[("key",b),("default",c)]⟩:=by unfold argsOk;kernel_rfl
def ux (hh:A.handled=none)(hl:s.heap.IsList l #[])(h:∀h' tk,(∀b o,178->h'.get? b=111)->Q dv { s with heap:=h',toks:=tk }) :
  wpAny 147 A (call (.builtin "min") [.ref l] [("key",kf),("default",dv)]) Q E s:=by
 have G_:(toString "min" ++ toString ".loop":String) = "min.loop" := by decide
 refine fC (pX F.plain_min F.entry_min ?_);have core:wpAny 147 A.in1 (Builtin.«min» ⟨[.ref l],[("key",kf),("default",dv)]⟩) (λfin s'=>match fin with
   | .done f=>(match (Except.ok f:Result) with | .ok (.ret v)=>Q v s' | .ok _=>False | .error e=>E e s')
   | .again c'=>c'.quiet=true/\codeAny 147 A c' (λr s'=>match r with | .ok (.ret v)=>Q v s' | .ok _=>False | .error e=>E e s') s') E s:=by
  show wpAny _ A.in1 (Builtin.Builtins.bindParams "min" ["key","default"] 0 ⟨[],[("key",kf),("default",dv)]⟩ >>= _) _ _ s;refine ax (wpAny_of_eq (show Builtin.Builtins.bindParams "min" ["key","default"] 0 ⟨[],[("key",kf),("default",dv)]⟩=pure [some kf,some dv] from rfl) ?_);refine ax (aK ?_);refine ax (jV hl ?_);refine ax (j8 ?_);rw [G_];obtain⟨ol,h1,h2⟩:=id hl;generalize hG:s.heap.push 302=G;have k1:∀b o,178->G.get? b=111:=λb o e=>by rw [<-hG];exact a_ _ e
  have hi:G.get? s.heap.objs.size=some 302:=by rw [<-hG];exact cu _ rfl
  refine aK ⟨oE F.plain_min_loop _,oH F.entry_min_loop ?_⟩;rw [ro F.plain_min_loop _];show wpAny _ A.in1 (seqItems? (.ref G.objs.size) >>= _) _ _ _;refine ax (jU (cu _ rfl) rfl ?_);show wpAny _ A.in1 (tryCatch (pyNext (197)) _ >>= _) _ _ _;refine ax (wpAny_tryCatch (vP (show A.in1.handled=none from hh) ⟨_,a_ _ hi,rfl,rfl⟩ ⟨ol,a_ _ (k1 _ _ h1),h2⟩ 125 λh' eb=>?_));refine ax (jo (aK ?_));exact h h' _ λb o e=>eb b o (bp (aP e)) (a_ _ (k1 b o e))
 simp only [checkBuiltinCall,F.kind_min];cases VN:Manifest.signature? "min" with
 | none=>exact aK core
 | some sig =>
  have ha':Bind.checkArgs "min" sig ⟨[.ref l],[("key",kf),("default",dv)]⟩=pure ():=by have:=zp (.ref l) kf dv;simpa only [argsOk,VN] using this
  simp only [ha'];exact aK core
end
def Pf (K:aV)(t:TA)(td:TE):TE:=λσ H Q=>t σ H λvs H1=>td σ H1 λdv H2=>∃a,vs=[.ref a]/\aF K H2 a []/\Q dv H2
def Jv {X:Cx}{e e2:Expr}{t:TA}(hc:X.calm=true)(hg:Gl X "min")(hm:X.mg "min"=none)(We:Gl X "len")(hm2:X.mg "len"=none)(ha:PA X [e] t)(hd:PE X e2 td)
  (he:backTo pos (starEach [e] X.env)=(false,eval e X.env)::backTo pos (starEach [] X.env):=by rfl)(hp:(backTo pos (starEach [e] X.env)).any 56=false:=by rfl) :
  PE X (.Call (.Name "min" p) [e] [⟨some "key",.Name "len" lp,Y2⟩,⟨some "default",e2,Ir⟩] pos) (Pf X.K t td):=by
 intro ai s σ H Q I h;refine jM (gM I hg hm boot_min ?_);refine callWith_kw 270 he hp rfl rfl;obtain⟨vs,H1,I1,r1,q1⟩:=aW;refine kws_cons (gM I1 We hm2 h_ (kws_cons (cE (hd ai s1 σ H1 _ I1 q1) λu2 s2 aW=>?_)));obtain⟨dv,H2,I2,r2,a,ev,hs,q⟩:=aW;refine kws_nil ?_;subst ev;obtain⟨u,rfl,rx⟩:=vals1 r1;cases (show u=Value.ref a from rx);obtain⟨aN,rv,pl,hz⟩:=I2.list hs;cases rv;exact ux (I2.ok.hd hc) pl.isList λh' tk kk=>⟨dv,H2,I2.kept (t':=tk) kk,r2,q⟩
def ya (z:Str)(lo hi:z0n):Str:=if ((slicePicked z (lo.map λi=>(i,0)) (hi.map λi=>(i,0)) none).length == z.length)=true then z else ⟨((slicePicked z (lo.map λi=>(i,0)) (hi.map λi=>(i,0)) none).filterMap (z.cps[·]?)).toArray⟩
def Ft (z:Str)(lo hi:z0n):(ya z lo hi).length<=z.length:=by
 unfold ya
 split
 .exact aG _
 show (List.toArray _).size<=_;rw [cb];exact cI (v7 _ _) (show (slicePicked z _ _ none).length<=z.length from by unfold slicePicked;exact sliceIndices_le _ _ _)
def Uv:V->z0n->z0n->Hp->VK->Prop:=λx lo hi H Q=>∃z:Str,x=.str z/\z.length<=sizeLine/\Q (.str (ya z lo hi)) H
def qO {σ:St}{Q:VK}{z:Str}{t:Tok}(I:121)(hz:z.length<=sizeLine)(l u:Option (Int×Tok))(q:Q (.str (ya z (l.map 56) (u.map 56))) H) :
  (sliceMade z t l u none).post (EP X ai σ Q) s:=by
 have e:slicePicked z ((l.map 56).map λi=>(i,(0:Tok))) ((u.map 56).map λi=>(i,(0:Tok))) none=slicePicked z l u none:=by
  cases l <;> cases u <;> rfl
 unfold ya at q;rw [e] at q;unfold sliceMade;by_cases c:((slicePicked z l u none).length == z.length)=true
 .rw [aA c] at q;rw [aA (by rw [c];rfl)];exact⟨.str z,H,I,159,q⟩
 rw [az c] at q;rw [az (by rw [pS.mpr c];decide)];have le:((slicePicked z l u none).filterMap (z.cps[·]?)).length<=z.length:=cI (v7 _ _) (show (slicePicked z l u none).length<=z.length from by unfold slicePicked;exact sliceIndices_le _ _ _);refine⟨?_,.str _,H,I.tok _,159,q⟩;show (List.toArray _).size<=sizeLine;rw [cb];exact cI le hz
def Ck:XW X Uv:=by
 intro ai s σ H x v vl vu lo hi sl Q I rx hs pl pu h;obtain⟨z,rfl,hz,q⟩:=h;obtain⟨t,rfl⟩:=rx;refine⟨"str",_,F.slot_str_getitem.lookup,typeIs_str s z t,?_⟩;cases pl with
 | none =>
  cases pu with
  | none=>exact vW (l:=none) (u:=none) (st:=none) hs rfl (qO I hz none none q)
  | int j tu=>exact vW (l:=none) (u:=some (j,tu)) (st:=none) hs rfl (qO I hz none (some (j,tu)) q)
 | int i ti =>
  cases pu with
  | none=>exact vW (l:=some (i,ti)) (u:=none) (st:=none) hs rfl (qO I hz (some (i,ti)) none q)
  | int j tu=>exact vW (l:=some (i,ti)) (u:=some (j,tu)) (st:=none) hs rfl (qO I hz (some (i,ti)) (some (j,tu)) q)
theorem ny:∀(tk:Nat) (ts:z0r),aY (ts.map V.str) (strsFrom tk ts)
 | _,[]=>.nil
 | tk,z::ts=>.cons ⟨tk,rfl⟩ (ny (tk+1) ts)
def MP:V->115->Hp->VK->Prop:=λx vs H Q=>∃z y:Str,x=.str z/\vs=[.str y]/\y.length≠0/\z.length+2<=sizeLine/\∀l,H l=none->Q (.ref l) (upd H l (.lst ((Txt.split z y).map V.str)))
def yA:KD X "str.split" MP:=by
 intro ai s σ H x vs v us Q I rx rv h;obtain⟨z,y,rfl,rfl,hy,hz,q⟩:=h;obtain⟨t,rfl⟩:=rx;obtain⟨u,rfl,ru⟩:=rv.one;obtain⟨tu,rfl⟩:=ru;have hle:=split_le z y;have hsz:z.length<=sizeLine:=by omega
 have Sw:(y.length == 0)=false:=by simpa using hy
 have fin:∀(aN:z0m) (tk:Nat),aY ((Txt.split z y).map V.str) aN ->
   wants (EP X ai σ Q) X.xe (.ok (.ret (197))) { s with toks:=tk,heap:=s.heap.push { cls:=.type "list",data:=.seq aN.toArray } }:=λaN tk r =>
  ⟨197,_,I.laid (t':=tk) (λb o e=>a_ _ e) (aG _) (show b8 X.prog X.w _ _ _ (.lst _) from ⟨by rw [aC];omega,aN,_,r,cu _ rfl⟩),rfl,q _ (I.bw.fresh (aG _))⟩
 cases h1:(decide (z.length < y.length) || decide (Builtin.Str.strKind z < Builtin.Str.strKind y))
 .cases hf:(Builtin.Str.occurrences z y 0 z.length (z.length+1)).isEmpty
  .have e:Txt.split z y=Builtin.Str.partsBetween z (Builtin.Str.occurrences z y 0 z.length (z.length+1)) y.length:=by
    unfold Txt.split;rw [az (by rw [h1];decide),az (by rw [hf];decide)]
   refine call_meets F.slot_str_split (typeIs_str _ _ _) F.entry_str_split (F.args_str_split_2 _ _) (meets_str_split_sep z y t tu h1 Sw hf hsz (by rw [<-e];omega)) ?_;rw [<-e];exact fin _ _ (ny _ _)
  have e:Txt.split z y=[z]:=by
   unfold Txt.split;rw [az (by rw [h1];decide),aA hf]
  exact call_meets F.slot_str_split (typeIs_str _ _ _) F.entry_str_split (F.args_str_split_2 _ _) (meets_str_split_not_found z y t tu h1 Sw hf)
   (fin [.str z t] s.toks (by rw [e];exact .cons ⟨t,rfl⟩ .nil))
 have e:Txt.split z y=[z]:=by
  unfold Txt.split;rw [aA h1]
 exact call_meets F.slot_str_split (typeIs_str _ _ _) F.entry_str_split (F.args_str_split_2 _ _) (meets_str_split_cannot_occur z y t tu h1)
  (fin [.str z t] s.toks (by rw [e];exact .cons ⟨t,rfl⟩ .nil))
def sg (z:Str):z0t:=z.cps.toList
def Mu {a b:Str}(h:sg a=sg b):a=b:=Str.ext' (Array.toList_inj.mp h)
def sp (c:Nat):z0t->List z0t
 | []=>[[]]
 | a::r=>if a=c then []::sp c r else (a::(sp c r).headD [])::(sp c r).tail
def KW (c:Nat):∀l,∃h t,sp c l=h::t
 | []=>⟨_,_,rfl⟩
 | a::r=>by
  unfold sp
  split
  .exact⟨_,_,rfl⟩
  exact⟨_,_,rfl⟩
theorem qM {c:Nat}:∀{l:z0t},c∉l->sp c l=[l]
 | [],_=>rfl
 | a::r,h=>by
  have h1:¬a=c:=λe=>h (e ▸ cx);have h2:sp c r=[r]:=qM λe=>h (cw _ e);unfold sp;rw [az h1,h2];rfl
theorem Af (c:Nat):∀(a b:z0t),sp c (a++c::b)=sp c a++sp c b
 | [],b=>by
  show sp c (c::b)=[[]]++sp c b;rw [sp,aA rfl];rfl
 | x::a,b=>by
  show sp c (x::(a++c::b))=sp c (x::a)++sp c b;rw [sp,sp,Af c a b]
  split
  .rfl
  obtain⟨h,t,e⟩:=KW c a;rw [e];rfl
def jn (c:Nat):List z0t->z0t
 | []=>[]
 | [x]=>x
 | x::y::r=>x++c::jn c (y::r)
theorem Fj {c:Nat}:∀{ps:List z0t},ps≠[]->(∀p∈ps,c∉p)->sp c (jn c ps)=ps
 | [],h,_=>absurd rfl h
 | [x],_,h=>qM (h x cx)
 | x::y::r,_,h=>by
  show sp c (x++c::jn c (y::r))=_;rw [Af,qM (h x cx),Fj 125 λp hp=>h p (cw _ hp)];rfl
def lY (a b:Str):sg (a++b)=sg a++sg b:=rp
theorem wy (c:Nat):∀ts:z0r,sg (Str.join ⟨#[c]⟩ ts)=jn c (ts.map sg)
 | []=>rfl
 | [x]=>rfl
 | x::y::r=>by
  show sg (x++⟨#[c]⟩++Str.join ⟨#[c]⟩ (y::r))=sg x++c::jn c ((y::r).map sg);rw [lY,lY,wy c (y::r),iP];rfl
def yb (c:Nat) (ts:z0r):sg (Txt.join ⟨#[c]⟩ ts)=jn c (ts.map sg):=by
 rw [<-wy];exact congrArg sg (q8 _ _)
def rL (c:Nat)(z:Str):(Txt.split z ⟨#[c]⟩).map sg=sp c (sg z):=by
 have h1:=StrLaws.join_split z ⟨#[c]⟩;have h2:=StrLaws.split_free z c;have h3:=split_pos z ⟨#[c]⟩;have h4:sg z=jn c ((Txt.split z ⟨#[c]⟩).map sg):=by rw [<-wy,h1]
 rw [h4,Fj]
 .intro e;rw [List.map_eq_nil_iff] at e;rw [e] at h3;exact absurd h3 nofun
 intro p hp;obtain⟨q,hq,rfl⟩:=cQ.mp hp;exact h2 q hq
def wd (l:z0t):List z0t:=(sp 32 l).filter (·≠[])
def zV (a b:z0t):wd (a++32::b)=wd a++wd b:=by
 unfold wd;rw [Af,i6]
def wb {l:z0t}(h:32∉l)(hn:l≠[]):wd l=[l]:=by
 unfold wd;rw [qM h];simp [hn]
def Er {X:Cx}(hc:X.calm=true):fu X (.builtin "any") (λxs H Q=>∃(a:Addr)(bs:List Bool),xs=[.ref a]/\aF X.K H a (bs.map V.bl)/\Q (.bl (bs.any id)) H):=by
 intro ai s σ H xs us Q I r h;obtain⟨a,bs,rfl,hq,q⟩:=h;obtain⟨u,rfl,rx⟩:=vals1 r;cases (show u=Value.ref a from rx);obtain⟨aN,rv,pl,hz⟩:=I.list hq;obtain⟨o,h1,h2,m,h3⟩:=id pl.isList;have la:a < s.heap.objs.size:=aP h1;have ln:=rv.length;rw [aC] at ln;have Vu:∀(i:Nat) v,aN.toArray[i]?=some v->v=.bool (bs.getD i true):=λi v e=>by
  have e':aN[i]?=some v:=by simpa using e
  obtain⟨x,e2,e3⟩:=Paired.at_ rv i v e';rw [bB] at e2;obtain⟨b,e4,rfl⟩:=b9.mp e2;rw [p8,e4];exact e3
 refine call_any_walk (jV pl.isList ?_);refine⟨s.heap.objs.size,_,_,_,_,_,λi=>bs.getD i true,rfl,Walks.list (A:=X.A.in1) (show X.A.in1.handled=none from I.ok.hd hc) s.heap.objs.size a (bp la) aN.toArray,⟨⟨_,cu _ rfl,rfl,rfl⟩,⟨o,a_ _ h1,h2,m,h3⟩⟩,?_,λh' tk kk=>?_⟩
 .intro i v s1 Q1 E1 hP Wx;rw [Vu i v hP];exact pR Wx
 have e:((List.range aN.toArray.size).any λi=>bs.getD i true)=bs.any id:=by
  rw [cb,<-ln,ib,List.any_eq_true,List.any_eq_true];constructor
  .rintro⟨i,hi,h⟩;have QY:=jq.mp hi;rw [p8,cN QY] at h;exact⟨_,j6 QY,h⟩
  rintro⟨b,hb,h⟩;obtain⟨i,hi,e⟩:=pY.mp hb;refine⟨i,jq.mpr hi,?_⟩;rw [p8,cN hi,e];exact h
 rw [e];exact⟨.bl _,H,I.kept (t':=tk) λb o' e'=>kk b o' (by simp;exact bp (aP e')) (a_ _ e'),rfl,q⟩
def Gf {X:Cx}{o e:Expr}{es:z0p}{to:TE}{t:TA}{name:Str}{apos fh:Pos}{T id:String}{r:V->115->Hp->VK->Prop}(K:aV)(pa:PlainAttrs T)(slot:Slot T name id)(VG:typeOf (.builtin id)=pure (.type "method_descriptor"))(hm:MtR X id r)(ho:PE X o to)(ha:PA X (e::es) t)(hK:X.K=K:=by rfl)
  (Hj:attributeBase o name X.env (eval o X.env)=eval o X.env:=by rfl)
  (NC:((backTo fh (starEach (e::es) X.env)).all (λx=>!x.1) && (backToKw fh (keywordEach [] X.env)).all (λx=>x.1.isSome)
   && decide ((e::es).length+([]:List Keyword).length+(if ([]:List Keyword).isEmpty then 0 else 1) < 30))=true:=by rfl)
  (Ha:(apos.endLine == fh.line)=true:=by rfl)(hs:292:=by rfl)(sN:(backTo fh (starEach es X.env)).any 56=false:=by rfl) :
  PE X (.Call (.Attribute o name apos) (e::es) [] fh) (Yq K T r to t):=by
 subst hK;exact dY pa slot VG hm ho ha Hj NC Ha hs sN
def pz {X:Cx}(hu:X.A.units < cLine):oy X (compareOp .NotEq) (λx y H Q=>∃a b xs,x=.ref a/\y=.ref b/\aF X.K H a xs/\aF X.K H b []/\Q (.bl (!xs.isEmpty)) H):=by
 intro ai s σ H x y v u Q I rx ry h;obtain⟨a,b,xs,rfl,rfl,ha,hb,q⟩:=h;cases rx;cases ry;obtain⟨aN,r,pl,hz⟩:=I.list ha;obtain⟨fK,r2,AG,Sv⟩:=I.list hb;have e2:fK=[]:=aY.zero r2;subst e2;have bN:=r.length;cases xs with
 | nil =>
  have e:aN=[]:=aY.zero r;subst e;exact SeqAt.RcNeAt.lists (e:=λ_=>true) pl.isList AG.isList rfl hu (λj h1 _=>absurd h1 125) X.prog X.w X.xe _ ⟨.bl false,H,I,rfl,q⟩
 | cons y ys =>
  refine SeqAt.RcNeAt.lists_lengths pl.isList AG.isList ?_ hu X.prog X.w X.xe _ ⟨.bl true,H,I,rfl,q⟩;rw [cb,cb,<-bN];simp
def X_ (K:aV)(H:Hp):Nat->V->V->Prop
 | 0,x,y=>x=y/\mT x
 | n+1,x,y=>(x=y/\mT x)\/∃a b xs ys,x=.ref a/\y=.ref b/\((aF K H a xs/\aF K H b ys)\/(aZ K H a xs/\aZ K H b ys))/\Paired (X_ K H n) xs ys
def X_.self {K:aV}{x:V}(h:mT x):∀n,X_ K H n x x
 | 0=>⟨rfl,h⟩
 | _+1=>.inl ⟨rfl,h⟩
def Jj:V->115->Hp->VK->Prop:=λx vs H Q=>∃z y:Str,x=.str z/\vs=[.str y]/\Q (.bl (Txt.startswith z y)) H
def DA:KD X "str.startswith" Jj:=by
 intro ai s σ H x vs v us Q I rx rv h;obtain⟨z,y,rfl,rfl,q⟩:=h;obtain⟨t,rfl⟩:=rx;obtain⟨u,rfl,ru⟩:=rv.one;obtain⟨tu,rfl⟩:=ru;exact SC.startswith ⟨.bl _,H,I,rfl,q⟩
def uK (z:Str) (c:Nat):Txt.startswith z ⟨#[c]⟩=((sg z).head? == some c):=by
 obtain⟨⟨l⟩⟩:=z;unfold Txt.startswith Builtin.Str.subAt sg Str.length;cases l with
 | nil=>rfl
 | cons a l=>simp [ib]
def Ji:V->115->Hp->VK->Prop:=λx vs H Q=>∃z y:Str,x=.str z/\vs=[.str y]/\z.length<=sizeLine/\Q (.str (Txt.rstripChars z y)) H
def DB:KD X "str.rstrip" Ji:=by
 intro ai s σ H x vs v us Q I rx rv h;obtain⟨z,y,rfl,rfl,hz,q⟩:=h;obtain⟨t,rfl⟩:=rx;obtain⟨u,rfl,ru⟩:=rv.one;obtain⟨tu,rfl⟩:=ru;exact SC.rstripChars (λt' k=>⟨.str _,H,I.tok _,159,q⟩) hz
def nO {z y:Str}{b:Nat}(h:Txt.rstripChars z y=⟨#[b]⟩):(sg z).head?=some b:=by
 obtain⟨j,hj,e⟩:=rstripChars_is_prefix z y;rw [e] at h;have h2:sg (Builtin.Str.strSub z 0 j)=[b]:=by rw [h];rfl
 unfold sg at h2 ⊢;rw [StrLaws.strSub_toList,List.drop_zero,Nat.sub_zero] at h2;cases e3:z.cps.toList with
 | nil=>rw [e3] at h2;simp at h2
 | cons a l =>
  rw [e3] at h2;cases j with
  | zero=>simp at h2
  | succ j =>
   rw [List.take_succ_cons] at h2;injection h2 with h3 _;rw [h3];rfl
def FV (K:aV):V->115->Hp->VK->Prop:=λx vs H Q=>∃z a ts,x=.str z/\vs=[.ref a]/\aZ K H a (ts.map V.str)/\(ts.map (·.length)).sum+ts.length * z.length<=16777216/\Q (.str (Txt.join z ts)) H
def yB {X:Cx}:KD X "str.join" (FV X.K):=by
 intro ai s σ H x vs v us Q I rx rv h;obtain⟨z,a,ts,rfl,rfl,hq,hz,q⟩:=h;obtain⟨t,rfl⟩:=rx;obtain⟨u,rfl,ru⟩:=rv.one;cases (show u=Value.ref a from ru);obtain⟨aN,r,pl,_⟩:=I.tuple hq;exact join_tuple pl (by simpa using wj r) hz λt' k=>⟨.str _,H,I.tok _,159,q⟩
end L2
namespace eZ
open PySem L2 M11
abbrev wG:Stmt:=top 52
abbrev Ax:Stmt:=top 53
section
def DF:z0r:=["*","+","?"]
def Qd:Str:=Txt.join "" DF
def fc (z:Str):Bool:=decide ((z.length:Int)<=14) && !JY (.str (Txt.rstripChars z Qd)) [.str ":",.str "|"]
def rN:Sp:=λvs H Q _=>∃z:Str,vs=[.str z]/\z.length<=sizeLine/\∀H',aE H H'->Q (.bl (fc z)) H'
def Fx:aJ ["word"] ["word"] (av wG):=182
def Dw (F:iu K "is_part" "is_part" wG f fd)(T:Txt mg)(hM:mg "MOST_SIGNS"=some (.int 14 tm))(hK:mg "MARKS"=some (.ref am))(hS:∀H,aZ K H am (DF.map V.str)):bF P w K mg base fN 1 f fd ["word"] rN:=by
 refine F.ok Fx 186 195
 .obtain⟨z,rfl,_⟩:=h;rfl
 obtain⟨z,rfl,hz,q⟩:=h;refine⟨_,ar (br (r_ (kS P0 (aM oq rfl T.len h_ (af (pv 0) ak)) (df (v:=.int 14) rfl hM ⟨tm,rfl⟩) (bz _))
  (wM (kS nX (dY p5 PySem.F.slot_str_rstrip PySem.F.type_str_rstrip DB (pv 0) (af (dY p5 vU vV yB gk (af (df (v:=.ref am) rfl hK rfl) ak)) ak)) (bJ (af gk (af gk ak))) rfl)))),?_⟩
 dsimp only [pK];refine⟨_,rfl,z,rfl,hz,_,_,rfl,rfl,_,rfl,?_⟩;refine cC (λc=>?_) (λc=>?_)
 .refine⟨_,rfl,rfl,rfl,"",am,DF,rfl,rfl,hS H,nofun,z,Qd,rfl,rfl,hz,nofun,λp hp=>⟨p,_,rfl,.inr (aZ.of ae),rfl,rfl,?_⟩⟩;have e:fc z=!JY (.str (Txt.rstripChars z Qd)) [.str ":",.str "|"]:=by unfold fc;rw [c];rfl
  have h:=q _ (ah hp (.tup [.str ":",.str "|"]));rw [e] at h;exact h
 have e:fc z=false:=by unfold fc;rw [pS.mpr c];rfl
 have h:=q H λ_ _ h=>h;rw [e] at h;exact h
def DQ {z:Str}(h:z.length<=14)(h1:(sg z).head?≠some 58)(h2:(sg z).head?≠some 124):fc z=true:=by
 unfold fc;rw [ff ∅,oG,Bool.not_eq_true'];unfold JY;rw [List.any_eq_false];intro y hy e;rcases aS.mp hy with rfl | hy
 .exact h1 (nO (eq_of_beq (show ((":":Str) == Txt.rstripChars z Qd)=true from e)).symm)
 rw [bD.mp hy] at e;exact h2 (nO (eq_of_beq (show (("|":Str) == Txt.rstripChars z Qd)=true from e)).symm)
def again (z:Str):Bool:=decide ((1:Int) < (z.length:Int)) && ((sg z).getLast? == some 42 || (sg z).getLast? == some 43 || (sg z).getLast? == some 63)
def wq:Sp:=λvs H Q _=>∃z:Str,vs=[.str z]/\z.length<=sizeLine/\Q (.bl (again z)) H
def Jd:aJ ["part"] ["part"] (av Ax):=182
def Gz (F:iu K "comes_again" "comes_again" Ax f fd)(T:Txt mg)(hK:mg "MARKS"=some (.ref am))(hS:∀H,aZ K H am (DF.map V.str)):bF P w K mg base fN 1 f fd ["part"] wq:=by
 refine F.ok Jd 186 195
 .obtain⟨z,rfl,_⟩:=h;rfl
 obtain⟨z,rfl,hz,q⟩:=h;refine⟨_,ar (br (r_ (kS sk (aM oq rfl T.len h_ (af (pv 0) ak)) au (bz _))
  (wM (kS uX (aO Ba (pv 0) (yk rE au) 144) (df (v:=.ref am) rfl hK rfl) rfl)))),?_⟩
 dsimp only [pK];refine⟨_,rfl,z,rfl,hz,_,_,rfl,rfl,_,rfl,?_⟩;refine cC (λc=>?_) (λc=>?_)
 .have c':=dJ c;obtain⟨x,ex⟩:∃x,(sg z).getLast?=some x:=by
   cases e:(sg z).getLast? with
   | some x=>exact⟨x,rfl⟩
   | none =>
    have e2:z.cps.toList=[]:=List.getLast?_eq_none_iff.mp e;have e3:z.length=0:=by show z.cps.size=0;rw [<-pW,e2];rfl
    omega
  have e0:again z=JY (.str ⟨#[x]⟩) (DF.map V.str):=by
   unfold again;rw [c,ex,oG];show ((some x == some 42) || (some x == some 43) || (some x == some 63))=(((⟨#[42]⟩:Str) == ⟨#[x]⟩) || (((⟨#[43]⟩:Str) == ⟨#[x]⟩) || (((⟨#[63]⟩:Str) == ⟨#[x]⟩) || false)))
   rw [PyProof.Rows.one_beq,PyProof.Rows.one_beq,PyProof.Rows.one_beq,Bool.or_false,Bool.or_assoc,ib];simp only [Bool.or_eq_true,beq_iff_eq,Option.some.injEq,decide_eq_true_eq];omega
  rw [e0] at q;refine⟨_,rfl,1,rfl,z,-1,x,rfl,rfl,hz,?_,am,_,rfl,.inr (hS H),rfl,nofun,q⟩;obtain⟨l,el⟩:=List.getLast?_eq_some_iff.mp ex;rw [show z.cps.toList=l++[x] from el];exact tQ _ _
 have e:again z=false:=by unfold again;rw [pS.mpr c];rfl
 rw [e] at q;exact q
end
end eZ
namespace L2
open PySem
def tL {X:Cx}(K:aV)(hK:X.K=K:=by rfl):fu X (185) (λxs H Q=>∃p ys,xs=[.ref p]/\((aF K H p ys/\∀l,H l=none->Q (.ref l) (upd H l (.tup ys)))\/(aZ K H p ys/\Q (.ref p) H))):=by
 subst hK;exact fj
end L2
namespace eZ
open PySem L2 M11
abbrev l7:Stmt:=top 51
section
def cX (d:List z0r) (c:z0r):z0r->Option (List z0r)
 | []=>some (d++[c])
 | w::ws=>if w=("|":Str) then cX (d++[c]) [] ws else if fc w=true then cX d (c++[w]) ws else none
def HX (R:Addr)(H H':Hp):Prop:=∀b o,b≠R->H b=111->H' b=111
def qd (K:aV):Sp:=λvs H Q _=>∃(h:Str)(W R:Addr) (ws:z0r)(rs:z0o)(aa:113),vs=[.str h,.ref W,.ref R]/\aF K H W (ws.map V.str)/\ws.length<=100000/\(∀z∈ws,z.length<=sizeLine) /\
 H R=some 235/\bj K H rs aa/\rs.length<=100000/\(cX [] [] ws=none->∀H',aE H H'->Q (.bl false) H') /\
 (∀rws,cX [] [] ws=some rws->∀MN H',MN.length=rws.length->HX R H H'->H' R=some (.lst ((rs++MN).map V.ref))->bj K H' (rs++MN) (aa++rws.map λp=>(h,p))->Q (.bl true) H')
theorem yp {α β:Type}{F:α->β->Prop}:∀{xs:List α}{ys:List β},Paired F xs ys->∀{i:Nat}{x:α},xs[i]?=some x->∃y,ys[i]?=some y/\F x y
 | _,_,.nil,i,x,e=>by cases i <;> cases e
 | _,_,.cons h t,0,x,e=>by cases e;exact⟨_,rfl,h⟩
 | _,_,.cons h t,i+1,x,e=>yp t e
theorem yq {α β:Type}{F:α->β->Prop}:∀{xs:List α}{ys:List β}{IM:List α}{Yd:List β},Paired F xs ys->Paired F IM Yd->Paired F (xs++IM) (ys++Yd)
 | _,_,_,_,.nil,h=>h
 | _,_,_,_,.cons h t,h2=>.cons h (yq t h2)
structure HZ (H:Hp)(A0:Addr) (ws:z0r) (i:Nat)(H2:Hp)(d:List z0r) (c:z0r)(oo:z0o)(ca:Addr):Prop where
 sm:aE H H2
 hA:H2 A0=some (.lst ((oo++[ca]).map V.ref))
 hd:Paired (λa l=>H2 a=some (.lst (List.map V.str l))) oo d
 hc:H2 ca=some (.lst (c.map V.str))
 fr:∀a∈oo++[ca],H a=none/\a≠A0
 fA:H A0=none
 nc:ca∉oo
 ld:d.length<=i
 lc:c.length<=i
 eq:cX d c (ws.drop i)=cX [] [] ws
def HZ.same {i:Nat}{d:List z0r}{c:z0r}(v:HZ H A0 ws i H2 d c oo ca)(s:aE H2 H3):HZ H A0 ws i H3 d c oo ca :=
 ⟨v.sm.trans s,s _ _ v.hA,Paired.ij v.hd λ_ _ z=>s _ _ z,s _ _ v.hc,v.fr,v.fA,v.nc,v.ld,v.lc,v.eq⟩
theorem uW {H2:Hp}:∀{oo:z0o}{d:List z0r},Paired (λa l=>H2 a=some (.lst (List.map V.str l))) oo d->∀a∈oo,H2 a≠none
 | _,_,.cons h t,a,ha=>by
  rcases aS.mp ha with rfl | ha
  .rw [h];exact λz=>by cases z
  exact uW t a ha
theorem nW {p:Addr}{o:HO}:∀{oo:z0o}{d:List z0r},p∉oo->Paired (λa l=>H2 a=some (.lst (List.map V.str l))) oo d->Paired (λa l=>upd H2 p o a=some (.lst (List.map V.str l))) oo d
 | _,_,_,.nil=>.nil
 | _,_,hp,.cons h t=>.cons (by rw [aj λz=>hp (by rw [<-z];exact cx)];exact h) (nW (λz=>hp (cw _ z)) t)
def HZ.cut {H H2:Hp}{A0 ca p:Addr}{i:Nat}{d:List z0r}{c:z0r}(v:HZ H A0 ws i H2 d c oo ca)(ex:ws[i]?=some ("|":Str))(hp:H2 p=none) :
  HZ H A0 ws (i+1) (upd (upd H2 p 128) A0 (.lst ((oo++[ca]).map V.ref++[.ref p]))) (d++[c]) [] (oo++[ca]) p:=by
 have Zb:p≠A0:=λz=>by rw [z,v.hA] at hp;cases hp
 have Zl:H p=none:=v.sm.free hp;have YK:p∉oo++[ca]:=λhm=>by
  rcases cK.mp hm with hm | hm
  .exact uW v.hd p hm hp
  rw [bD.mp hm,v.hc] at hp;cases hp
 have nA:A0∉oo++[ca]:=λhm=>(v.fr _ hm).2 rfl;obtain⟨hi,e⟩:=bM.mp ex;refine⟨λb o hb=>?_,by rw [ae,bA (l₁:=oo++[ca])];rfl,?_,?_,?_,v.fA,YK,by rw [bO];have:=v.ld;simp;omega,d6 _,?_⟩
 .rw [aj (aq hb v.fA),aj (aq hb Zl)];exact v.sm b o hb
 .refine nW nA (nW YK ?_);exact gA v.hd v.hc
 .rw [aj Zb,ae];rfl
 .intro a ha;rcases cK.mp ha with ha | ha
  .exact v.fr a ha
  rw [bD.mp ha];exact⟨Zl,Zb⟩
 rw [<-v.eq,v8 hi,e];show _=cX d c (("|":Str)::_);rw [cX,aA rfl]
def HZ.put {i:Nat}{d:List z0r}{c:z0r}{w:Str}(v:HZ H A0 ws i H2 d c oo ca)(ex:ws[i]?=some w)(hw:w≠("|":Str))(hi:fc w=true) :
  HZ H A0 ws (i+1) (upd H2 ca (.lst (c.map V.str++[.str w]))) d (c++[w]) oo ca:=by
 have hf:=v.fr ca (fO _ (bD.mpr rfl));obtain⟨hl,e⟩:=bM.mp ex;refine⟨λb o hb=>?_,by rw [aj hf.2.symm];exact v.hA,nW v.nc v.hd,by rw [ae,bA];rfl,v.fr,v.fA,v.nc,Nat.le_succ_of_le v.ld,by rw [bO];have:=v.lc;simp;omega,?_⟩
 .rw [aj (aq hb hf.1)];exact v.sm b o hb
 rw [<-v.eq,v8 hl,e];rw [cX,az hw,aA hi]
def ki:aJ ["head","words","rules","rows","word"] ["head","words","rules"] (av l7):=182
def wR (F:iu K "read_rules" "read_rules" l7 f fd)(T:Txt mg)(GP:aL P w K mg base 1 "is_part" ["word"] rN):bF P w K mg base fN 2 f fd ["head","words","rules"] (qd K):=by
 refine F.ok ki 186 195
 .obtain⟨h,W,R,ws,rs,aa,rfl,_⟩:=h;rfl
 obtain⟨h,W,R,ws,rs,aa,rfl,hW,hl,hz,hR,cT,SA,q0,q1⟩:=h;refine⟨_,ao (aD (i:=3) ki.nd rfl 116 (bu (af (bu ak) ak)))
  (ao (b_ cD rfl (bq (pv 1)) (ay (i:=4) ki.nd rfl 116)
   (ar (cR (bf qj (pv 4) gk (bz _)) (ar (cv (dY fY gE gF bR (pv 3) (af (bu ak) ak))))
    (ar (cR (fE (bU GP hr rfl (af (pv 4) ak))) (ar (cv (dY fY gE gF bR (aO aQ (pv 3) (yk rE au) 144) (af (pv 4) ak))))
     (ar (br eO)))))))
  (ao (cv (dY fY PySem.F.slot_list_extend PySem.F.type_list_extend DE (pv 2) (af (bV ["parts"] [(0,"head")] rfl (bq (pv 3)) (bH rfl rfl) nofun rfl nofun
    (λ_ _ _ _ _=>ay (i:=0) (show (["parts","head"]:z0r).Nodup by decide +kernel) rfl 116) (λ_ _ _ _ _=>cJ) (λ_ _ _ _ _=>bJ (af (pv 1) (af (bh (tL K) rfl T.tup rB (af (pv 0) ak)) ak)))) ak)))
  (ar (br eO)))),?_⟩
 dsimp only [pK];refine⟨oU,λc0 Q_=>⟨EJ,λA0 SQ=>?_⟩⟩;have nA:A0≠c0:=λz=>by rw [z,ae] at SQ;cases SQ
 have fA:H A0=none:=by rw [aj nA] at SQ;exact SQ
 have v0:HZ H A0 ws 0 (upd (upd H c0 128) A0 (.lst [.ref c0])) [] [] [] c0:=by
  refine⟨λb o hb=>by rw [aj (aq hb fA),aj (aq hb Q_)];exact hb,ae,.nil,by rw [aj nA.symm,ae];rfl,λa ha=>?_,fA,(λz=>by cases z),aG _,aG _,rfl⟩;rw [bD.mp ha];exact⟨Q_,nA.symm⟩
 generalize upd (upd H c0 128) A0 (.lst [.ref c0])=H1 at v0;refine⟨_,rfl,W,rfl,⟨_,v0.sm.seq hW⟩,du (xs:=ws.map V.str) (λi σ H2=>∃d c oo ca y,σ=[some (.str h),bc W,bc R,bc A0,y]/\HZ H A0 ws i H2 d c oo ca) ⟨_,_,_,_,none,rfl,v0⟩ ?_ ?_ ?_⟩
 .rintro i σ H2 _ ⟨d,c,oo,ca,y,_,v⟩;exact v.sm.seq hW
 .rintro i x σ H2 ex ⟨d,c,oo,ca,y,rfl,v⟩;rw [bB] at ex;obtain⟨z,ez,rfl⟩:=b9.mp ex;have hi:=(bM.mp ez).1;have ld:=v.ld;have lc:=v.lc;have ll:=bT v.hd;refine goN ?_;refine⟨_,rfl,rfl,_,rfl,?_⟩;refine cC (λe=>?_) (λe=>?_)
  .have e':z=("|":Str):=by
    have:=dJ e;injection this
   subst e';refine⟨_,rfl,.inl ⟨rfl,_,aF.of v.hA⟩,oU,λp hp=>⟨A0,(oo++[ca]).map V.ref,_,rfl,rfl,?_,?_,?_⟩⟩
   .rw [aj (aq v.hA hp)];exact v.hA
   .exact bx (by rw [aC,bO,ll];simp;omega)
   exact⟨_,_,_,_,_,rfl,v.cut ez hp⟩
  have e':z≠("|":Str):=λhh=>e (ff (congrArg V.str hh));refine⟨_,rfl,z,rfl,hz z (cf ez),λH3 s3=>⟨_,rfl,?_⟩⟩;have v3:=v.same s3;refine cC (λhp=>?_) (λhp=>?_)
  .refine⟨_,rfl,1,rfl,A0,_,_,.ref ca,rfl,rfl,aF.of v3.hA,?_,.inl ⟨rfl,_,aF.of v3.hc⟩,_,rfl,ca,_,_,rfl,rfl,v3.hc,?_,?_⟩
   .rw [bA];exact tQ _ _
   .exact 210
   exact⟨_,_,_,_,_,rfl,v3.put ez e' hp⟩
  refine q0 ?_ H3 v3.sm;rw [<-v.eq,v8 hi,(bM.mp ez).2,cX,az e',az hp]
 rintro σ H2 ⟨d,c,oo,ca,y,rfl,v⟩;have ld:=v.ld;have ll:=bT v.hd;rw [aC] at v ld;have e0:cX [] [] ws=some (d++[c]):=by rw [<-v.eq,List.drop_length];rfl
 have pr:Paired (λa l=>H2 a=some (.lst (List.map V.str l))) (oo++[ca]) (d++[c]):=gA v.hd v.hc;have lp:=bT pr;have lb:(d++[c]).length<=100001:=by rw [bO];simp;omega
 refine⟨_,rfl,.inl ⟨rfl,_,aF.of (v.sm _ _ hR)⟩,_,rfl,A0,rfl,⟨_,aF.of v.hA⟩,λD hD=>bX (xs:=(oo++[ca]).map V.ref) (λi ys σ2 H3=>∃ts:z0o,ys=ts.map V.ref/\ts.length=i/\bj K H3 ts (((d++[c]).take i).map λp=>(h,p))/\(∃y0,σ2=[y0,some (.str h)])/\aE H2 H3/\H3 D=some (.lst ys))
  ⟨[],rfl,rfl,.nil,⟨none,rfl⟩,ah hD _,ae⟩ (λi ys σ2 H3 _ h=>?_) (λi x ys σ2 H3 ex h=>?_) (λys σ2 H3 h=>?_)⟩
 .obtain⟨_,_,_,_,_,sm,_⟩:=h;exact sm.seq (aF.of v.hA)
 .obtain⟨ts,rfl,ht,hp,⟨y0,rfl⟩,sm,hd⟩:=h;rw [bB] at ex;obtain⟨a,ea,rfl⟩:=b9.mp ex;obtain⟨l,el,ha⟩:=yp pr ea;have ha3:=sm _ _ ha;have li:i<=100001:=by have:=(bM.mp el).1;omega
  refine goN (zF ?_);refine⟨_,rfl,_,rfl,a,_,rfl,.inl ⟨aF.of ha3,λp qm=>⟨lX,λt iL=>?_⟩⟩⟩;have Zq:upd H3 p (.tup (l.map V.str)) D=217:=by rw [aj (aq hd qm)];exact hd
  have xl:upd (upd H3 p (.tup (l.map V.str))) t (.tup [.str h,.ref p]) D=217:=by rw [aj (aq Zq iL)];exact Zq
  have s4:=(ah qm (.tup (l.map V.str))).trans (ah iL (.tup [.str h,.ref p]));have tp:aZ K (upd (upd H3 p (.tup (l.map V.str))) t (.tup [.str h,.ref p])) p (l.map V.str):=(ah iL (.tup [.str h,.ref p])).tup (aZ.of ae);refine⟨xl,210,ts++[t],?_,?_,?_,159,?_,ae⟩
  .rw [bA];rfl
  .rw [bO,ht];rfl
  .rw [cM,el,bA];exact gA ((hp.same s4).keep λ_ _ z=>aT xl z) ⟨p,aT xl (aZ.of ae),aT xl tp⟩
  intro b o hb;rw [254];exact s4 _ _ (sm b o hb)
 obtain⟨ts,rfl,ht,hp,_,sm,hd⟩:=h;rw [aC,lp] at ht hp;rw [dI] at hp;have Ww:=sm _ _ (v.sm _ _ hR);have sH:=v.sm.trans sm;refine⟨R,D,_,_,rfl,rfl,Ww,hd,fits (by rw [aC,aC];show rs.length+ts.length<=1000000;omega),?_⟩;refine q1 _ e0 ts _ ht (λb o hb hh=>by rw [aj hb];exact sH _ _ hh) (by rw [ae,bA]) ?_;exact yq ((cT.same sH).keep λ_ _ z=>aT Ww z) (hp.keep λ_ _ z=>aT Ww z)
end
end eZ
namespace L2
open PySem PySem.Spec PyProof.Rows
section
variable {prog:Program}{w:World}{A:Around}{E:z0b}{s:Shared}
abbrev BP (h:Heap)(z:Addr)(f0 f1:Value)(TI TO:Addr):Prop:=h.get? z=some { cls:=.type "zip",data:=.fields #[f0,f1,.bool false,.ref TI,.ref TO] }
end
structure ZSt (h:Heap)(z TI TO i1 i2 l1 l2:Addr)(xs ys:z0k) (i:Nat):Prop where
 hz:∃f0 f1,BP h z f0 f1 TI TO/\(f0=.none\/∃T:Nat,f0=rawInt T)
 hI:IsPair h TI (.ref i1) (.ref i2)
 hO:∃a b,IsPair h TO a b
 h1:h.IsTupleIter i1 l1 i
 h2:h.IsTupleIter i2 l2 i
 t1:h.IsTuple l1 xs
 t2:h.IsTuple l2 ys
end L2
namespace HT
open PySem PyProof.Rows
section
variable {prog:Program}{w:World}{A:Around}{E:z0b}{s:Shared}
end
end HT
namespace L2
open PySem PySem.Spec PyProof.Rows
open PySem
section
variable {prog:Program}{w:World}{A:Around}{E:z0b}{s:Shared}
end
def Inv.IT {X:Cx}{ai:z0e}{σ:St}{H:Hp}{s:Shared}{h':Heap}{t':Nat}{fp:z0o}(I:121)(hf:∀b∈fp,tX X ai H b)(k:∀b o,b∉fp->178->h'.get? b=111):Inv X ai σ H { s with heap:=h',toks:=t' }:=by
 have tr:∀b v,H b=some v->b∉fp:=λb v q hb=>by rw [(hf b hb).1] at q;cases q
 refine I.call (g':=s.gens) (t':=t') (d':=s.drawn) (ch:=fp) ⟨λb o q _ _ c=>k b o c q,λb o q _ _ c=>⟨o.slots,k b o c q⟩,λb o q n _=>n,λb o q c=>⟨o,k b o c q⟩,λb ys q=>q,λb o v q=>q,λb ps q=>⟨#[],by rw [q];simp⟩⟩ (λb v q=>?_) I.bare (λb hb=>?_)
 .refine(I.bw b v q).gH (λc o iK z=>?_) (λc q'=>q') λc ys q'=>q';rcases iK with rfl | iK
  .exact k c o (tr c _ q) z
  exact k c o (tr c _ iK) z
 have f:=hf b hb;exact⟨f.2.2.2.1,f.2.1,f.2.2.2.2.1,f.2.2.2.2.2⟩
def Inv.IS {X:Cx}{ai:z0e}{σ:St}{H:Hp}{s:Shared}{h':Heap}{t':Nat}{fp:z0o}{x y:V}{u v:Value}(I:121)(hf:∀b∈fp,tX X ai H b)(k:∀b o,b∉fp->178->h'.get? b=111)
  (T2:IsPair h' s.heap.objs.size u v)(ru:RelV x u)(rv:RelV y v):Inv X ai σ (upd H s.heap.objs.size (.tup [x,y])) { s with heap:=h',toks:=t' }:=by
 have fT:H s.heap.objs.size=none:=I.bw.fresh (aG _);have tr:∀b v,H b=some v->b∉fp:=λb v q hb=>by rw [(hf b hb).1] at q;cases q
 have lt:∀b o,178->b≠s.heap.objs.size:=λb o q=>bp (aP q);refine I.call (g':=s.gens) (t':=t') (d':=s.drawn) (ch:=fp) ⟨λb o q _ _ c=>k b o c q,λb o q _ _ c=>⟨o.slots,k b o c q⟩,
  λb o q n _=>by rw [aj (lt b o q)];exact n,λb o q c=>⟨o,k b o c q⟩,λb ys q=>by rw [aj (aq q fT)];exact q,λb o v q=>by rw [aj (aq q fT)];exact q,
  λb ps q=>⟨#[],by rw [aj (aq q fT),q];simp⟩⟩ (λb w q=>?_) I.bare (λb hb=>?_)
 .by_cases hb:b=s.heap.objs.size
  .subst hb;rw [ae] at q;cases q;exact⟨by show 2<=sizeLine;decide,[u,v],.cons ru (.cons rv .nil),_,T2,rfl,_,rfl⟩
  rw [aj hb] at q;refine(I.bw b w q).gH (λc o iK z=>?_) (λc q'=>by rw [aj (aq q' fT)];exact q') λc ys q'=>by rw [aj (aq q' fT)];exact q'
  rcases iK with rfl | iK
  .exact k c o (tr c _ q) z
  exact k c o (tr c _ iK) z
 have f:=hf b hb;exact⟨f.2.2.2.1,f.2.1,f.2.2.2.2.1,f.2.2.2.2.2⟩
structure ZTn (h:Heap)(z TI TO i1 i2 l1 l2:Addr) (i:Nat):Prop where
 hz:∃f0 f1,BP h z f0 f1 TI TO/\(f0=.none\/∃T:Nat,f0=rawInt T)
 hI:IsPair h TI (.ref i1) (.ref i2)
 hO:∃a b,IsPair h TO a b
 h1:h.IsTupleIter i1 l1 i
 h2:h.IsTupleIter i2 l2 i
end L2
namespace HT
open PySem PySem.Spec PyProof.Rows
section
variable {prog:Program}{w:World}{A:Around}{E:z0b}{s:Shared}
end
end HT
namespace L2
open PySem PySem.Spec PyProof.Rows
section
variable {prog:Program}{w:World}{A:Around}{E:z0b}{s:Shared}
end
def Kn:115->115->Bool
 | [],[]=>true
 | x::xs,y::ys=>zH x y && Kn xs ys
 | _,_=>false
theorem pI:∀(xs ys:115),((List.range (min xs.length ys.length)).all (λj=>zH (xs.getD j .dq) (ys.getD j .dq)) && (xs.length == ys.length))=Kn xs ys
 | [],[]=>rfl
 | [],y::ys=>by simp [Kn]
 | x::xs,[]=>by simp [Kn]
 | x::xs,y::ys=>by
  have ih:=pI xs ys;show _=(zH x y && Kn xs ys);rw [<-ih,c_,c_,Nat.succ_min_succ,List.range_succ_eq_map,List.all_cons,List.all_map];simp only [Function.comp_def,List.getD_cons_zero,List.getD_cons_succ,Nat.succ_eq_add_one];rw [Bool.and_assoc]
  congr 2
  simp
def Bq {xs ys:115}{aN fK:z0m}(r:aY xs aN)(r2:aY ys fK)(fx:xs.all iG=true)(fy:ys.all iG=true) (j:Nat)(h1:j < aN.toArray.size)(h2:j < fK.toArray.size) :
  SeqAt.EqAt A s aN.toArray[j] fK.toArray[j] (zH (xs.getD j .dq) (ys.getD j .dq)):=by
 have l1:=r.length;have l2:=r2.length;have k1:j < aN.length:=by simpa using h1
 have k2:j < fK.length:=by simpa using h2
 have g1:xs[j]?=some (xs[j]'∅):=cN ∅;have g2:ys[j]?=some (ys[j]'∅):=cN ∅;obtain⟨u1,e1,q1⟩:=r.get g1;obtain⟨u2,e2,q2⟩:=r2.get g2;have f1:aN.toArray[j]=u1:=by
  have:=(bM.mp e1).2;simpa using this
 have f2:fK.toArray[j]=u2:=by
  have:=(bM.mp e2).2;simpa using this
 rw [f1,f2];have d1:xs.getD j .dq=xs[j]'∅:=by rw [p8,g1];rfl
 have d2:ys.getD j .dq=ys[j]'∅:=by rw [p8,g2];rfl
 rw [d1,d2];exact Bt q1 q2 (dW.mp fx _ (j6 _)) (dW.mp fy _ (j6 _))
def lg (l:Addr)(items:z0k)(Wh:(items.size:Int) < 2 ^ 63) :
  Meets (Builtin.«bool.__new__» ⟨[.type "bool",.ref l],[]⟩) (λ_ R s=>s.heap.IsList l items/\R (.ok (.ret (.bool (!items.isEmpty)))) { s with toks:=s.toks+1+1 }) :=
 Meets.of_wp λprog w A R s hs=>by
  obtain⟨hl,hs⟩:=hs;obtain⟨hp,g,d,tk,os⟩:=s;have f1:=F.conv_sub_bool
  repeat (any_goals (first | assumption | (with_reducible refine wpAny_truthy_list hl Wh ?_) | wp_step))
  all_goals first | exact⟨_,rfl,hs⟩ | exact hs | skip
def BE {X:Cx}:fu X (.type "bool") (λxs H Q=>∃p ys,xs=[.ref p]/\aF X.K H p ys/\Q (.bl (!ys.isEmpty)) H):=by
 intro ai s σ H xs us Q I r h;obtain⟨p,ys,rfl,hq,q⟩:=h;obtain⟨u,rfl,rx⟩:=vals1 r;cases (show u=Value.ref p from rx);obtain⟨aN,rv,pl,hz⟩:=I.list hq;have l1:=rv.length;have hn:=mr;refine call_bool_1 (lg p aN.toArray (by simp only [cb];omega)) ⟨pl.isList,rfl,?_⟩;have e:(aN.toArray.isEmpty)=ys.isEmpty:=by
  cases aN with
  | nil=>cases ys with
   | nil=>rfl
   | cons _ _=>cases l1
  | cons _ _=>cases ys with
   | nil=>cases l1
   | cons _ _=>rfl
 rw [e];exact⟨.bl _,H,I.tok _,rfl,q⟩
def rLL (K:aV):R2:=λx y H Q=>∃a b xs ys,x=.ref a/\y=.ref b/\aF K H a xs/\aF K H b ys/\xs.all iG=true/\ys.all iG=true/\Q (.bl (Kn xs ys)) H
def JC {X:Cx}(hu:X.A.units < cLine):oy X (compareOp .Eq) (rLL X.K):=by
 intro ai s σ H x y v u Q I rx ry h;obtain⟨a,b,xs,ys,rfl,rfl,ha,hb,fx,fy,q⟩:=h;cases rx;cases ry;obtain⟨aN,r,pl,hz⟩:=I.list ha;obtain⟨fK,r2,AG,Sv⟩:=I.list hb;have l1:=r.length;have l2:=r2.length;by_cases hl:xs.length=ys.length
 .refine SeqAt.eq_listAt (e:=λj=>zH (xs.getD j .dq) (ys.getD j .dq)) pl.isList AG.isList (by simp only [cb];omega) hu (λj h1 h2=>Bq r r2 fx fy j h1 h2) ?_;have e:((List.range aN.toArray.size).all (λj=>zH (xs.getD j .dq) (ys.getD j .dq)))=Kn xs ys:=by
   rw [<-pI,hl,Nat.min_self,lV,Bool.and_true,cb,<-l1,hl]
  rw [e];exact⟨.bl _,H,I,rfl,q⟩
 have e:Kn xs ys=false:=by
  rw [<-pI,beq_false_of_ne hl,Bool.and_false]
 rw [e] at q;refine SeqAt.eq_list_lengthsAt pl.isList AG.isList ?_ hu ⟨.bl false,H,I,rfl,q⟩;rw [cb,cb,<-l1,<-l2]
 first | exact hl | exact beq_false_of_ne hl | simpa using hl
end L2
namespace eZ
open PySem L2 M11
abbrev rR:Stmt:=top 50
section
def qW (ns:z0r) (k:Nat):fM (ns.map V.str) (some (k:Int)) none=(ns.drop k).map V.str:=by
 have e1:HT.kZ (ns.map V.str).length 0 (some (k:Int))=min k ns.length:=by
  unfold HT.kZ;rw [aC];simp;omega
 have e2:HT.kZ (ns.map V.str).length (ns.map V.str).length none=ns.length:=by
  unfold HT.kZ;rw [aC]
 unfold fM;rw [e1,e2,<-List.map_drop];have h3:ns.drop (min k ns.length)=ns.drop k:=by
  by_cases h:k<=ns.length
  .rw [Nat.min_eq_left h]
  rw [Nat.min_eq_right ∅,List.drop_length,zK ∅]
 rw [h3,lE];rw [aC,ng];omega
def LL:∀ns:z0r,fM (ns.map V.str) (some 1) (some 2)=((ns.drop 1).take 1).map V.str
 | []=>rfl
 | [_]=>rfl
 | a::b::r=>by
  have e1:HT.kZ ((a::b::r).map V.str).length 0 (some (1:Int))=1:=by
   unfold HT.kZ;rw [aC];simp
  have e2:HT.kZ ((a::b::r).map V.str).length ((a::b::r).map V.str).length (some (2:Int))=2:=by
   unfold HT.kZ;rw [aC];simp
  unfold fM;rw [e1,e2];rfl
theorem sj {α β:Type}{F:α->β->Prop}:∀{ys:List β}{y:β}{xs:List α},Paired F xs (ys++[y])->∃zs z,xs=zs++[z]/\Paired F zs ys/\F z y
 | [],y,_,.cons r .nil=>⟨[],_,rfl,.nil,r⟩
 | _::ys,y,_,.cons r t=>by
  obtain⟨zs,z,rfl,h1,h2⟩:=sj (ys:=ys) t;exact⟨_::zs,z,rfl,.cons r h1,h2⟩
def qr (x:Str) (r:z0r):lK ((x::r).map V.str) 0=some (.str x):=cS (j:=0) rfl
def HX.tup {R:Addr}(e:HX R H H')(hR:H R=some (.lst ys)){a:Addr}{xs:115}(h:aZ K H a xs):aZ K H' a xs:=by
 rcases h with (h | ⟨u,h⟩) | h
 .exact .inl (.inl (e _ _ (λz=>by rw [z,hR] at h;cases h) h))
 .exact .inl (.inr ⟨u,e _ _ (λz=>by rw [z,hR] at h;cases h) h⟩)
 exact .inr h
def uC:z0r:=["left","right","none"]
def HW (R S:Addr)(H H':Hp):Prop:=∀b o,b≠R->b≠S->H b=111->H' b=111
inductive vB (aa kY:113):z0r->113->113->Prop
 | more (h:Str) (ps:z0r) (rest:z0r)(rws:List z0r)(e:aa.getLast?=some (h,ps))(er:cX [] [] rest=some rws):vB aa kY (("|":Str)::rest) (aa++rws.map λp=>(h,p)) kY
 | head (h:Str) (rest:z0r)(rws:List z0r)(hn:h≠("|":Str))(hp:fc h=true)(ha:again h=false)(er:cX [] [] rest=some rws):vB aa kY (h::(":":Str)::rest) (aa++rws.map λp=>(h,p)) kY
 | way (z:Str) (rest:z0r)(hz:z∈uC)(hr:rest≠[])(hc:rest.head?≠some (":":Str))(hp:∀p∈rest,fc p=true):vB aa kY (z::rest) aa (kY++[(z,rest)])
def Mc:∀z∈uC,z≠("|":Str):=by decide
def Md:∀z∈uC,JY (.str z) (uC.map V.str)=true:=by decide
def uN (K:aV):Sp:=λvs H Q _=>∃(W R S:Addr) (ws:z0r)(rs ss:z0o)(aa kY jw Ad:113),vs=[.ref W,.ref R,.ref S]/\aF K H W (ws.map V.str)/\ws.length<=100000/\(∀z∈ws,z.length<=sizeLine) /\
 H R=some 235/\bj K H rs aa/\rs.length<=100000/\H S=some (.lst (ss.map V.ref))/\bj K H ss kY/\ss.length<=100000/\R≠S/\vB aa kY ws jw Ad /\
 (∀Jg R8 H',HW R S H H'->H' R=some (.lst (Jg.map V.ref))->bj K H' Jg jw->H' S=some (.lst (R8.map V.ref))->bj K H' R8 Ad->Q (.bl true) H')
def Di:aJ ["words","rules","strengths"] ["words","rules","strengths"] (av rR):=182
def AS (F:iu K "read_row" "read_row" rR f fd)(T:Txt mg)(hW:mg "WAYS"=some (.ref aw))(hS:∀H,aZ K H aw (uC.map V.str))(GP:aL P w K mg base 1 "is_part" ["word"] rN)(GA:aL P w K mg base 1 "comes_again" ["part"] wq)
  (GR:aL P w K mg base 2 "read_rules" ["head","words","rules"] (qd K)):bF P w K mg base fN 3 f fd ["words","rules","strengths"] (uN K):=by
 refine F.ok Di 186 195
 .obtain⟨W,R,S,ws,rs,ss,aa,kY,jw,Ad,rfl,_⟩:=h;rfl
 obtain⟨W,R,S,ws,rs,ss,aa,kY,jw,Ad,rfl,Bj,hl,hz,hR,cT,SA,SO,yM,hss,M_,ok,q⟩:=h;have hu:=oR (j7 _ 64) hr.units;refine⟨_,ao (cR (bf qj (aO aQ (pv 0) au 144) gk (bz _))
   (ar (br (r_ (bh BE rfl T.boo PyProof.Rows.boot_bool (af (pv 1) ak)) (wM (bU GR hr rfl (af (aO cz (aO aQ (pv 1) (yk rE au) 144) au 144) (af (dO f_ (pv 0) (dH au) gQ) (af (pv 1) ak)))))))) bL)
  (ao (cR (bf (JC hu) (dO f_ (pv 0) (dH au) (dH au)) (bu (af gk ak)) (bz _))
   (ar (br (r_ (bU (GP.mono (by decide:1<=2)) hr rfl (af (aO aQ (pv 0) au 144) ak)) (r_ (MV (bU (GA.mono (by decide:1<=2)) hr rfl (af (aO aQ (pv 0) au 144) ak)))
    (wM (bU GR hr rfl (af (aO aQ (pv 0) au 144) (af (dO f_ (pv 0) (dH au) gQ) (af (pv 1) ak))))))))) bL)
  (ao (cR (PW.pt (gK (bf uX (aO aQ (pv 0) au 144) (df (v:=.ref aw) rfl hW rfl) rfl) (gK (bf sk (aM cA rfl T.len h_ (af (pv 0) ak)) au (bz _))
    (gO (fE (aM (pM rfl) rfl T.all boot_all (af (bV ["word"] [] rfl (bq (dO f_ (pv 0) (dH au) gQ)) (bH rfl rfl) nofun rfl nofun
     (λ_ _ _ _ _=>ay (i:=0) (show (["word"]:z0r).Nodup by decide +kernel) rfl 116) (λ_ _ _ _ _=>cJ) (λ_ _ _ _ _=>bU (GP.mono (by decide:1<=2)) hr rfl (af (pv 0) ak))) ak)))))))
   (ao (cv (dY fY gE gF bR (pv 2) (af (bJ (af (aO aQ (pv 0) au 144) (af (bh fj rfl T.tup rB (af (dO f_ (pv 0) (dH au) gQ) ak)) ak))) ak)))
   (ar (br eO))) bL)
  (ar (br eO)))),?_⟩
 dsimp only [pK];have V5:ws≠[]:=by
  cases ok <;> exact List.cons_ne_nil _ _
 cases ok with
 | more h ps rest rws e er =>
  obtain⟨r0,e0⟩:=List.getLast?_eq_some_iff.mp e;subst e0;have lp:=bT cT;obtain⟨Sb,rl,rfl,yO,⟨pa,v1,v2⟩⟩:∃Sb rl,rs=Sb++[rl]/\bj K H Sb r0/\iI K H rl (h,ps):=sj cT;refine⟨_,rfl,W,_,_,_,rfl,rfl,Bj,qr _ _,rfl,true,rfl,?_⟩;refine lB ?_;refine⟨_,rfl,R,_,rfl,aF.of hR,true,by rw [bA];simp,?_⟩;refine lB ?_;refine⟨_,rfl,1,rfl,R,_,_,.ref rl,rfl,rfl,aF.of hR,by rw [bA];exact tQ _ _,rl,_,_,_,rfl,rfl,v1,rfl,_,rfl,1,rfl,W,_,rfl,Bj,λp hp=>⟨_,rfl,?_⟩⟩;have s1:=ah hp (.lst (fM (List.map V.str (("|":Str)::rest)) (some 1) none));have OJ:upd H p (.lst (fM (List.map V.str (("|":Str)::rest)) (some 1) none)) p=some (.lst (rest.map V.str)):=by
   rw [ae,show ((1:Int))=((1:Nat):Int) from rfl,qW];rfl
  generalize upd H p (.lst (fM (List.map V.str (("|":Str)::rest)) (some 1) none))=H1 at s1 OJ;refine⟨h,p,R,rest,Sb++[rl],r0++[(h,ps)],rfl,aF.of OJ,by simp at hl;omega,λz Iu=>hz z (cw _ Iu),s1 _ _ hR,cT.same s1,SA,λe'=>(by rw [er] at e';cases e'),λUq e' MN H' l2 sb CG uo=>?_⟩;rw [er] at e';cases e';exact q _ ss H' (λb o hb _ ho=>sb b o hb (s1 _ _ ho)) CG uo (sb _ _ M_.symm (s1 _ _ SO)) ((yM.same s1).keep λ_ _ z=>sb.tup (s1 _ _ hR) z)
 | head h rest rws hn hp ha er =>
  have QA:=hz h cx;refine⟨_,rfl,W,_,_,_,rfl,rfl,Bj,qr _ _,rfl,false,by rw [gB (λz=>hn (V.str.inj z))],?_⟩;refine gy ?_;refine⟨_,rfl,1,rfl,2,rfl,W,_,rfl,Bj,λp OJ=>⟨EJ,λp2 qm=>?_⟩⟩;rw [LL] at qm ⊢;have s1:=ah OJ (.lst (List.map V.str (((h::(":":Str)::rest).drop 1).take 1)));have e1:upd H p (.lst (List.map V.str (((h::(":":Str)::rest).drop 1).take 1))) p=some (.lst [.str ":"]):=ae;generalize upd H p (.lst (List.map V.str (((h::(":":Str)::rest).drop 1).take 1)))=H1 at s1 e1 qm;have s2:=s1.trans (ah qm (.lst [.str ":"]));have e2:=ah qm (.lst [.str ":"]) _ _ e1;have e3:upd H1 p2 (.lst [.str ":"]) p2=some (.lst [.str ":"]):=ae;generalize upd H1 p2 (.lst [.str ":"])=H2 at s2 e2 e3;refine⟨p,p2,_,_,rfl,rfl,aF.of e2,aF.of e3,rfl,rfl,true,rfl,?_⟩;refine lB ?_;refine⟨_,rfl,W,_,_,_,rfl,rfl,s2.seq Bj,qr _ _,h,rfl,QA,λH3 s3=>?_⟩;have s4:=s2.trans s3;rw [hp];refine⟨_,rfl,?_⟩;refine lB ?_;refine⟨_,rfl,W,_,_,_,rfl,rfl,s4.seq Bj,qr _ _,h,rfl,QA,?_⟩;rw [ha];refine⟨_,rfl,_,rfl,?_⟩;refine lB ?_;refine⟨_,rfl,W,_,_,_,rfl,rfl,s4.seq Bj,qr _ _,_,rfl,2,rfl,W,_,rfl,s4.seq Bj,λp3 VX=>⟨_,rfl,?_⟩⟩;have s5:=s4.trans (ah VX (.lst (fM (List.map V.str (h::(":":Str)::rest)) (some 2) none)));have e5:upd H3 p3 (.lst (fM (List.map V.str (h::(":":Str)::rest)) (some 2) none)) p3=some (.lst (rest.map V.str)):=by
   rw [ae,show ((2:Int))=((2:Nat):Int) from rfl,qW];rfl
  generalize upd H3 p3 (.lst (fM (List.map V.str (h::(":":Str)::rest)) (some 2) none))=H5 at s5 e5;refine⟨h,p3,R,rest,rs,aa,rfl,aF.of e5,by simp at hl;omega,λz Iu=>hz z (cw _ (cw _ Iu)),s5 _ _ hR,cT.same s5,SA,λe'=>(by rw [er] at e';cases e'),λUq e' MN H' l2 sb CG uo=>?_⟩;rw [er] at e';cases e';exact q _ ss H' (λb o hb _ ho=>sb b o hb (s5 _ _ ho)) CG uo (sb _ _ M_.symm (s5 _ _ SO)) ((yM.same s5).keep λ_ _ z=>sb.tup (s5 _ _ hR) z)
 | way z rest QA yO hc hp =>
  have lr:(z::rest).length<=100000:=hl;rw [c_] at lr;have l0:0 < rest.length:=List.length_pos_iff.mpr yO;refine⟨_,rfl,W,_,_,_,rfl,rfl,Bj,qr _ _,rfl,false,by rw [gB (λe=>Mc z QA (V.str.inj e))],?_⟩;refine gy ?_;refine⟨_,rfl,1,rfl,2,rfl,W,_,rfl,Bj,λp OJ=>⟨EJ,λp2 qm=>?_⟩⟩;rw [LL] at qm ⊢;have s1:=ah OJ (.lst (List.map V.str (((z::rest).drop 1).take 1)));have e1:upd H p (.lst (List.map V.str (((z::rest).drop 1).take 1))) p=some (.lst (List.map V.str (rest.take 1))):=ae;generalize upd H p (.lst (List.map V.str (((z::rest).drop 1).take 1)))=H1 at s1 e1 qm;have s2:=s1.trans (ah qm (.lst [.str ":"]));have e2:=ah qm (.lst [.str ":"]) _ _ e1;have e3:upd H1 p2 (.lst [.str ":"]) p2=some (.lst [.str ":"]):=ae;generalize upd H1 p2 (.lst [.str ":"])=H2 at s2 e2 e3;have ef:Kn (List.map V.str (rest.take 1)) [.str ":"]=false:=by
   cases rest with
   | nil=>rfl
   | cons a r =>
    show ((a == (":":Str)) && true)=false;rw [Bool.and_true,jW];exact λe=>hc (by rw [e];rfl)
  refine⟨p,p2,_,_,rfl,rfl,aF.of e2,aF.of e3,?_,rfl,false,by rw [ef],?_⟩
  .rw [dW];intro x hx;obtain⟨y,_,rfl⟩:=cQ.mp hx;rfl
  refine gy ?_;refine⟨_,rfl,W,_,_,_,rfl,rfl,s2.seq Bj,qr _ _,aw,_,rfl,.inr (hS _),rfl,nofun,true,by rw [az nofun,Md z QA],?_⟩;refine lB ?_;refine⟨_,rfl,W,_,rfl,.inl (s2.seq Bj),_,_,rfl,rfl,true,congrArg V.bl (ff (by rw [aC,c_];omega)),?_⟩;refine lB ?_;refine⟨_,rfl,1,rfl,W,_,rfl,s2.seq Bj,λp3 VX=>?_⟩;have s3:=s2.trans (ah VX (.lst (fM (List.map V.str (z::rest)) (some 1) none)));have e4:upd H2 p3 (.lst (fM (List.map V.str (z::rest)) (some 1) none)) p3=some (.lst (rest.map V.str)):=by
   rw [ae,show ((1:Int))=((1:Nat):Int) from rfl,qW];rfl
  generalize upd H2 p3 (.lst (fM (List.map V.str (z::rest)) (some 1) none))=H3 at s3 e4;refine⟨p3,rfl,⟨_,aF.of e4⟩,λD hD=>bX (xs:=rest.map V.str) (λi ys σ2 H4=>ys=(List.replicate i true).map V.bl/\(∃y0,σ2=[y0])/\aE H3 H4/\H4 D=some (.lst ys))
   ⟨rfl,⟨none,rfl⟩,ah hD _,ae⟩ (λi ys σ2 H4 _ h=>h.2.2.1.seq (aF.of e4)) (λi x ys σ2 H4 ex h=>?_) (λys σ2 H4 h=>?_)⟩
  .obtain⟨rfl,⟨y0,rfl⟩,sm,hd⟩:=h;rw [bB] at ex;obtain⟨y,ey,rfl⟩:=b9.mp ex;have hm:=cf ey;have li:=(bM.mp ey).1;refine goN (zF ?_);refine⟨_,rfl,y,rfl,hz y (cw _ hm),λH5 s5=>?_⟩;rw [hp y hm];refine⟨s5 _ _ hd,bx (by rw [aC,List.length_replicate];omega),by rw [List.replicate_succ',bA];rfl,159,λb o hb=>?_,ae⟩;rw [aj (λe=>by rw [e,hD] at hb;cases hb)];exact s5 _ _ (sm b o hb)
  obtain⟨rfl,_,sm,hd⟩:=h;have s6:=s3.trans sm;refine⟨D,_,rfl,aF.of hd,true,by rw [List.all_replicate];simp,?_⟩;refine lB ?_;refine⟨_,rfl,.inl ⟨rfl,_,aF.of (s6 _ _ SO)⟩,_,rfl,W,_,_,_,rfl,rfl,s6.seq Bj,qr _ _,_,rfl,1,rfl,W,_,rfl,s6.seq Bj,λp4 hp4=>?_⟩;have s7:=s6.trans (ah hp4 (.lst (fM (List.map V.str (z::rest)) (some 1) none)));have e7:upd H4 p4 (.lst (fM (List.map V.str (z::rest)) (some 1) none)) p4=some (.lst (rest.map V.str)):=by
   rw [ae,show ((1:Int))=((1:Nat):Int) from rfl,qW];rfl
  generalize upd H4 p4 (.lst (fM (List.map V.str (z::rest)) (some 1) none))=H7 at s7 e7;refine⟨p4,_,rfl,.inl ⟨aF.of e7,λt ht=>⟨lX,λt2 iL=>?_⟩⟩⟩;have s8:=(ah ht (.tup (rest.map V.str))).trans (ah iL (.tup [.str z,.ref t]));have t8:aZ K (upd (upd H7 t (.tup (rest.map V.str))) t2 (.tup [.str z,.ref t])) t (rest.map V.str):=(ah iL (.tup [.str z,.ref t])).tup (aZ.of ae);have t9:aZ K (upd (upd H7 t (.tup (rest.map V.str))) t2 (.tup [.str z,.ref t])) t2 [.str z,.ref t]:=aZ.of ae;generalize upd (upd H7 t (.tup (rest.map V.str))) t2 (.tup [.str z,.ref t])=H8 at s8 t8 t9;have s9:=s7.trans s8;have Rc:=s9 _ _ SO;refine⟨S,_,_,rfl,rfl,Rc,210,?_⟩;refine q rs (ss++[t2]) _ (λb o _ hb ho=>by rw [aj hb];exact s9 _ _ ho) (by rw [aj M_];exact s9 _ _ hR) ((cT.same s9).keep λ_ _ y=>aT Rc y) (by rw [ae,bA];rfl) ?_;exact gA ((yM.same s9).keep λ_ _ y=>aT Rc y) ⟨t,aT Rc t9,aT Rc t8⟩
end
end eZ
namespace L2
open PySem
def vk {K:aV}{H:Hp}{p D d:Addr}{zs:z0r}{kvs:140}{σ:St}{js:z0i}{Qp:Hp->Prop}(hσ:eI ["part"] js σ=[none,bc d])(hp:aZ K H p (zs.map V.str))(hz:zs.length<=1000)
  (hd:H d=184)(hD:H D=none)(q:∀H2,aE H H2->H2 D=some (.lst ((zs.map λz=>(ba kvs 145).isSome).map V.bl))->Qp H2) :
  ∃W:Nat->Nat->115->148,(∃m,W 0 m [] (eI ["part"] js σ) (upd H D 128)) /\
 ∀i m ys σ' H,W i m ys σ' H->((tV K p).stop i H/\Qp H)\/((tV K p).go i H/\∃m',m' < m/\∀x H',(tV K p).nu i H x H'->eA 0 x σ' H' λσ2 H2=>jc σ2 H2 λb H3 =>
  if b=true then Po (gw 0) (gw 1) σ2 H3 248 else W (i+1) m' ys σ2 H3):=by
 refine gN (xs:=zs.map V.str) (λi ys σ2 H2=>ys=(((zs.take i).map λz=>(ba kvs 145).isSome).map V.bl)/\(∃y0,σ2=[y0,bc d])/\aE H H2/\H2 D=some (.lst ys))
  ⟨rfl,⟨none,hσ⟩,ah hD _,ae⟩ (λi ys σ2 H2 _ h=>h.2.2.1.tup hp) (λi x ys σ2 H2 ex h=>?_) (λys σ2 H2 h=>?_)
 .obtain⟨rfl,⟨y0,rfl⟩,sm,hd2⟩:=h;rw [bB] at ex;obtain⟨z,ez,rfl⟩:=b9.mp ex;have li:=(bM.mp ez).1;refine goN (zF ?_);refine⟨_,rfl,_,rfl,d,_,rfl,cq.k (k:=127) (sm _ _ hd),hd2,bx (by rw [aC,aC,d7];omega),?_,159,?_,ae⟩
  .rw [cM,ez,bA,bA];rfl
  intro b o hb;rw [254];exact sm b o hb
 obtain⟨rfl,_,sm,hd2⟩:=h;rw [aC,dI] at hd2;exact q H2 sm hd2
def gY {K:aV}{D a:Addr}{xs:115}{ys:140}{o:HO}(hD:H D=some (.dK ys))(h:aZ K H a xs):aZ K (upd H D o) a xs:=by
 rcases h with (h | ⟨u,h⟩) | h
 .exact .inl (.inl (by rw [aj (λz=>by rw [z,hD] at h;cases h)];exact h))
 .exact .inl (.inr ⟨u,by rw [aj (λz=>by rw [z,hD] at h;cases h)];exact h⟩)
 exact .inr h
theorem gL {α:Type} [DecidableEq α]:∀(l m:List α),l.Nodup->(∀x∈l,x∈m)->l.length<=m.length
 | [],m,_,_=>d6 _
 | a::l,m,hn,h=>by
  have hm:=h a cx;have:=gL l (m.erase a) (iO.mp hn).2 λx hx=>(List.mem_erase_of_ne (λz:x=a=>(iO.mp hn).1 (by rw [<-z];exact hx))).mpr (h x (cw _ hx));rw [List.length_erase_of_mem hm] at this;have:=List.length_pos_of_mem hm;rw [c_];omega
end L2
namespace M11
open PySem L2
inductive xI (aa:113):z0h->Prop
 | nil:xI aa []
 | snoc {bo:z0h}{k:Nat}{ru:aB}:xI aa bo->aa[k]?=some ru->ru.1∉bo.map 56->(∀p∈ru.2,p∈bo.map 56)->xI aa (bo++[(ru.1,k)])
def zB (aa:113) (n:Nat)(bo:z0h):Prop:=∀ru∈aa.take n,(∀p∈ru.2,p∈bo.map 56)->ru.1∈bo.map 56
def xI.nd {aa:113}{bo:z0h}(h:xI aa bo):(bo.map 56).Nodup:=by
 induction h with
 | nil=>exact jr
 | snoc h e n p ih =>
  rw [bA];refine nj.mpr ⟨ih,108,λa ha b hb=>?_⟩;rw [oQ,bD] at hb;exact λz=>n (by rw [<-hb,<-z];exact ha)
def xI.head {aa:113}{bo:z0h}(h:xI aa bo):∀x∈bo.map 56,x∈aa.map 56:=by
 induction h with
 | nil=>simp
 | snoc h e n p ih =>
  intro x hx;rw [bA] at hx;rcases cK.mp hx with hx | hx
  .exact ih x hx
  rw [oQ,bD] at hx;rw [hx];exact i7 (cf e)
def xI.len {aa:113}{bo:z0h}(h:xI aa bo):bo.length<=aa.length:=by
 have:=gL _ _ h.nd h.head;rw [aC,aC] at this;exact this
end M11
namespace eZ
open PySem L2 M11
section
def pO (K:aV)(H:Hp)(ts:z0o)(bo:z0h):Prop:=Paired (λt (e:Str×Nat)=>aZ K H t [.str e.1,.int (e.2:Int)]) ts bo
def pO.keep {ts:z0o}(h:pO K H ts bo)(k:∀a xs,aZ K H a xs->aZ K H' a xs):pO K H' ts bo:=Paired.ij h λt e z=>k _ _ z
structure C2 (K:aV)(aa:113)(H H5:Hp)(D d:Addr)(ts:z0o)(bo:z0h)(kvs:140):Prop where
 sm:aE H H5
 hD:H5 D=217
 hd:H5 d=184
 keys:kvs.map 56=(bo.map 56).map Sum.inr
 ev:pO K H5 ts bo
 emp:xI aa bo
def C2.same {aa:113}{D d:Addr}{ts:z0o}(h:C2 K aa H H5 D d ts bo kvs)(s:aE H5 H6):C2 K aa H H6 D d ts bo kvs :=
 ⟨h.sm.trans s,s _ _ h.hD,s _ _ h.hd,h.keys,h.ev.keep λ_ _ z=>s.tup z,h.emp⟩
def C2.mem {aa:113}{D d:Addr}{ts:z0o}{bo:z0h}(h:C2 K aa H H5 D d ts bo kvs)(z:Str):(ba kvs 145).isSome=true↔z∈bo.map 56:=by
 rw [eF,h.keys];exact cW
def C2.len {aa:113}{D d:Addr}{ts:z0o}{bo:z0h}{kvs:140}(h:C2 K aa H H5 D d ts bo kvs):ts.length=bo.length/\kvs.length=bo.length:=by
 refine⟨bT h.ev,?_⟩;have:=congrArg List.length h.keys;simpa using this
def C2.more {aa:113}{D d t:Addr}{ts:z0o}{bo:z0h}(h:C2 K aa H H5 D d ts bo kvs)(fD:H D=none)(fd:H d=none){k:Nat}{ru:aB}(e:aa[k]?=some ru)
  (n:ru.1∉bo.map 56)(p:∀x∈ru.2,x∈bo.map 56)(ht:upd H5 d (.dK (bP kvs (Sum.inr ru.1) (.bl true))) t=none) :
  C2 K aa H (upd (upd (upd H5 d (.dK (bP kvs (Sum.inr ru.1) (.bl true)))) t (.tup [.str ru.1,.int (k:Int)])) D (.lst (ts.map V.ref++[.ref t]))) D d (ts++[t]) (bo++[(ru.1,k)]) (bP kvs (Sum.inr ru.1) (.bl true)):=by
 have YS:D≠d:=λz=>by have:=h.hD;rw [z,h.hd] at this;cases this
 have nt:t≠d:=λz=>by rw [z,ae] at ht;cases ht
 have Lq:H5 t=none:=by rw [aj nt] at ht;exact ht
 have nDt:D≠t:=λz=>by rw [<-z,h.hD] at Lq;cases Lq
 have mJ:upd (upd H5 d (.dK (bP kvs (Sum.inr ru.1) (.bl true)))) t (.tup [.str ru.1,.int (k:Int)]) D=217:=by rw [aj nDt,aj YS];exact h.hD
 have kp:∀a xs,aZ K H5 a xs->aZ K (upd (upd (upd H5 d (.dK (bP kvs (Sum.inr ru.1) (.bl true)))) t (.tup [.str ru.1,.int (k:Int)])) D (.lst (ts.map V.ref++[.ref t]))) a xs:=λa xs z =>
  aT mJ ((ah ht _).tup (gY h.hd z))
 refine⟨λb o hb=>?_,by rw [ae,bA];rfl,by rw [aj YS.symm,aj nt.symm,ae],?_,gA (h.ev.keep kp) (aT mJ (aZ.of ae)),.snoc h.emp e n p⟩
 .have:=h.sm b o hb;rw [aj (λz=>by rw [z,fD] at hb;cases hb),aj (λz=>by rw [z,Lq] at this;cases this),aj (λz=>by rw [z,fd] at hb;cases hb)];exact this
 rw [iR (by rw [h.keys];exact λz=>n (cW.mp z)),h.keys,bA,bA];rfl
def oZ (K:aV):Sp:=λvs H Q _=>∃(R:Addr)(rs:z0o)(aa:113),vs=[.ref R]/\aF K H R 162/\bj K H rs aa/\aa.length<=1000/\250 /\
 ∀D ts bo H',H D=none->aE H H'->H' D=217->pO K H' ts bo->xI aa bo->zB aa aa.length bo->Q (.ref D) H'
def gJ:aJ ["rules","told","empty","many","number","rule"] ["rules"] (av rW):=182
def AW (F:iu K "found_empties" "found_empties" rW f fd)(T:Txt mg):bF P w K mg base fN 1 f fd ["rules"] (oZ K):=by
 refine F.ok gJ 186 195
 .obtain⟨R,rs,aa,rfl,_⟩:=h;rfl
 obtain⟨R,rs,aa,rfl,hR,cT,bN,h8,q⟩:=h;have hu:=fU hr;refine⟨_,ao (aD (i:=1) gJ.nd rfl 116 (bu ak))
  (ao (aD (i:=2) gJ.nd rfl (Or.inr rfl) fg)
  (ao (aD (i:=3) gJ.nd rfl 116 (yk rE au))
  (ao (iE cD (bf qi (pv 3) (aM cA rfl T.len h_ (af (pv 1) ak)) (bz _))
   (ao (aD (i:=3) gJ.nd rfl 116 (aM cA rfl T.len h_ (af (pv 1) ak)))
   (ar (b_ cD rfl (nV rfl T.IB (af (pv 0) ak)) (e_ rfl (aI (ay (i:=4) gJ.nd rfl 116) (aI (ay (i:=5) gJ.nd rfl 116) cy)))
    (ar (cR (PW.pt (gK (eK (dP hu (aO cz (pv 5) au 144) (pv 2)))
      (gO (fE (aM (pM rfl) rfl T.all boot_all (af (bV ["part"] [(2,"empty")] rfl (hV (aO cz (pv 5) au 144)) (bH rfl rfl) nofun rfl nofun
       (λ_ _ _ _ _=>ay (i:=0) (show (["part","empty"]:z0r).Nodup by decide +kernel) rfl 116) (λ_ _ _ _ _=>cJ) (λ_ _ _ _ _=>Gd (mf hu (pv 0) (pv 1)))) ak))))))
     (ao (gP hu (pv 2) (aO cz (pv 5) au 144) eO rfl)
     (ar (cv (dY fY gE gF bR (pv 1) (af (bJ (af (aO cz (pv 5) au 144) (af (pv 4) ak))) ak))))) bL))))))
  (ar (br (pv 1)))))),?_⟩
 nofun
 refine⟨oU,λD hD d hd=>?_⟩;have Sk:d≠D:=λz=>by rw [z,ae] at hd;cases hd
 have qD:H d=none:=by rw [aj Sk] at hd;exact hd
 have e0:C2 K aa H (upd (upd H D 128) d (.dK [])) D d [] [] []:=⟨(ah hD _).trans (ah hd _),by rw [aj Sk.symm,ae];rfl,ae,rfl,.nil,.nil⟩;generalize upd (upd H D 128) d (.dK [])=H0 at e0;refine⟨1,rfl,?_⟩;refine⟨λm σ H5=>∃(ts:z0o)(bo:z0h)(kvs:140) (many:Int)(y4 y5:Option V),σ=[bc R,bc D,bc d,some (.int many),y4,y5]/\C2 K aa H H5 D d ts bo kvs/\-1<=many/\many<=bo.length/\(many=bo.length->zB aa aa.length bo)/\(m:Int)=aa.length+1 - many,
  ⟨aa.length+2,[],[],[],-1,none,none,rfl,e0,∅,108,108,by simp;omega⟩,?_⟩
 rintro m σ H5 ⟨ts,bo,kvs,many,y4,y5,rfl,S,b1,b2,cl,em⟩;obtain⟨lt,lk⟩:=S.len;refine⟨_,rfl,_,rfl,D,_,rfl,.inl (aF.of S.hD),_,_,rfl,rfl,_,rfl,?_⟩;refine cC (λc=>?_) (λc=>?_)
 .have c':=dJ c;rw [aC,lt] at c';refine⟨λσ H5=>∃(xX:z0o)(il:z0h)(eX:140)(y4 y5:Option V),σ=[bc R,bc D,bc d,some (.int (bo.length:Int)),y4,y5]/\C2 K aa H H5 D d xX il eX/\bo.length<=il.length/\(il.length=bo.length->zB aa aa.length il),?_,?_⟩
  .rintro σ H6 ⟨xX,il,eX,y4,y5,rfl,S2,l2,c2⟩;have:=S2.emp.len;exact⟨(aa.length+1 - bo.length:Int).toNat,∅,xX,il,eX,_,_,_,rfl,S2,∅,∅,λz=>c2 ∅,∅⟩
  refine⟨_,rfl,D,_,rfl,.inl (aF.of S.hD),?_⟩;rw [aC,lt];refine⟨_,rfl,R,_,rfl,S.sm.seq hR,?_⟩;refine kC (xs:=143) (λi σ H6=>∃(xX:z0o)(il:z0h)(eX:140)(y4 y5:Option V),σ=[bc R,bc D,bc d,some (.int (bo.length:Int)),y4,y5]/\C2 K aa H H6 D d xX il eX/\bo.length<=il.length/\(il.length=bo.length->zB aa i il))
   ⟨ts,bo,kvs,_,_,rfl,S,aG _,λ_ ru mD=>by simp at mD⟩ ?_ ?_ ?_
  .rintro i σ H6 _ ⟨xX,il,eX,y4,y5,rfl,S2,_⟩;exact S2.sm.seq hR
  .rintro i x σ H6 t ex ⟨xX,il,eX,y4,y5,rfl,S2,l2,c2⟩ ht
   ac_nf0
   rw [bB] at ex;obtain⟨r,er,rfl⟩:=b9.mp ex;obtain⟨ru,e1,p,v1,v2⟩:=cT.get er;have Ly:=h8 ru (cf e1);have S3:=S2.same (ah ht (.tup [163,.ref r]));have OG:aZ K (upd H6 t (.tup [163,.ref r])) t [163,.ref r]:=aZ.of ae;generalize upd H6 t (.tup [163,.ref r])=H7 at S3 OG;obtain⟨Vg,Sq⟩:=S3.len;have el2:=S3.emp.len;have tk:aa.take (i+1)=aa.take i++[ru]:=by rw [cM,e1];rfl
   have gH:(¬((∀p∈ru.2,p∈il.map 56)/\ru.1∉il.map 56))->(il.length=bo.length->zB aa (i+1) il):=λhn z Cq yN hp=>by
    rw [tk] at yN;rcases cK.mp yN with h | h
    .exact c2 z Cq h hp
    rw [bD.mp h] at hp ⊢;exact Classical.byContradiction λhc=>hn ⟨hp,hc⟩
   refine⟨t,_,rfl,OG,rfl,_,_,rfl,_,_,rfl,rfl,?_⟩;refine⟨_,rfl,r,_,_,_,rfl,rfl,S3.sm.tup v1,rfl,?_⟩;refine⟨_,rfl,d,_,rfl,cq.k (k:=Sum.inr ru.1) S3.hd,_,rfl,?_⟩;refine cC (λc3=>?_) (λc3=>?_)
   .have nm:ru.1∉il.map 56:=λh=>by rw [(S3.mem _).mpr h] at c3;exact absurd c3 nofun
    refine⟨_,rfl,r,_,_,_,rfl,rfl,S3.sm.tup v1,rfl,p,rfl,⟨_,S3.sm.tup v2⟩,λD2 mJ=>vk rfl (S3.sm.tup v2) ∅ S3.hd mJ λH8 Ow Q7=>?_⟩;have S4:=S3.same Ow;refine⟨D2,_,rfl,aF.of Q7,_,rfl,?_⟩;refine cC (λc4=>?_) (λc4=>?_)
    .have al:∀x∈ru.2,x∈il.map 56:=λx hx=>(S4.mem x).mp (dW.mp c4 _ (i7 hx));refine⟨_,rfl,_,rfl,r,_,_,_,rfl,rfl,S4.sm.tup v1,rfl,d,_,rfl,pP.k (k:=Sum.inr ru.1) S4.hd (bx ∅),?_⟩;have v1':aZ K (upd H8 d (.dK (bP eX (Sum.inr ru.1) (.bl true)))) r [.str ru.1,.ref p]:=gY S4.hd (S4.sm.tup v1);have NL:upd H8 d (.dK (bP eX (Sum.inr ru.1) (.bl true))) D=some (.lst (xX.map V.ref)):=by rw [aj (λz=>by have:=S4.hD;rw [z,S4.hd] at this;cases this)];exact S4.hD
     refine⟨_,rfl,.inl ⟨rfl,_,aF.of NL⟩,_,rfl,r,_,_,_,rfl,rfl,v1',rfl,_,rfl,lX,λt2 iL=>?_⟩;refine⟨D,_,_,rfl,rfl,(by rw [aj (aq NL iL)];exact NL),210,?_⟩;have S5:=S4.more hD qD e1 nm al iL;exact⟨xX++[t2],il++[(ru.1,i)],_,_,_,rfl,S5,by rw [bO];omega,λz=>by rw [bO] at z;simp at z;omega⟩
    refine⟨xX,il,eX,_,_,rfl,S4,l2,gH λ⟨ha,_⟩=>c4 (dW.mpr λb hb=>?_)⟩;obtain⟨x,hx,rfl⟩:=cQ.mp hb;exact(S4.mem x).mpr (ha x hx)
   refine⟨xX,il,eX,_,_,rfl,S3,l2,gH λ⟨_,hn⟩=>c3 ?_⟩;cases hq:(ba eX (Sum.inr ru.1)).isSome with
   | true=>exact absurd ((S3.mem _).mp hq) hn
   | false=>rfl
  rintro σ H6 ⟨xX,il,eX,y4,y5,rfl,S2,l2,c2⟩;rw [aC,bT cT] at c2;exact⟨xX,il,eX,_,_,rfl,S2,l2,c2⟩
 have c':=of_decide_eq_false (pS.mpr c);rw [aC,lt] at c';exact⟨_,rfl,q D ts bo H5 hD S.sm S.hD S.ev S.emp (cl ∅)⟩
end
abbrev Ay:Stmt:=top 54
section
def Ci (K:aV):Sp:=λvs H Q _=>∃(R:Addr)(rs:z0o)(aa:113),vs=[.ref R]/\aF K H R 162/\bj K H rs aa/\rs.length<=100000/\(∀ru∈aa,∀p∈ru.2,p.length<=sizeLine/\again p=false) /\
 ∀E' H',aE H H'->H' E'=some 235->H E'=none->Q (.ref E') H'
def kP:aJ ["rules","every","added","at","part"] ["rules"] (av Ay):=182
def GB (F:iu K "with_added_rules" "with_added_rules" Ay f fd)(T:Txt mg)(GA:aL P w K mg base 1 "comes_again" ["part"] wq):bF P w K mg base fN 2 f fd ["rules"] (Ci K):=by
 refine F.ok kP 186 195
 .obtain⟨R,rs,aa,rfl,_⟩:=h;rfl
 obtain⟨R,rs,aa,rfl,hR,cT,SA,hp,q⟩:=h;have hu:=fU hr;refine⟨_,ao (aD (i:=1) kP.nd rfl 116 (bh gp rfl T.lst gq (af (pv 0) ak)))
  (ao (aD (i:=2) kP.nd rfl 116 fg)
  (ao (aD (i:=3) kP.nd rfl 116 au)
  (ao (iE cD (bf qi (pv 3) (aM cA rfl T.len h_ (af (pv 1) ak)) (bz _))
   (ao (b_ cD rfl (hV (aO cz (aO aQ (pv 1) (pv 3) 144) au 144)) (ay (i:=4) kP.nd rfl 116)
    (ar (cR (PW.pt (gK (fE (bU GA hr rfl (af (pv 4) ak))) (gO (eK (dP hu (pv 4) (pv 2)))))) (ao gh (ar gh)) bL)))
   (ar (FZ (i:=3) kP.nd rfl 116 au G6))))
  (ar (br (pv 1)))))),?_⟩
 dsimp only [pK];have ll:=bT cT;refine⟨_,rfl,R,_,rfl,.inl hR,λE0 ZA d hd=>?_⟩;have Sk:d≠E0:=λz=>by rw [z,ae] at hd;cases hd
 have s0:aE H (upd (upd H E0 235) d (.dK [])):=(ah ZA _).trans (ah hd _);have e0:upd (upd H E0 235) d (.dK []) E0=some 235:=by rw [aj Sk.symm,ae]
 generalize upd (upd H E0 235) d (.dK [])=H0 at s0 e0;refine⟨λm σ H5=>∃(a:Nat)(y:Option V),σ=[bc R,bc E0,bc d,some (.int (a:Int)),y]/\aE H0 H5/\a<=rs.length/\m=rs.length - a,⟨rs.length,0,none,rfl,aE.refl _,d6 _,rfl⟩,?_⟩;rintro m σ H5 ⟨a,y,rfl,sm,ha,rfl⟩;have e5:=sm _ _ e0;refine⟨_,rfl,_,rfl,E0,_,rfl,.inl (aF.of e5),_,_,rfl,rfl,_,rfl,?_⟩;refine cC (λc=>?_) (λc=>?_)
 .have c':=dJ c;rw [aC] at c';have la:a < rs.length:=by omega
  obtain⟨r,er⟩:∃r,rs[a]?=some r:=⟨rs[a],cN la⟩;obtain⟨ru,e1,p,v1,v2⟩:=cT.get er;have t1:=sm.tup (s0.tup v1);have t2:=sm.tup (s0.tup v2);refine⟨λσ H6=>∃y,σ=[bc R,bc E0,bc d,some (.int ((a+1:Nat):Int)),y]/\aE H0 H6,?_,?_⟩
  .rintro σ H6 ⟨y,rfl,s6⟩;exact⟨rs.length - (a+1),∅,a+1,y,rfl,s6,∅,rfl⟩
  refine⟨_,rfl,_,rfl,E0,_,_,.ref r,rfl,rfl,aF.of e5,cS (by rw [bB,er];rfl),r,_,_,_,rfl,rfl,t1,rfl,p,rfl,⟨_,t2⟩,xq (xs:=ru.2.map V.str) (λi σ H6=>(∃y,σ=[bc R,bc E0,bc d,some (.int (a:Int)),y])/\aE H5 H6) ⟨⟨y,rfl⟩,aE.refl _⟩ ?_ ?_ ?_⟩
  .rintro i σ H6 _ ⟨_,s6⟩;exact s6.tup t2
  .rintro i x σ H6 ex ⟨⟨y,rfl⟩,s6⟩;rw [bB] at ex;obtain⟨z,ez,rfl⟩:=b9.mp ex;obtain⟨z1,z2⟩:=hp ru (cf e1) z (cf ez);refine goN ?_;refine⟨_,rfl,z,rfl,z1,?_⟩;rw [z2];refine⟨_,rfl,?_⟩;refine gy ?_;refine gy ?_;exact⟨159,s6⟩
  rintro σ H6 ⟨⟨y,rfl⟩,s6⟩;exact⟨_,rfl,_,_,rfl,rfl,⟨_,rfl,sm.trans s6⟩⟩
 exact⟨_,rfl,q E0 H5 (s0.trans sm) e5 ZA⟩
end
end eZ
namespace M11
open PySem L2
def DZ (b:Str->Bool):z0r->Nat
 | []=>0
 | z::r=>if b z=true then DZ b r+1 else 1
theorem CJ (b:Str->Bool):∀zs:z0r,(∀z∈zs,b z=true)->DZ b zs=zs.length
 | [],_=>rfl
 | z::r,h=>by
  unfold DZ;rw [aA (h z cx),CJ b r λx hx=>h x (cw _ hx)];rfl
theorem Hu (b:Str->Bool):∀(zs:z0r) (i:Nat)(z:Str),(∀x∈zs.take i,b x=true)->zs[i]?=some z->¬b z=true->DZ b zs=i+1
 | y::r,0,z,_,e,n=>by
  cases e;unfold DZ;rw [az n]
 | y::r,i+1,z,h,e,n=>by
  unfold DZ;rw [aA (h y (by rw [List.take_succ_cons];exact cx)),Hu b r i z (λx hx=>h x (by rw [List.take_succ_cons];exact cw _ hx)) e n]
theorem Ht (b:Str->Bool):∀zs:z0r,DZ b zs<=zs.length
 | []=>aG _
 | z::r=>by
  have:=Ht b r;unfold DZ;rw [c_]
  split <;> omega
def cnt (n:Nat):115:=(List.range n).map λk:Nat=>V.int (k:Int)
end M11
namespace eZ
open PySem L2 M11
section
def B9 (K:aV):Sp:=λvs H Q _=>∃(R:Addr)(rs:z0o)(aa:113),vs=[.ref R]/\aF K H R 162/\bj K H rs aa/\aa.length<=1000/\250/\(aa.flatMap (·.2)).Nodup /\
 ∀H',aE H H'->Q .dq H'
def nF:aJ ["strengths","met","way","words","word"] ["strengths"] (av Am):=182
def Gm (F:iu K "refuse_twice" "refuse_twice" Am f fd)(T:Txt mg):bF P w K mg base fN 1 f fd ["strengths"] (B9 K):=by
 refine F.ok nF 186 195
 .obtain⟨R,rs,aa,rfl,_⟩:=h;rfl
 obtain⟨R,rs,aa,rfl,hR,cT,bN,h8,Ls,q⟩:=h;have hu:=fU hr;refine⟨_,ao (aD (i:=1) nF.nd rfl 116 fg)
  (ar (b_ cD rfl (bq (pv 0)) (e_ rfl (aI (ay (i:=2) nF.nd rfl 116) (aI (ay (i:=3) nF.nd rfl 116) cy)))
   (ar (b_ cD rfl (hV (pv 3)) (ay (i:=4) nF.nd rfl 116)
    (ao (cR (eK (mf hu (pv 4) (pv 1))) (ar gh) bL) (ar (gP hu (pv 1) (pv 4) eO rfl))))))),?_⟩
 nofun
 intro e he;have Cj:∀o,aE H (upd H e o):=λo=>ah he o;have ll:=bT cT
 let BN:BO:=λi σ H5=>∃(kvs:140)(y3 y4 y5:Option V),σ=[bc R,bc e,y3,y4,y5]/\H5=upd H e (.dK kvs) /\
  kvs.map 56=((aa.take i).flatMap (·.2)).map Sum.inr
 refine⟨_,rfl,R,rfl,⟨_,(Cj _).seq hR⟩,du (xs:=143) BN ⟨[],none,none,none,rfl,rfl,rfl⟩ ?_ ?_ ?_⟩
 .rintro i σ H5 _ ⟨kvs,y3,y4,y5,rfl,rfl,_⟩;exact(Cj _).seq hR
 .rintro i x σ H5 ex ⟨kvs,y3,y4,y5,rfl,rfl,hk⟩
  ac_nf0
  rw [bB] at ex;obtain⟨r,er,rfl⟩:=b9.mp ex;obtain⟨ru,e1,p,v1,v2⟩:=cT.get er;have li:=(bM.mp e1).1;have Ly:=h8 ru (cf e1);have eT:(aa.take (i+1)).flatMap (·.2)=(aa.take i).flatMap (·.2)++ru.2:=by
   rw [cM,e1,List.flatMap_append];simp
  have lA:((aa.take i).flatMap (·.2)).length<=8 * i:=jl (aa.take i) i (by rw [d7];omega) λru mD=>h8 ru (vR mD);have GO:((aa.take i).flatMap (·.2)++ru.2).Nodup:=by
   have e2:aa.flatMap (·.2)=((aa.take i).flatMap (·.2)++ru.2)++(aa.drop (i+1)).flatMap (·.2):=by
    rw [<-eT,<-List.flatMap_append,List.take_append_drop]
   rw [e2] at Ls;exact(nj.mp Ls).1
  refine⟨r,_,rfl,(Cj _).tup v1,rfl,_,_,rfl,_,_,rfl,rfl,?_⟩
  let KG:BO:=λj σ H6=>∃(kvs:140)(y5:Option V),σ=[bc R,bc e,some (.str ru.1),bc p,y5]/\H6=upd H e (.dK kvs) /\
   kvs.map 56=((aa.take i).flatMap (·.2)++ru.2.take j).map Sum.inr
  refine⟨_,rfl,p,rfl,⟨_,(Cj _).tup v2⟩,xq (xs:=ru.2.map V.str) KG ⟨kvs,_,rfl,rfl,by rw [List.take_zero,eE];exact hk⟩ ?_ ?_ ?_⟩
  .rintro j σ H6 _ ⟨kvs,y5,rfl,rfl,_⟩;exact(Cj _).tup v2
  .rintro j x σ H6 Hy ⟨kvs,y5,rfl,rfl,DS⟩
   ac_nf0
   rw [bB] at Hy;obtain⟨z,ez,rfl⟩:=b9.mp Hy;have lj:=(bM.mp ez).1;have eS:ru.2.take (j+1)=ru.2.take j++[z]:=by rw [cM,ez];rfl
   have lk:kvs.length<=8 * i+8:=by
    have h1:=congrArg List.length DS;rw [aC,aC,bO,d7] at h1;omega
   have nz:z∉(aa.take i).flatMap (·.2)++ru.2.take j:=λhz=>by
    have e3:(aa.take i).flatMap (·.2)++ru.2=((aa.take i).flatMap (·.2)++ru.2.take j)++([z]++ru.2.drop (j+1)):=by
     rw [iP,<-iP (ru.2.take j),<-eS,List.take_append_drop]
    rw [e3] at GO;exact(nj.mp GO).2.2 z hz z 125 rfl
   have nk:¬(127:aR)∈kvs.map 56:=by rw [DS];exact λh=>nz (cW.mp h)
   refine⟨_,rfl,_,rfl,e,_,rfl,cq.k (k:=127) ae,_,rfl,?_⟩;refine cC (λc=>absurd ((eF kvs _).mp c) nk) (λ_=>?_);refine⟨_,rfl,_,rfl,e,_,rfl,pP.k (k:=127) ae (bx ∅),?_⟩;refine⟨bP kvs 145 (.bl true),_,rfl,by rw [ie],?_⟩;rw [iR nk,DS,eS,<-iP];simp only [bA,bC,jZ]
  rintro σ H6 ⟨kvs,y5,rfl,rfl,DS⟩;rw [aC,dI,<-eT] at DS;exact⟨kvs,_,_,_,rfl,rfl,DS⟩
 rintro σ H5 ⟨kvs,y3,y4,y5,rfl,rfl,hk⟩;exact q _ (Cj _)
def x_ (K:aV):Sp:=λvs H Q _=>∃(p d:Addr) (zs:z0r)(kvs:140),vs=[.ref p,.ref d]/\aZ K H p (zs.map V.str)/\zs.length<=1000/\H d=184 /\
 ∀D H',H D=none->aE H H'->H' D=some (.lst (cnt (DZ (λz=>(ba kvs 145).isSome) zs)))->Q (.ref D) H'
def nH:aJ ["parts","empty","places","place","part"] ["parts","empty"] (av wF):=182
def Dv (F:iu K "first_places" "first_places" wF f fd)(T:Txt mg):bF P w K mg base fN 1 f fd ["parts","empty"] (x_ K):=by
 refine F.ok nH 186 195
 .obtain⟨p,d,zs,kvs,rfl,_⟩:=h;rfl
 obtain⟨p,d,zs,kvs,rfl,hp,hz,hd,q⟩:=h;have hu:=fU hr;refine⟨_,ao (aD (i:=2) nH.nd rfl 116 (bu ak))
  (ao (b_ cD rfl (nU rfl T.IB (af (pv 0) ak)) (e_ rfl (aI (ay (i:=3) nH.nd rfl 116) (aI (ay (i:=4) nH.nd rfl 116) cy)))
   (ao (cv (dY fY gE gF bR (pv 2) (af (pv 3) ak)))
   (ar (cR (eK (dP hu (pv 4) (pv 1))) (ar FY) bL))))
  (ar (br (pv 2)))),?_⟩
 nofun
 refine⟨oU,λD hD=>?_⟩;have up1:∀n,cnt n++[V.int (n:Int)]=cnt (n+1):=λn=>by
  unfold cnt;rw [List.range_succ,bA];rfl
 refine⟨_,rfl,p,_,rfl,(ah hD _).tup hp,?_⟩
 let X4:BO:=λi σ H5=>∃(y3 y4:Option V),σ=[bc p,bc d,bc D,y3,y4]/\aE H H5/\H5 D=some (.lst (cnt i))/\∀z∈zs.take i,(ba kvs 145).isSome=true
 refine pH (xs:=zs.map V.str) X4
  ⟨none,none,rfl,ah hD _,ae,108⟩ ?_ ?_ ?_
 .rintro i σ H5 _ ⟨y3,y4,rfl,sm,_⟩;exact sm.tup hp
 .rintro i x σ H5 t ex ⟨y3,y4,rfl,sm,Q8,qE⟩ ht
  ac_nf0
  rw [bB] at ex;obtain⟨z,ez,rfl⟩:=b9.mp ex;have li:=(bM.mp ez).1;have uc:=sm.trans (ah ht (.tup [163,.str z]));have mJ:upd H5 t (.tup [163,.str z]) D=some (.lst (cnt i)):=by rw [aj (aq Q8 ht)];exact Q8
  have hv:aZ K (upd H5 t (.tup [163,.str z])) t [163,.str z]:=aZ.of ae;generalize upd H5 t (.tup [163,.str z])=H6 at uc mJ hv;have Ox:aE H (upd H6 D (.lst (cnt i++[V.int (i:Int)]))):=λb o hb=>by
   rw [254];exact uc b o hb
  refine⟨t,_,rfl,hv,rfl,_,_,rfl,_,_,rfl,rfl,?_⟩;refine⟨_,rfl,.inl ⟨rfl,_,aF.of mJ⟩,_,rfl,D,_,_,rfl,rfl,mJ,bx (by unfold cnt;rw [aC,oP];omega),?_⟩;refine⟨_,rfl,_,rfl,d,_,rfl,cq.k (k:=127) (Ox _ _ hd),_,rfl,?_⟩;refine cC (λc=>?_) (λc=>?_)
  .refine⟨_,rfl,q D _ hD Ox ?_⟩;rw [ae,up1,Hu _ zs i z qE ez (λh=>by rw [h] at c;exact absurd c nofun)]
  refine⟨_,_,rfl,Ox,by rw [ae,up1],λx hx=>?_⟩;rw [cM,ez] at hx;rcases cK.mp hx with h | h
  .exact qE x h
  rw [Option.toList_some,bD] at h;subst h;cases hq:(ba kvs (Sum.inr x)).isSome with
  | true=>rfl
  | false=>exact absurd (by rw [hq];rfl) c
 rintro σ H5 ⟨y3,y4,rfl,sm,Q8,qE⟩;rw [aC] at Q8 qE;rw [dI] at qE;exact⟨_,rfl,q D _ hD sm (by rw [CJ _ zs qE];exact Q8)⟩
end
end eZ
namespace L2
open PySem
def y_ {K:aV}{H:Hp}{p D:Addr}{zs:z0r}{σ:St}{v:V}{x:Str}{Qp:Hp->Prop}(hp:aZ K H p (zs.map V.str))(hz:zs.length<=1000)(hD:H D=none)
  (q:∀ts H2,aE H H2->H2 D=217->Paired (λt h=>aZ K H2 t [.str h,v]) ts zs->Qp H2) :
  ∃W:Nat->Nat->115->148,(∃m,W 0 m [] (eI [x] [] σ) (upd H D 128)) /\
 ∀i m ys σ' H,W i m ys σ' H->((tV K p).stop i H/\Qp H)\/((tV K p).go i H/\∃m',m' < m/\∀x H',(tV K p).nu i H x H'->eA 0 x σ' H' λσ2 H2=>jc σ2 H2 λb H3 =>
  if b=true then ug (fZ (gw 0) (fZ (tC v) qw)) σ2 H3 248 else W (i+1) m' ys σ2 H3):=by
 refine gN (xs:=zs.map V.str) (λi ys σ2 H2=>∃ts:z0o,ys=ts.map V.ref/\ts.length=i/\Paired (λt h=>aZ K H2 t [.str h,v]) ts (zs.take i)/\(∃y0,σ2=[y0])/\aE H H2/\H2 D=some (.lst ys))
  ⟨[],rfl,rfl,.nil,⟨none,rfl⟩,ah hD _,ae⟩ (λi ys σ2 H2 _ h=>?_) (λi x ys σ2 H2 ex h=>?_) (λys σ2 H2 h=>?_)
 .obtain⟨_,_,_,_,_,sm,_⟩:=h;exact sm.tup hp
 .obtain⟨ts,rfl,ht,xi,⟨y0,rfl⟩,sm,hd⟩:=h;rw [bB] at ex;obtain⟨z,ez,rfl⟩:=b9.mp ex;have li:=(bM.mp ez).1;refine goN (zF ?_);refine⟨_,rfl,lX,λt iL=>⟨?_,210,ts++[t],?_,?_,?_,159,?_,ae⟩⟩
  .rw [aj (aq hd iL)];exact hd
  .rw [bA];rfl
  .rw [bO,ht];rfl
  .rw [cM,ez];have ir:upd H2 t (.tup [.str z,v]) D=217:=by rw [aj (aq hd iL)];exact hd
   exact gA (Paired.ij xi λt' h' z=>aT ir ((ah iL _).tup z)) (aT ir (aZ.of ae))
  intro b o hb;rw [254];exact ah iL _ _ _ (sm b o hb)
 obtain⟨ts,rfl,ht,xi,_,sm,hd⟩:=h;rw [aC,dI] at xi;exact q ts H2 sm hd xi
end L2
namespace M11
open PySem L2
def iH (a:z0r)(h x:Str):x∈gu a h↔x∈a\/x=h:=by
 unfold gu;split
 .constructor
  .exact .inl
  rintro(z | rfl) <;> assumption
 simp
def CY {a:z0r}(h:Str)(n:a.Nodup):(gu a h).Nodup:=by
 unfold gu;split
 .exact n
 rename_i q
 refine nj.mpr ⟨n,108,λx hx y hy=>?_⟩;rw [bD.mp hy];exact λz=>q (z ▸ hx)
def CZ (a:z0r)(h:Str):a.length<=(gu a h).length:=by
 unfold gu;split <;> simp
def Kx {a:z0r}{h:Str}(e:(gu a h).length=a.length):gu a h=a:=by
 unfold gu at e ⊢;split
 .rfl
 rename_i q
 rw [az q,bO] at e;simp at e
theorem gT:∀(hs bG:z0r)(x:Str),x∈qU bG hs↔x∈bG\/x∈hs
 | [],bG,x=>by simp [qU]
 | h::r,bG,x=>by
  show x∈qU (gu bG h) r↔_;rw [gT r,iH,aS,or_assoc]
theorem pJ:∀(hs:z0r){bG:z0r},bG.Nodup->(qU bG hs).Nodup
 | [],_,n=>n
 | h::r,_,n=>pJ r (CY h n)
theorem By:∀(hs bG:z0r),bG.length<=(qU bG hs).length
 | [],_=>aG _
 | h::r,bG=>cI (CZ bG h) (By r _)
theorem HG:∀(hs bG:z0r),(qU bG hs).length=bG.length->qU bG hs=bG
 | [],_,_=>rfl
 | h::r,bG,e=>by
  have h1:=CZ bG h;have h2:=By r (gu bG h);have e':(qU (gu bG h) r).length=bG.length:=e;show qU (gu bG h) r=bG;rw [HG r _ ∅];exact Kx ∅
inductive Oh (aa:113)(s:Str):Str->Prop
 | start:Oh aa s s
 | step {ru:aB}{x:Str}:Oh aa s ru.1->ru∈aa->x∈ru.2->Oh aa s x
def ED (aa:113) (n:Nat) (ms:z0r):Prop:=∀ru∈aa.take n,ru.1∈ms->∀x∈ru.2,x∈ms
def Oh.among {aa:113}{s x:Str}(h:Oh aa s x):x∈s::aa.flatMap (·.2):=by
 cases h with
 | start=>exact cx
 | step _ h1 h2=>exact cw _ (oN.mpr ⟨_,h1,h2⟩)
end M11
namespace eZ
open PySem L2 M11
section
def K0 (K:aV):Sp:=λvs H Q _=>∃(R:Addr)(rs:z0o)(aa:113)(jx:aB),vs=[.ref R]/\aF K H R 162/\bj K H rs aa/\aa[0]?=some jx/\aa.length<=1000/\250 /\
 ∀d kvs ms H',H d=none->aE H H'->H' d=184->kvs.map 56=ms.map Sum.inr->jx.1∈ms->(∀x∈ms,Oh aa jx.1 x)->ED aa aa.length ms->Q (.ref d) H'
def uR:aJ ["rules","met","many","head","parts"] ["rules"] (av MC):=182
structure O1 (K:aV)(aa:113)(s0:Str)(H H5:Hp)(d:Addr) (ms:z0r)(kvs:140):Prop where
 sm:aE H H5
 hd:H5 d=184
 keys:kvs.map 56=ms.map Sum.inr
 nd:ms.Nodup
 st:s0∈ms
 Sd:∀x∈ms,Oh aa s0 x
def O1.len {aa:113}{d:Addr}{ms:z0r}{kvs:140}(h:O1 K aa s0 H H5 d ms kvs)(hl:aa.length<=1000)(h8:∀ru∈aa,ru.2.length<=8):kvs.length=ms.length/\ms.length<=8001:=by
 refine⟨?_,?_⟩
 .have:=congrArg List.length h.keys;simpa using this
 have h1:=gL ms _ h.nd λx hx=>(h.Sd x hx).among;have h2:=jl aa 1000 hl h8;rw [c_] at h1;omega
def M4 (F:iu K "names_met" "names_met" MC f fd)(T:Txt mg):bF P w K mg base fN 1 f fd ["rules"] (K0 K):=by
 refine F.ok uR 186 195
 .obtain⟨R,rs,aa,jx,rfl,_⟩:=h;rfl
 obtain⟨R,rs,aa,jx,rfl,hR,cT,yO,bN,h8,q⟩:=h;have hu:=fU hr;refine⟨_,ao (aD (i:=1) uR.nd rfl 116 (Jz (F5 (aO cz (aO aQ (pv 0) au 144) au 144) eO Jq) rfl rfl 125 (show 1<=15 by decide)))
  (ao (aD (i:=2) uR.nd rfl 116 au)
  (ao (iE cD (bf qi (pv 2) (aM vm rfl T.len h_ (af (pv 1) ak)) (bz _))
   (ao (aD (i:=2) uR.nd rfl 116 (aM vm rfl T.len h_ (af (pv 1) ak)))
   (ar (b_ cD rfl (bq (pv 0)) (e_ rfl (aI (ay (i:=3) uR.nd rfl 116) (aI (ay (i:=4) uR.nd rfl 116) cy)))
    (ar (cR (eK (mf hu (pv 3) (pv 1)))
     (ar (cv (Jy rfl (pv 1) (bV ["part"] [] rfl (hV (pv 4)) (bH rfl rfl) nofun rfl nofun
       (λ_ _ _ _ _=>ay (i:=0) (show (["part"]:z0r).Nodup by decide +kernel) rfl 116) (λ_ _ _ _ _=>cJ) (λ_ _ _ _ _=>bJ (af (pv 0) (af eO ak)))) ⟨rfl,rfl,rfl,rfl⟩))) bL))))))
  (ar (br (pv 1))))),?_⟩
 nofun
 intro d hd;have ll:=bT cT;have l0:=(bM.mp yO).1;obtain⟨r0,SX⟩:∃r,rs[0]?=some r:=⟨rs[0]'∅,cN ∅⟩;obtain⟨aaa,e0,p0,w1,w2⟩:=cT.get SX;rw [yO] at e0;cases e0;have Pz:=ah hd (.dK []);refine⟨_,rfl,R,_,_,.ref r0,rfl,rfl,Pz.seq hR,?_,r0,_,_,_,rfl,rfl,Pz.tup w1,rfl,?_⟩
 .have e7:162[0]?=some (.ref r0):=by rw [bB,SX];rfl
  exact cS (j:=0) e7
 refine⟨ae,[((Sum.inr jx.1:aR),.bl true)],rfl,(by show 1<=15;decide),?_⟩;have S0:O1 K aa jx.1 H (upd (upd H d (.dK [])) d (.dK (mj [] [((Sum.inr jx.1:aR),.bl true)]))) d [jx.1] [((Sum.inr jx.1:aR),.bl true)]:=by
  rw [ie];exact⟨ah hd _,ae,rfl,108,108,λx hx=>by rw [bD.mp hx];exact .start⟩
 generalize upd (upd H d (.dK [])) d (.dK (mj [] [((Sum.inr jx.1:aR),.bl true)]))=H0 at S0;refine⟨λm σ H5=>∃(ms:z0r)(kvs:140) (many:Int)(y3 y4:Option V),σ=[bc R,bc d,some (.int many),y3,y4]/\O1 K aa jx.1 H H5 d ms kvs/\0<=many/\many<=ms.length/\(many=ms.length->ED aa aa.length ms)/\(m:Int)=8002 - many,
  ⟨8002,[jx.1],_,0,none,none,rfl,S0,∅,108,108,∅⟩,?_⟩
 rintro m σ H5 ⟨ms,kvs,many,y3,y4,rfl,S,b1,b2,cl,em⟩;obtain⟨lk,lm⟩:=S.len bN h8;refine⟨_,rfl,_,rfl,d,_,rfl,S.hd,_,_,rfl,rfl,_,rfl,?_⟩;refine cC (λc=>?_) (λc=>?_)
 .have c':=dJ c;rw [lk] at c';refine⟨λσ H5=>∃(qP:z0r)(eX:140)(y3 y4:Option V),σ=[bc R,bc d,some (.int (ms.length:Int)),y3,y4]/\O1 K aa jx.1 H H5 d qP eX/\ms.length<=qP.length/\(qP.length=ms.length->ED aa aa.length qP),?_,?_⟩
  .rintro σ H6 ⟨qP,eX,y3,y4,rfl,S2,l2,c2⟩;exact⟨(8002 - ms.length:Int).toNat,∅,qP,eX,_,_,_,rfl,S2,∅,∅,λz=>c2 ∅,∅⟩
  refine⟨_,rfl,d,_,rfl,S.hd,?_⟩;rw [lk];refine⟨_,rfl,R,rfl,⟨_,S.sm.seq hR⟩,?_⟩;refine du (xs:=143) (λi σ H6=>∃(qP:z0r)(eX:140)(y3 y4:Option V),σ=[bc R,bc d,some (.int (ms.length:Int)),y3,y4]/\O1 K aa jx.1 H H6 d qP eX/\ms.length<=qP.length/\(qP.length=ms.length->ED aa i qP))
   ⟨ms,kvs,_,_,rfl,S,aG _,λ_ ru mD=>by simp at mD⟩ ?_ ?_ ?_
  .rintro i σ H6 _ ⟨qP,eX,y3,y4,rfl,S2,_⟩;exact S2.sm.seq hR
  .rintro i x σ H6 ex ⟨qP,eX,y3,y4,rfl,S2,l2,c2⟩
   ac_nf0
   rw [bB] at ex;obtain⟨r,er,rfl⟩:=b9.mp ex;obtain⟨ru,e1,p,v1,v2⟩:=cT.get er;have Ly:=h8 ru (cf e1);have tk:aa.take (i+1)=aa.take i++[ru]:=by rw [cM,e1];rfl
   obtain⟨Sq,lm2⟩:=S2.len bN h8;have mem:(ba eX (Sum.inr ru.1)).isSome=true↔ru.1∈qP:=by rw [eF,S2.keys];exact cW
   refine⟨r,_,rfl,S2.sm.tup v1,rfl,_,_,rfl,_,_,rfl,rfl,?_⟩;refine⟨_,rfl,_,rfl,d,_,rfl,cq.k (k:=Sum.inr ru.1) S2.hd,_,rfl,?_⟩;refine cC (λc3=>?_) (λc3=>?_)
   .have im:=mem.mp c3;refine⟨_,rfl,d,rfl,.inl ⟨_,.inl S2.hd⟩,_,rfl,p,rfl,⟨_,S2.sm.tup v2⟩,λD2 mJ=>y_ (S2.sm.tup v2) ∅ mJ λts H8 Ow Q7 Zc=>?_⟩;have kp:Paired (λt (kv:aR×V)=>aZ K H8 t [kV kv.1,kv.2]) ts (ru.2.map λh=>((Sum.inr h:aR),V.bl true)):=cO Zc λ_ _ z=>z;refine⟨D2,ts,eX,_,rfl,Ow _ _ S2.hd,Q7,kp,fits (by rw [aC];omega),?_⟩;have aam:=By ru.2 qP;refine⟨qU qP ru.2,cU (ru.2.map λh=>((Sum.inr h:aR),V.bl true)) eX,_,_,rfl,⟨λb o hb=>?_,ae,nZ ru.2 eX qP S2.keys,pJ ru.2 S2.nd,(gT ru.2 qP _).mpr (.inl S2.st),λx hx=>?_⟩,∅,λz Cq yN hh=>?_⟩
    .rw [aj (λz=>by rw [z,hd] at hb;cases hb)];exact Ow _ _ (S2.sm b o hb)
    .rcases (gT ru.2 qP x).mp hx with h | h
     .exact S2.Sd x h
     exact .step (S2.Sd _ im) (cf e1) h
    have e9:=HG ru.2 qP ∅;rw [e9] at hh ⊢;rw [tk] at yN;rcases cK.mp yN with h | h
    .exact c2 ∅ Cq h hh
    rw [bD.mp h];intro x hx;rw [<-e9];exact(gT ru.2 qP x).mpr (.inr hx)
   refine⟨qP,eX,_,_,rfl,S2,l2,λz Cq yN hh=>?_⟩;rw [tk] at yN;rcases cK.mp yN with h | h
   .exact c2 z Cq h hh
   rw [bD.mp h] at hh;exact absurd (mem.mpr hh) c3
  rintro σ H6 ⟨qP,eX,y3,y4,rfl,S2,l2,c2⟩;rw [aC,ll] at c2;exact⟨qP,eX,_,_,rfl,S2,l2,c2⟩
 have c':=of_decide_eq_false (pS.mpr c);rw [lk] at c';exact⟨_,rfl,q d kvs ms H5 hd S.sm S.hd S.keys S.st S.Sd (cl ∅)⟩
end
end eZ
namespace M11
open PySem L2
abbrev G:=Str->z0n
def bQ (g:G)(h:Str) (n:Int):G:=λz=>if z=h then some n else g z
def aH (g:G)(ru:aB):Int:=1+(ru.2.map 198).sum
def iW (g:G)(ru:aB):Bool:=ru.2.all λp=>(g p).isSome
def bW (bt:Int->Int->Bool)(g:G)(ru:aB):Bool:=iW g ru && (!(g ru.1).isSome || bt (aH g ru) ((g ru.1).getD 0))
def sstep (bt:Int->Int->Bool)(a:G×Bool)(ru:aB):G×Bool:=if bW bt a.1 ru=true then (bQ a.1 ru.1 (aH a.1 ru),true) else a
def uh (bt:Int->Int->Bool)(aa:113)(g:G):G×Bool:=aa.foldl (sstep bt) (g,false)
inductive bE (bt:Int->Int->Bool)(aa:113):G->G->Prop
 | refl {g:G}:bE bt aa g g
 | step {g g1:G}{ru:aB}:bE bt aa g g1->ru∈aa->bW bt g1 ru=true->bE bt aa g (bQ g1 ru.1 (aH g1 ru))
def bS (bt:Int->Int->Bool)(aa:113)(g:G):Prop:=∀ru∈aa,bW bt g ru=false
def mY (bt:Int->Int->Bool)(aa:113):Nat->G->Prop
 | 0,g=>(uh bt aa g).2=false
 | n+1,g=>(uh bt aa g).2=false\/mY bt aa n (uh bt aa g).1
def bE.trans {aa:113}{g g1 g2:G}(h:bE bt aa g g1)(k:bE bt aa g1 g2):bE bt aa g g2:=by
 induction k with
 | refl=>exact h
 | step _ a b ih=>exact .step ih a b
theorem mO (bt:Int->Int->Bool)(aa:113):∀(l:113)(a:G×Bool),(∀ru∈l,ru∈aa)->bE bt aa a.1 (l.foldl (sstep bt) a).1
 | [],a,_=>.refl
 | ru::l,a,h=>by
  have ih:=mO bt aa l (sstep bt a ru) λx hx=>h x (cw _ hx);refine bE.trans ?_ ih;unfold sstep;by_cases c:bW bt a.1 ru=true
  .rw [aA c];exact .step .refl (h ru cx) c
  rw [az c];exact .refl
theorem vc (bt:Int->Int->Bool):∀(l:113)(a:G×Bool),a.2=true->(l.foldl (sstep bt) a).2=true
 | [],a,h=>h
 | ru::l,a,h=>by
  refine vc bt l (sstep bt a ru) ?_;unfold sstep
  split
  .rfl
  exact h
theorem jD (bt:Int->Int->Bool):∀(l:113)(a:G×Bool),(l.foldl (sstep bt) a).2=false->(l.foldl (sstep bt) a).1=a.1/\∀ru∈l,bW bt a.1 ru=false
 | [],a,_=>⟨rfl,λ_ h=>nomatch h⟩
 | ru::l,a,h=>by
  by_cases c:bW bt a.1 ru=true
  .have e:sstep bt a ru=(bQ a.1 ru.1 (aH a.1 ru),true):=aA c;have h':(l.foldl (sstep bt) (sstep bt a ru)).2=false:=h;rw [e,vc bt l _ rfl] at h';cases h'
  have e:sstep bt a ru=a:=az c;have h':(l.foldl (sstep bt) (sstep bt a ru)).2=false:=h;rw [e] at h';obtain⟨i1,i2⟩:=jD bt l a h';refine⟨by rw [List.foldl_cons,e];exact i1,λCq hr=>?_⟩;rcases aS.mp hr with z | z
  .rw [z];exact pS.mpr c
  exact i2 Cq z
end M11
namespace L2
open PySem M11
def fq.tup {K:aV}{d a:Addr}{xs:115}(s:fq d H H')(hd:H d=184)(h:aZ K H a xs):aZ K H' a xs:=by
 rcases h with (h | ⟨u,h⟩) | h
 .exact .inl (.inl (s _ _ (λz=>by rw [z,hd] at h;cases h) h))
 .exact .inl (.inr ⟨u,s _ _ (λz=>by rw [z,hd] at h;cases h) h⟩)
 exact .inr h
def fq.seq {K:aV}{d a:Addr}{xs:115}(s:fq d H H')(hd:H d=184)(h:aF K H a xs):aF K H' a xs:=by
 rcases h with (h | ⟨u,h⟩) | h
 .exact .inl (.inl (s _ _ (λz=>by rw [z,hd] at h;cases h) h))
 .exact .inl (.inr ⟨u,s _ _ (λz=>by rw [z,hd] at h;cases h) h⟩)
 exact .inr h
def Eg {K:aV}{H:Hp}{p D d:Addr}{zs:z0r}{kvs:140}{g:G}{σ:St}{js:z0i}{Qp:Hp->Prop}(hσ:eI ["part"] js σ=[none,bc d])(hp:aZ K H p (zs.map V.str))(hz:zs.length<=1000)
  (hd:H d=184)(hv:∀z,ba kvs 145=(g z).map V.int)(ha:∀z∈zs,(g z).isSome=true)(hD:H D=none)(q:∀H2,aE H H2->H2 D=some (.lst ((zs.map λz=>(g z).getD 0).map V.int))->Qp H2) :
  ∃W:Nat->Nat->115->148,(∃m,W 0 m [] (eI ["part"] js σ) (upd H D 128)) /\
 ∀i m ys σ' H,W i m ys σ' H->((tV K p).stop i H/\Qp H)\/((tV K p).go i H/\∃m',m' < m/\∀x H',(tV K p).nu i H x H'->eA 0 x σ' H' λσ2 H2=>jc σ2 H2 λb H3 =>
  if b=true then B3 (gw 1) (gw 0) σ2 H3 248 else W (i+1) m' ys σ2 H3):=by
 refine gN (xs:=zs.map V.str) (λi ys σ2 H2=>ys=(((zs.take i).map λz=>(g z).getD 0).map V.int)/\(∃y0,σ2=[y0,bc d])/\aE H H2/\H2 D=some (.lst ys))
  ⟨rfl,⟨none,hσ⟩,ah hD _,ae⟩ (λi ys σ2 H2 _ h=>h.2.2.1.tup hp) (λi x ys σ2 H2 ex h=>?_) (λys σ2 H2 h=>?_)
 .obtain⟨rfl,⟨y0,rfl⟩,sm,hd2⟩:=h;rw [bB] at ex;obtain⟨z,ez,rfl⟩:=b9.mp ex;have li:=(bM.mp ez).1;obtain⟨n,en⟩:=i9.mp (ha z (cf ez));have hg:cq H2 d (.str z) (some (.int n)):=by
   have:=cq.k (k:=127) (sm _ _ hd);rw [hv,en] at this;exact this
  refine goN (zF ?_);refine⟨_,rfl,_,rfl,d,_,rfl,hg,hd2,bx (by rw [aC,aC,d7];omega),?_,159,?_,ae⟩
  .rw [cM,ez,bA,bA];show _=_++[V.int ((g z).getD 0)];rw [en];rfl
  intro b o hb;rw [254];exact sm b o hb
 obtain⟨rfl,_,sm,hd2⟩:=h;rw [aC,dI] at hd2;exact q H2 sm hd2
end L2
namespace eZ
open PySem L2 M11
section
def iB (K:aV)(q:Str)(params:Arguments)(body:Expr)(scope:Scope)(bt:Int->Int->Bool):Sp:=λvs H Q _=>∃(R:Addr)(rs:z0o)(aa:113)(d fl c':Addr)(pm fV:Value)(kvs:140) (ks:z0r)(g:G),
 vs=[.ref R,.ref d,.ref fl]/\aF K H R 162/\bj K H rs aa/\aa.length<=1000/\250/\H d=184/\kvs.map 56=ks.map Sum.inr/\ks.Nodup/\ks.length<=10000 /\
 (∀z,ba kvs 145=(g z).map V.int)/\(∃n,mY bt aa n g)/\H fl=some (pB fl (PySem.W.kla_obj "<lambda>" q params body scope [] pm c' fV))/\H c'=some (jQ c' q) /\
 ∀(mx:140) (Qs:z0r)(g':G)(H':Hp),fq d H H'->H' d=some (.dK mx)->mx.map 56=Qs.map Sum.inr->(∀z,ba mx 145=(g' z).map V.int)->bE bt aa g g'->bS bt aa g'->mx.length<=20000->Q (.ref d) H'
def iC:aJ ["rules","sizes","better","changed","head","parts","size"] ["rules","sizes","better"] (av nJ):=182
structure EV (K:aV)(aa:113) (Lh:z0r)(H H5:Hp)(d:Addr)(kvs:140) (ks:z0r)(g:G):Prop where
 sm:fq d H H5
 hd:H5 d=184
 keys:kvs.map 56=ks.map Sum.inr
 nd:ks.Nodup
 sub:∀x∈ks,x∈Lh++aa.map 56
 val:∀z,ba kvs 145=(g z).map V.int
def EV.len {aa:113}{Lh:z0r}{d:Addr}{kvs:140}{g:G}(h:EV K aa Lh H H5 d kvs ks g):kvs.length<=Lh.length+aa.length:=by
 have h1:=congrArg List.length h.keys;have h2:=gL ks _ h.nd h.sub;rw [bO,aC] at h2;rw [aC,aC] at h1;omega
def EV.same {aa:113}{d:Addr}{g:G}(h:EV K aa Lh H H5 d kvs ks g)(s:aE H5 H6):EV K aa Lh H H6 d kvs ks g :=
 ⟨λb o n e=>s _ _ (h.sm b o n e),s _ _ h.hd,h.keys,h.nd,h.sub,h.val⟩
def EV.put {aa:113}{d:Addr}{g:G}(h:EV K aa Lh H H5 d kvs ks g){ru:aB}(hr:ru∈aa) (n:Int) :
  EV K aa Lh H (upd H5 d (.dK (bP kvs (Sum.inr ru.1) (.int n)))) d (bP kvs (Sum.inr ru.1) (.int n)) (gu ks ru.1) (bQ g ru.1 n):=by
 refine⟨λb o nb e=>by rw [aj nb];exact h.sm b o nb e,ae,ku h.keys ru.1,CY ru.1 h.nd,λx hx=>?_,λz=>?_⟩
 .rcases (iH ks ru.1 x).mp hx with z | z
  .exact h.sub x z
  rw [z];exact fO _ (i7 hr)
 rw [rD];unfold bQ;by_cases c:z=ru.1
 .rw [aA c,aA (by rw [c])];rfl
 rw [az c,az (λe=>c (lO e)),h.val]
def uY (F:iu K "settled_sizes" "settled_sizes" nJ f fd)(T:Txt mg){body:Expr}(S:aJ ["size","known"] ["size","known"] scope)
  (sS:∀(pm fV:Value)(c':Addr)(us:z0m),us.length=(["size","known"]:z0r).length->bindArgs (PySem.W.kla_fn "<lambda>" q params body scope [] pm (.ref c') fV) ⟨us,[]⟩=pure ((["size","known"]:z0r).zip us))
  (g_:∀(f c':Addr)(A:Around)(outer:List Env)(s:Shared)(H:Hp),PE (eY fN P w K mg base ["size","known"] q scope f (.ref c') A outer s H λ_ _ _=>False) body te)
  (hte:∀a b H Q,Q (.bl (bt a b)) H->te [some (.int a),some (.int b)] H Q):bF P w K mg base fN 2 f fd ["rules","sizes","better"] (iB K q params body scope bt):=by
 refine F.ok iC 186 195
 .obtain⟨R,rs,aa,d,fl,c',pm,fV,kvs,ks,g,rfl,_⟩:=h;rfl
 obtain⟨R,rs,aa,d,fl,c',pm,fV,kvs,ks,g,rfl,hR,cT,bN,h8,hd,hk,Ls,hkl,hv,⟨n0,V5⟩,Hf,iK,qq⟩:=h;have hu:=fU hr;refine⟨_,ao (aD (i:=3) iC.nd rfl 116 eO)
  (ao (iE cD (fE (pv 3))
   (ao (aD (i:=3) iC.nd rfl 116 eO)
   (ar (b_ cD rfl (bq (pv 0)) (e_ rfl (aI (ay (i:=4) iC.nd rfl 116) (aI (ay (i:=5) iC.nd rfl 116) cy)))
    (ar (cR (fE (aM (pM rfl) rfl T.all boot_all (af (bV ["part"] [(1,"sizes")] rfl (hV (pv 5)) (bH rfl rfl) nofun rfl nofun
       (λ_ _ _ _ _=>ay (i:=0) (show (["part","sizes"]:z0r).Nodup by decide +kernel) rfl 116) (λ_ _ _ _ _=>cJ) (λ_ _ _ _ _=>Gd (mf hu (pv 0) (pv 1)))) ak)))
     (ao (aD (i:=6) iC.nd rfl 116 (aU dQ au (aM (pL rfl) rfl T.sum PyProof.Rows.boot_sum (af (bV ["part"] [(1,"sizes")] rfl (hV (pv 5)) (bH rfl rfl) nofun rfl nofun
       (λ_ _ _ _ _=>ay (i:=0) (show (["part","sizes"]:z0r).Nodup by decide +kernel) rfl 116) (λ_ _ _ _ _=>cJ) (λ_ _ _ _ _=>eG hu (pv 1) (pv 0) 144)) ak))))
     (ar (cR (PW.pt (qg (eK (dP hu (pv 4) (pv 1))) (ma (fE (AJ (i:=2) (k:=0) rfl rfl S hr sS g_ (af (pv 6) (af (eG hu (pv 1) (pv 4) 144) ak)))))))
      (ao (gP hu (pv 1) (pv 4) (pv 6) rfl) (ar (aD (i:=3) iC.nd rfl 116 eO))) bL))) bL))))))
  (ar (br (pv 1)))),?_⟩
 nofun
 have ll:=bT cT;have S0:EV K aa ks H H d kvs ks g:=⟨λ_ _ _ e=>e,hd,hk,Ls,λx hx=>jX _ hx,hv⟩;refine⟨λm σ H5=>∃(eX:140) (Sr:z0r)(g2:G)(ch:Bool)(y4 y5 y6:Option V),σ=[bc R,bc d,bc fl,some (.bl ch),y4,y5,y6]/\EV K aa ks H H5 d eX Sr g2/\bE bt aa g g2 /\
  ((ch=true/\∃n,m=n+1/\mY bt aa n g2)\/(ch=false/\bS bt aa g2)),⟨n0+1,kvs,ks,g,true,none,none,none,rfl,S0,.refl,.inl ⟨rfl,n0,rfl,V5⟩⟩,?_⟩
 rintro m σ H5 ⟨eX,Sr,g2,ch,y4,y5,y6,rfl,S2,Ij,cs⟩;refine⟨_,rfl,ch,rfl,?_⟩;refine cC (λc=>?_) (λc=>?_)
 .rcases cs with ⟨_,n,em,en⟩ | ⟨c',_⟩
  case inr=>rw [c'] at c;cases c
  refine⟨λσ H6=>∃(mw:140) (EN:z0r)(g3:G)(zj:Bool)(y4 y5 y6:Option V),σ=[bc R,bc d,bc fl,some (.bl zj),y4,y5,y6]/\EV K aa ks H H6 d mw EN g3/\(g3,zj)=uh bt aa g2,?_,?_⟩
  .rintro σ H6 ⟨mw,EN,g3,zj,y4,y5,y6,rfl,S3,e3⟩;have Xe:g3=(uh bt aa g2).1:=congrArg Prod.fst e3;have N8:zj=(uh bt aa g2).2:=congrArg Prod.snd e3;have Pw:bE bt aa g g3:=by
    rw [Xe];exact Ij.trans (mO bt aa aa (g2,false) λ_ h=>h)
   cases h3:zj with
   | false =>
    rw [h3] at N8;obtain⟨f1,f2⟩:=jD bt aa (g2,false) N8.symm;refine⟨0,∅,mw,EN,g3,false,_,_,_,rfl,S3,Pw,.inr ⟨rfl,?_⟩⟩;have e33:g3=g2:=Xe.trans f1;rw [e33];exact f2
   | true =>
    rw [h3] at N8;cases n with
    | zero=>rw [show (uh bt aa g2).2=false from en] at N8;cases N8
    | succ n' =>
     rcases en with en | en
     .rw [en] at N8;cases N8
     exact⟨n'+1,∅,mw,EN,g3,true,_,_,_,rfl,S3,Pw,.inl ⟨rfl,n',rfl,by rw [Xe];exact en⟩⟩
  refine⟨_,rfl,R,rfl,⟨_,S2.sm.seq hd hR⟩,?_⟩;refine du (xs:=143) (λi σ H6=>∃(mw:140) (EN:z0r)(g3:G)(zj:Bool)(y4 y5 y6:Option V),σ=[bc R,bc d,bc fl,some (.bl zj),y4,y5,y6]/\EV K aa ks H H6 d mw EN g3/\(g3,zj)=(aa.take i).foldl (sstep bt) (g2,false))
   ⟨eX,Sr,g2,false,_,_,_,rfl,S2,rfl⟩ ?_ ?_ ?_
  .rintro i σ H6 _ ⟨mw,EN,g3,zj,y4,y5,y6,rfl,S3,_⟩;exact S3.sm.seq hd hR
  .rintro i x σ H6 ex ⟨mw,EN,g3,zj,y4,y5,y6,rfl,S3,e3⟩;rw [bB] at ex;obtain⟨r,er,rfl⟩:=b9.mp ex;obtain⟨ru,e1,p,v1,v2⟩:=cT.get er;have pF:=cf e1;have Ly:=h8 ru pF;have fo:(aa.take (i+1)).foldl (sstep bt) (g2,false)=sstep bt (g3,zj) ru:=by
    rw [cM,e1,vF,<-e3];rfl
   rw [fo];have TV:=S3.sm.tup hd v2;refine⟨r,_,rfl,S3.sm.tup hd v1,rfl,_,_,rfl,_,_,rfl,rfl,?_⟩;refine⟨_,rfl,p,rfl,⟨_,TV⟩,λD2 mJ=>vk rfl TV ∅ S3.hd mJ λH7 Ys hd7=>?_⟩;have S4:=S3.same Ys;have v4:=Ys.tup TV;have eb:(ru.2.map λz=>(ba mw 145).isSome).all id=iW g3 ru:=by
    unfold iW;rw [List.all_map];refine List.all_congr rfl λz=>?_;show (ba mw 145).isSome=_;rw [S3.val,pU]
   refine⟨D2,_,rfl,aF.of hd7,_,rfl,?_⟩;rw [eb];refine cC (λc4=>?_) (λc4=>?_)
   .have al:∀z∈ru.2,(g3 z).isSome=true:=λz hz=>dW.mp c4 z hz;refine⟨_,rfl,p,rfl,⟨_,v4⟩,λD3 Lx=>Eg (g:=g3) rfl v4 ∅ S4.hd S4.val al Lx λH8 Ow Q7=>?_⟩;have S5:=S4.same Ow;have esz:1+(ru.2.map λz=>(g3 z).getD 0).sum=aH g3 ru:=rfl;refine⟨D3,_,rfl,aF.of Q7,_,_,rfl,rfl,?_⟩;have mem:(ba mw (Sum.inr ru.1)).isSome=(g3 ru.1).isSome:=by rw [S5.val,pU]
    have fl5:=S5.sm fl _ (λz=>by rw [z,hd] at Hf;cases Hf) Hf;have c5':=S5.sm c' _ (λz=>by rw [z,hd] at iK;cases iK) iK;have l5:=S5.len;refine⟨_,rfl,_,rfl,d,_,rfl,cq.k (k:=Sum.inr ru.1) S5.hd,_,rfl,?_⟩;refine cC (λc5=>?_) (λc5=>?_)
    .have fr:bW bt g3 ru=true:=by
      unfold bW;rw [<-mem,c4,c5];rfl
     refine⟨_,rfl,_,rfl,_,rfl,d,_,rfl,pP.k (k:=Sum.inr ru.1) S5.hd (bx ∅),?_⟩;exact⟨_,_,bQ g3 ru.1 (aH g3 ru),true,_,_,_,rfl,S5.put pF (aH g3 ru),(aA fr).symm⟩
    have isS:(g3 ru.1).isSome=true:=by
     rw [mem] at c5;cases hq:(g3 ru.1).isSome with
     | true=>rfl
     | false=>rw [hq] at c5;exact absurd rfl c5
    obtain⟨k,ek⟩:=i9.mp isS;have hg:cq H8 d (.str ru.1) (some (.int k)):=by
     have:=cq.k (k:=Sum.inr ru.1) S5.hd;rw [S5.val,ek] at this;exact this
    refine⟨fl,pm,c',fV,rfl,_,rfl,_,rfl,_,rfl,d,_,rfl,hg,fl5,c5',rfl,hte (aH g3 ru) k _ _ ⟨_,rfl,?_⟩⟩;refine cC (λc6=>?_) (λc6=>?_)
    .have fr:bW bt g3 ru=true:=by
      unfold bW;rw [c4,ek];show (true && (false || bt (aH g3 ru) k))=true
      rw [c6];rfl
     refine⟨_,rfl,_,rfl,_,rfl,d,_,rfl,pP.k (k:=Sum.inr ru.1) S5.hd (bx ∅),?_⟩;exact⟨_,_,bQ g3 ru.1 (aH g3 ru),true,_,_,_,rfl,S5.put pF (aH g3 ru),(aA fr).symm⟩
    have fr:¬bW bt g3 ru=true:=by
     unfold bW;rw [c4,ek];show ¬(true && (false || bt (aH g3 ru) k))=true
     rw [pS.mpr c6];exact nofun
    exact⟨mw,EN,g3,zj,_,_,_,rfl,S5,(az fr).symm⟩
   have e5:sstep bt (g3,zj) ru=(g3,zj):=az (λz=>c4 (by unfold bW at z;exact(rA.mp z).1));exact⟨mw,EN,g3,zj,_,_,_,rfl,S4,e5.symm⟩
  rintro σ H6 ⟨mw,EN,g3,zj,y4,y5,y6,rfl,S3,e3⟩;rw [aC,ll,dI] at e3;exact⟨mw,EN,g3,zj,_,_,_,rfl,S3,e3⟩
 rcases cs with ⟨c',_⟩ | ⟨_,se⟩
 .rw [c'] at c;exact absurd rfl c
 exact⟨_,rfl,qq eX Sr g2 H5 S2.sm S2.hd S2.keys S2.val Ij se (by have:=S2.len;omega)⟩
end
end eZ
namespace M11
open PySem L2
theorem fold_lt {bt:Int->Int->Bool}{aa:113}{J:G->Prop}{r:G->G->Prop}(tr:∀a b c,r a b->r b c->r a c)
  (lI:∀g ru,J g->ru∈aa->bW bt g ru=true->J (bQ g ru.1 (aH g ru))/\r (bQ g ru.1 (aH g ru)) g) :
  ∀(l:113)(a:G×Bool),(∀ru∈l,ru∈aa)->J a.1->J (l.foldl (sstep bt) a).1/\(l.foldl (sstep bt) a=a\/r (l.foldl (sstep bt) a).1 a.1)
 | [],a,_,j=>⟨j,.inl rfl⟩
 | ru::l,a,h,j=>by
  by_cases c:bW bt a.1 ru=true
  .have e:sstep bt a ru=(bQ a.1 ru.1 (aH a.1 ru),true):=aA c;obtain⟨j1,r1⟩:=lI a.1 ru j (h ru cx) c;obtain⟨j2,r2⟩:=fold_lt tr lI l (bQ a.1 ru.1 (aH a.1 ru),true) (λx hx=>h x (cw _ hx)) j1;rw [List.foldl_cons,e];refine⟨j2,.inr ?_⟩;rcases r2 with r2 | r2
   .rw [r2];exact r1
   exact tr _ _ _ r2 r1
  have e:sstep bt a ru=a:=az c;rw [List.foldl_cons,e];exact fold_lt tr lI l a (λx hx=>h x (cw _ hx)) j
def yU {bt:Int->Int->Bool}{aa:113}{J:G->Prop}{r:G->G->Prop}(tr:∀a b c,r a b->r b c->r a c)
  (lI:∀g ru,J g->ru∈aa->bW bt g ru=true->J (bQ g ru.1 (aH g ru))/\r (bQ g ru.1 (aH g ru)) g){g:G}(h:Acc r g)(j:J g):∃n,mY bt aa n g:=by
 induction h with
 | intro g _ ih =>
  cases c:(uh bt aa g).2 with
  | false=>exact⟨0,c⟩
  | true =>
   obtain⟨j2,r2⟩:=fold_lt tr lI aa (g,false) (λ_ h=>h) j;have r3:r (uh bt aa g).1 g:=by
    rcases r2 with r2 | r2
    .have e:(uh bt aa g)=(g,false):=r2;rw [e] at c;cases c
    exact r2
   obtain⟨n,hn⟩:=ih _ r3 j2;exact⟨n+1,.inr hn⟩
def bE.keep {bt:Int->Int->Bool}{aa:113}{J:G->Prop}(lI:∀g ru,J g->ru∈aa->bW bt g ru=true->J (bQ g ru.1 (aH g ru))){g g':G}(h:bE bt aa g g')(j:J g):J g':=by
 induction h with
 | refl=>exact j
 | step _ a b ih=>exact lI _ _ ih a b
def eJ (f:Str->Nat) (hs:z0r):Nat:=(hs.map f).sum
theorem xZ {f k:Str->Nat}:∀{hs:z0r},(∀x∈hs,f x<=k x)->eJ f hs<=eJ k hs
 | [],_=>aG _
 | h::r,q=>by
  have h1:=q h cx;have h2:=xZ (hs:=r) λx hx=>q x (cw _ hx);show f h+eJ f r<=k h+eJ k r;omega
theorem nv {f k:Str->Nat}:∀{hs:z0r}{h:Str},(∀x∈hs,f x<=k x)->h∈hs->f h < k h->eJ f hs < eJ k hs
 | a::r,h,q,m,l=>by
  have h1:=q a cx;have h2:∀x∈r,f x<=k x:=λx hx=>q x (cw _ hx);show f a+eJ f r < k a+eJ k r;rcases aS.mp m with z | z
  .have:=xZ h2;rw [z] at l;omega
  have:=nv h2 z l;omega
theorem jv (g:G)(J:∀z n,g z=some n->(0:Int)<=n):∀ps:z0r,0<=(ps.map 198).sum
 | []=>108
 | p::r=>by
  have h1:=jv g J r;have h2:0<=(g p).getD 0:=by
   cases e:g p with
   | none=>exact fX _
   | some n=>exact J p n e
  rw [bC,hZ];omega
def NN (g:G):Prop:=∀z n,g z=some n->(0:Int)<=n
def wU {g:G}(j:NN g)(ru:aB):NN (bQ g ru.1 (aH g ru)):=λz n e=>by
 unfold bQ at e;by_cases c:z=ru.1
 .rw [aA c] at e;cases e;have:=jv g j ru.2;unfold aH;omega
 rw [az c] at e;exact j z n e
def bl (a b:Int):Bool:=decide (a < b)
def bg (a b:Int):Bool:=decide (a > b)
def A8 (hs:z0r)(g' g:G):Prop :=
 eJ (λh=>if (g' h).isSome then 0 else 1) hs < eJ (λh=>if (g h).isSome then 0 else 1) hs \/
 (eJ (λh=>if (g' h).isSome then 0 else 1) hs=eJ (λh=>if (g h).isSome then 0 else 1) hs/\eJ (λh=>((g' h).getD 0).toNat) hs < eJ (λh=>((g h).getD 0).toNat) hs)
def JT (hs:z0r)(g:G):Acc (A8 hs) g:=by
 have wf:=(Prod.lex (β:=Nat) (α:=Nat) ⟨(· < ·),Nat.lt_wfRel.wf⟩ ⟨(· < ·),Nat.lt_wfRel.wf⟩).wf;have key:∀p:Nat×Nat,∀g:G,(eJ (λh=>if (g h).isSome then 0 else 1) hs,eJ (λh=>((g h).getD 0).toNat) hs)=p->Acc (A8 hs) g:=λp=>by
  induction p using wf.induction with
  | _ p ih =>
   intro g e;refine⟨g,λg' r=>ih _ ?_ g' rfl⟩;rw [<-e];rcases r with r | ⟨r1,r2⟩
   .exact Prod.Lex.left _ _ r
   show Prod.Lex _ _ (eJ (λh=>if (g' h).isSome then 0 else 1) hs,_) _;rw [r1];exact Prod.Lex.right _ r2
 exact key _ g rfl
def Nd (hs:z0r)(a b c:G)(h:A8 hs a b)(k:A8 hs b c):A8 hs a c:=by
 unfold A8 at *;omega
def GY {aa:113}(g:G)(ru:aB)(j:NN g)(m:ru∈aa)(f:bW bl g ru=true):NN (bQ g ru.1 (aH g ru))/\A8 (aa.map 56) (bQ g ru.1 (aH g ru)) g:=by
 refine⟨wU j ru,?_⟩;have hm:ru.1∈aa.map 56:=i7 m;have nn:=wU j ru;have qr:bQ g ru.1 (aH g ru) ru.1=some (aH g ru):=aA rfl;have ne:∀z,z≠ru.1->bQ g ru.1 (aH g ru) z=g z:=λz n=>az n;unfold bW at f;have f2:=(rA.mp f).2;cases e:g ru.1 with
 | none =>
  refine .inl (nv (λx _=>?_) hm ?_)
  .by_cases c:x=ru.1
   .show (if (bQ g ru.1 (aH g ru) x).isSome then 0 else 1)<=_;rw [c,qr];exact d6 _
   show (if (bQ g ru.1 (aH g ru) x).isSome then 0 else 1)<=_;rw [ne x c];exact aG _
  show (if (bQ g ru.1 (aH g ru) ru.1).isSome then 0 else 1) < (if (g ru.1).isSome then 0 else 1);rw [qr,e];show 0 < 1;exact Nat.one_pos
 | some k =>
  rw [e] at f2;have lt:aH g ru < k:=dJ (by simpa [bl] using f2);have h0:=nn ru.1 _ qr;refine .inr ⟨?_,nv (λx _=>?_) hm ?_⟩
  .unfold eJ
   congr 1
   refine oS λx _=>?_;by_cases c:x=ru.1
   .show (if (bQ g ru.1 (aH g ru) x).isSome then 0 else 1)=(if (g x).isSome then 0 else 1);rw [c,qr,e];rfl
   show (if (bQ g ru.1 (aH g ru) x).isSome then 0 else 1)=(if (g x).isSome then 0 else 1);rw [ne x c]
  .by_cases c:x=ru.1
   .show ((bQ g ru.1 (aH g ru) x).getD 0).toNat<=((g x).getD 0).toNat;rw [c,qr,e];show (aH g ru).toNat<=k.toNat;omega
   show ((bQ g ru.1 (aH g ru) x).getD 0).toNat<=((g x).getD 0).toNat;rw [ne x c];exact aG _
  show ((bQ g ru.1 (aH g ru) ru.1).getD 0).toNat < ((g ru.1).getD 0).toNat;rw [qr,e];show (aH g ru).toNat < k.toNat;omega
def sG (aa:113)(g:G)(j:NN g):∃n,mY bl aa n g:=yU (Nd (aa.map 56)) (λg ru=>GY g ru) (JT _ g) j
inductive Em (aa:113):Str->Prop
 | mk {ru:aB}:ru∈aa->(∀p∈ru.2,Em aa p)->Em aa ru.1
def tZ (aa:113)(b:Str->Int):Prop:=(∀z,0<=b z)/\∀ru∈aa,(∀p∈ru.2,Em aa p)->1+(ru.2.map b).sum<=b ru.1
def GJ (aa:113)(b:Str->Int)(g:G):Prop:=∀z n,g z=some n->0<=n/\n<=b z/\Em aa z
theorem B4 {aa:113}{b:Str->Int}{g:G}(j:GJ aa b g)(hb:∀z,0<=b z):∀ps:z0r,(ps.map 198).sum<=(ps.map b).sum
 | []=>108
 | p::r=>by
  have h1:=B4 j hb r;have h2:(g p).getD 0<=b p:=by
   cases e:g p with
   | none=>exact hb p
   | some n=>exact(j p n e).2.1
  rw [bC,hZ,bC,hZ];omega
def gm (b:Str->Int)(g:G)(h:Str):Nat:=if (g h).isSome then (b h - (g h).getD 0).toNat else (b h).toNat+1
def sV {aa:113}{b:Str->Int}(B:tZ aa b)(g:G)(ru:aB)(j:GJ aa b g)(m:ru∈aa)(f:bW bg g ru=true) :
  GJ aa b (bQ g ru.1 (aH g ru))/\eJ (gm b (bQ g ru.1 (aH g ru))) (aa.map 56) < eJ (gm b g) (aa.map 56):=by
 have hm:ru.1∈aa.map 56:=i7 m;have qr:bQ g ru.1 (aH g ru) ru.1=some (aH g ru):=aA rfl;have ne:∀z,z≠ru.1->bQ g ru.1 (aH g ru) z=g z:=λz n=>az n;unfold bW at f;obtain⟨f1,f2⟩:=rA.mp f;have em:∀p∈ru.2,Em aa p:=λp hp=>by
  obtain⟨n,en⟩:=i9.mp (dW.mp f1 p hp);exact(j p n en).2.2
 have bd:=B.2 ru m em;have sb:=B4 j B.1 ru.2;have s0:=jv g (λz n e=>(j z n e).1) ru.2;have sz:0<=aH g ru/\aH g ru<=b ru.1:=by unfold aH;omega
 refine⟨λz n e=>?_,nv (λx _=>?_) hm ?_⟩
 .by_cases c:z=ru.1
  .rw [c,qr] at e;cases e;rw [c];exact⟨sz.1,sz.2,.mk m em⟩
  rw [ne z c] at e;exact j z n e
 .by_cases c:x=ru.1
  .rw [c];unfold gm;rw [qr];show (b ru.1 - aH g ru).toNat<=_;cases e:g ru.1 with
   | none=>show _<=(b ru.1).toNat+1;omega
   | some k =>
    rw [e] at f2;have lt:aH g ru > k:=dJ (by simpa [bg] using f2);show _<=(b ru.1 - k).toNat;omega
  unfold gm;rw [ne x c];exact aG _
 unfold gm;rw [qr];show (b ru.1 - aH g ru).toNat < _;cases e:g ru.1 with
 | none=>show _ < (b ru.1).toNat+1;omega
 | some k =>
  rw [e] at f2;have lt:aH g ru > k:=dJ (by simpa [bg] using f2);show _ < (b ru.1 - k).toNat;omega
def Bk {aa:113}{b:Str->Int}(B:tZ aa b)(g:G)(j:GJ aa b g):∃n,mY bg aa n g :=
 yU (r:=λg' g=>eJ (gm b g') (aa.map 56) < eJ (gm b g) (aa.map 56)) (λ_ _ _ h k=>lQ h k) (sV B) ((InvImage.wf (λg:G=>eJ (gm b g) (aa.map λx:aB=>x.1)) Nat.lt_wfRel.wf).apply g) j
def yQ {aa:113}{b:Str->Int}(B:tZ aa b){g g':G}(h:bE bg aa g g')(j:GJ aa b g):GJ aa b g':=h.keep (λg ru a m f=>(sV B g ru a m f).1) j
end M11
namespace L2
open PySem
def zc {K:aV}{H:Hp}{p D:Addr}{zs:z0r}{σ:St}{v:V}{x:Str}{Qp:Hp->Prop}(hp:aF K H p (zs.map V.str))(hz:zs.length<=10000)(hD:H D=none)
  (q:∀ts H2,aE H H2->H2 D=217->Paired (λt h=>aZ K H2 t [.str h,v]) ts zs->Qp H2) :
  ∃W:Nat->Nat->115->148,(∃m,W 0 m [] (eI [x] [] σ) (upd H D 128)) /\
 ∀i m ys σ' H,W i m ys σ' H->((kF K p).stop i H/\Qp H)\/((kF K p).go i H/\∃m',m' < m/\∀x H',(kF K p).nu i H x H'->eA 0 x σ' H' λσ2 H2=>jc σ2 H2 λb H3 =>
  if b=true then ug (fZ (gw 0) (fZ (tC v) qw)) σ2 H3 248 else W (i+1) m' ys σ2 H3):=by
 refine bX (xs:=zs.map V.str) (λi ys σ2 H2=>∃ts:z0o,ys=ts.map V.ref/\ts.length=i/\Paired (λt h=>aZ K H2 t [.str h,v]) ts (zs.take i)/\(∃y0,σ2=[y0])/\aE H H2/\H2 D=some (.lst ys))
  ⟨[],rfl,rfl,.nil,⟨none,rfl⟩,ah hD _,ae⟩ (λi ys σ2 H2 _ h=>?_) (λi x ys σ2 H2 ex h=>?_) (λys σ2 H2 h=>?_)
 .obtain⟨_,_,_,_,_,sm,_⟩:=h;exact sm.seq hp
 .obtain⟨ts,rfl,ht,xi,⟨y0,rfl⟩,sm,hd⟩:=h;rw [bB] at ex;obtain⟨z,ez,rfl⟩:=b9.mp ex;have li:=(bM.mp ez).1;refine goN (zF ?_);refine⟨_,rfl,lX,λt iL=>⟨?_,210,ts++[t],?_,?_,?_,159,?_,ae⟩⟩
  .rw [aj (aq hd iL)];exact hd
  .rw [bA];rfl
  .rw [bO,ht];rfl
  .rw [cM,ez];have ir:upd H2 t (.tup [.str z,v]) D=217:=by rw [aj (aq hd iL)];exact hd
   exact gA (Paired.ij xi λt' h' z=>aT ir ((ah iL _).tup z)) (aT ir (aZ.of ae))
  intro b o hb;rw [254];exact ah iL _ _ _ (sm b o hb)
 obtain⟨ts,rfl,ht,xi,_,sm,hd⟩:=h;rw [aC,dI] at xi;exact q ts H2 sm hd xi
def Tab.same {T:Addr}(h:Tab T pos qual H)(s:aE H H'):Tab T pos qual H':=by
 obtain⟨ps,a,b,c⟩:=h;refine⟨ps,s _ _ a,b,c.imp id ?_⟩;rintro⟨c',e,g⟩;exact⟨c',e,s _ _ g⟩
def Tab.K1 {T d:Addr}(h:Tab T pos qual H)(s:fq d H H')(hd:H d=184):Tab T pos qual H':=by
 obtain⟨ps,a,b,c⟩:=h;refine⟨ps,s _ _ (λz=>by rw [z,hd] at a;cases a) a,b,c.imp id ?_⟩;rintro⟨c',e,g⟩;exact⟨c',e,s _ _ (λz=>by rw [z,hd] at g;cases g) g⟩
structure zx (K:aV)(x qual:Str)(st:Stmt)(f:Addr)(fd:FuncData)(T:Addr):Prop where
 ex:∃(oc:Value)(od:z0l)(kV doc pm:Value)(an:z0l)(c:Addr)(ct:Value)(wO:z0a),
  fd=PySem.W.fnOf x qual (di st) (bZ st) (av st) .none kV doc pm an (.ref c) ct/\K.lookup f=some ⟨oc,od,.func fd,wO⟩/\PySem.W.codeIn K (.ref c) qual=true/\PySem.W.codeHdIn K c T=true
 kp:PySem.W.keepIn K (.ref f)=true
def zx.ok {w:World}{K:aV}{x qual:Str}{f:Addr}{T:Addr}{N ps:z0r}{k:Nat}{sp:Sp}(F:zx K x qual st f fd T)(S:aJ N ps (av st))(len:∀vs H Q E,sp vs H Q E->vs.length=ps.length)
  (g_:∀(c:Addr)(A:Around)(outer:List Env)(s:Shared)(H:Hp)(vs:115)(Q:VK)(E:XK),PySem.W.codeHdIn K c T=true->dG k (A.deeper (PyProof.Rows.envOfC qual (av st) s.heap.objs.size f (.ref c)))->sp vs H Q E ->
   ∃t,vC (eY fN P w K mg base N qual (av st) f (.ref c) A outer s H E).JM (bZ st) t/\t { nx:=λ_ H'=>Q .dq H',rt:=Q } (start N vs) H):bF P w K mg base fN (k+1) f fd ps sp:=by
 obtain⟨oc,od,kV,doc,pm,an,c,ct,wO,rfl,lk,sR,hC⟩:=F.ex;refine yR lk sR S len λA outer s H vs Q E hr zD=>?_;obtain⟨t,h,q⟩:=g_ c A outer s H vs Q E hC hr zD;exact⟨t,h.JM,q⟩
theorem u6 {v:V}:∀(hs:z0r)(bG:140) (as:z0r),bG.map 56=as.map Sum.inr->(cU (hs.map λh=>((Sum.inr h:aR),v)) bG).map 56=(M11.qU as hs).map Sum.inr
 | [],bG,as,e=>e
 | h::r,bG,as,e=>u6 r (bP bG (Sum.inr h) v) (M11.gu as h) (eZ.ku e h)
theorem rC {v:V}:∀(hs:z0r)(bG:140)(z:Str),ba (cU (hs.map λh=>((Sum.inr h:aR),v)) bG) 145=if z∈hs then some v else ba bG 145
 | [],bG,z=>by simp [cU]
 | h::r,bG,z=>by
  have ih:=rC (v:=v) r (bP bG (Sum.inr h) v) z;show ba (cU (r.map λh=>((Sum.inr h:aR),v)) (bP bG (Sum.inr h) v)) 145=_;rw [ih,rD];by_cases c:z∈r
  .rw [aA c,aA (cw _ c)]
  rw [az c];by_cases c2:z=h
  .rw [aA (by rw [c2]),aA (by rw [c2];exact cx)]
  rw [az (λe=>c2 (lO e)),az (λe=>(aS.mp e).elim c2 c)]
end L2
namespace eZ
open PySem L2 M11
def Qk:z0q->Arguments×Expr×Scope×Pos
 | [.Return (some (.Call _ [_,_,.Lambda p b s pos] _ _)) _]=>(p,b,s,pos)
 | _=>(⟨[],[],none,[],[],none,[]⟩,.Constant .none 0 ⟨0,0,0,0⟩,av rS,⟨0,0,0,0⟩)
abbrev sE:=Qk (bZ rS)
abbrev A7:=Qk (bZ wH)
abbrev zC:Str := "least_sizes" ++ ".<locals>." ++ "<lambda>"
abbrev Lf:Str := "greatest_empty_sizes" ++ ".<locals>." ++ "<lambda>"
def Mv:aJ ["size","known"] ["size","known"] sE.2.2.1:=182
def Mw:aJ ["size","known"] ["size","known"] A7.2.2.1:=182
section
def AN (F:iu K "settled_sizes" "settled_sizes" nJ f fd)(T:Txt mg):bF P w K mg base fN 2 f fd ["rules","sizes","better"] (iB K zC sE.1 sE.2.1 sE.2.2.1 M11.bl) :=
 uY F T Mv (λpm fV c' us hl=>match us,hl with | [_,_],_=>rfl) (λ_ _ _ _ _ _=>kS qi (pv 0) (pv 1) (bz _)) (λa b H Q h=>⟨_,rfl,_,rfl,_,_,rfl,rfl,h⟩)
def AO (F:iu K "settled_sizes" "settled_sizes" nJ f fd)(T:Txt mg):bF P w K mg base fN 2 f fd ["rules","sizes","better"] (iB K Lf A7.1 A7.2.1 A7.2.2.1 M11.bg) :=
 uY F T Mw (λpm fV c' us hl=>match us,hl with | [_,_],_=>rfl) (λ_ _ _ _ _ _=>kS sk (pv 0) (pv 1) (bz _)) (λa b H Q h=>⟨_,rfl,_,rfl,_,_,rfl,rfl,h⟩)
def jP (aa:113):G:=λz=>if z∈qa (hd aa) [] (aa.flatMap (·.2)) then some 0 else none
def qN (K:aV)(T1:Addr):Sp:=λvs H Q _=>∃(R:Addr)(rs:z0o)(aa:113),vs=[.ref R]/\aF K H R 162/\bj K H rs aa/\aa.length<=1000/\250/\Tab T1 sE.2.2.2 zC H /\
 ∀(d:Addr)(kvs:140) (ks:z0r)(g:G)(H':Hp),H d=none->fq T1 H H'->Tab T1 sE.2.2.2 zC H'->H' d=184->kvs.map 56=ks.map Sum.inr->(∀z,ba kvs 145=(g z).map V.int)->bE M11.bl aa (jP aa) g->bS M11.bl aa g->kvs.length<=20000->Q (.ref d) H'
def I9:aJ ["rules"] ["rules"] (av rS):=182
def Gv (F:zx K "least_sizes" "least_sizes" rS f fd T1)(T:Txt mg)(hB:t_ mg base)(GW:aL P w K mg base 1 "words_in" ["rules"] (B7 K))
  (GS:aL P w K mg base 2 "settled_sizes" ["rules","sizes","better"] (iB K zC sE.1 sE.2.1 sE.2.2.1 M11.bl)):bF P w K mg base fN 3 f fd ["rules"] (qN K T1):=by
 refine F.ok I9 186 (λc A outer s H vs Q E hC hr h=>?_)
 .obtain⟨R,rs,aa,rfl,_⟩:=h;rfl
 obtain⟨R,rs,aa,rfl,hR,cT,bN,h8,hT,q⟩:=h;refine⟨_,ar (br (bU GS hr rfl (af (pv 0) (af (bh (d5 rfl) rfl T.xO fk (af
  (bV ["word"] [] rfl (bq (bU (GW.mono (by decide:1<=2)) hr rfl (af (pv 0) ak))) (bH rfl rfl) nofun rfl nofun
   (λ_ _ _ _ _=>ay (i:=0) (show (["word"]:z0r).Nodup by decide +kernel) rfl 116) (λ_ _ _ _ _=>cJ)
   (λ_ _ _ _ _=>bJ (af (pv 0) (af au ak)))) ak)) (af (Ga (T:=T1) rfl hC hB nofun) ak))))),?_⟩
 dsimp only [pK];refine⟨_,rfl,_,rfl,R,rs,aa,rfl,hR,cT,bN,h8,λD1 H1 f1 s1 e1=>?_⟩;have lw:(qa (hd aa) [] (aa.flatMap (·.2))).length<=8000:=by
  have h1:=wa (hd aa) (aa.flatMap (·.2)) [];have h2:=jl aa 1000 bN h8;simp only [ix] at h1;omega
 refine⟨D1,rfl,⟨_,aF.of e1⟩,λD2 mJ=>zc (aF.of e1) ∅ mJ λts H2 s2 e2 p2=>?_⟩;have kp:Paired (λt (kv:aR×V)=>aZ K H2 t [kV kv.1,kv.2]) ts ((qa (hd aa) [] (aa.flatMap (·.2))).map λh=>((Sum.inr h:aR),V.int 0)):=cO p2 λ_ _ z=>z;refine⟨D2,ts,_,rfl,e2,kp,λd hd2=>?_⟩;have k1:=u6 (v:=.int 0) (qa (hd aa) [] (aa.flatMap (·.2))) [] [] rfl;have k2:∀z,ba (cU ((qa (hd aa) [] (aa.flatMap (·.2))).map λh=>((Sum.inr h:aR),V.int 0)) []) 145=(jP aa z).map V.int:=λz=>by
  rw [rC];unfold jP
  split <;> rfl
 have lk:=fw (qa (hd aa) [] (aa.flatMap (·.2))) [];simp only [ix] at lk;generalize cU ((qa (hd aa) [] (aa.flatMap (·.2))).map λh=>((Sum.inr h:aR),V.int 0)) []=Qr at k1 k2;have s3:=(s1.trans s2).trans (ah hd2 (.dK Qr));have e3:upd H2 d (.dK Qr) d=some (.dK Qr):=ae;have xN:H d=none:=(s1.trans s2).free hd2;generalize upd H2 d (.dK Qr)=H3 at s3 e3;refine⟨hT.same s3,λfl c' fV H4 s4 t4 ffl e4 W7=>?_⟩;have nT:d≠T1:=λz=>by
  obtain⟨ps,a,_⟩:=hT.same s3;rw [<-z,e3] at a;cases a
 have EO:=s4 d _ nT e3;have U6:∀{a xs},aZ K H a xs->aZ K H4 a xs:=λ{a xs} h=>by
  obtain⟨ps,b,_⟩:=hT;rcases h with (h | ⟨u,h⟩) | h
  .exact .inl (.inl (s4 _ _ (λz=>by rw [z,b] at h;cases h) (s3 _ _ h)))
  .exact .inl (.inr ⟨u,s4 _ _ (λz=>by rw [z,b] at h;cases h) (s3 _ _ h)⟩)
  exact .inr h
 have U7:∀{a xs},aF K H a xs->aF K H4 a xs:=λ{a xs} h=>by
  obtain⟨ps,b,_⟩:=hT;rcases h with (h | ⟨u,h⟩) | h
  .exact .inl (.inl (s4 _ _ (λz=>by rw [z,b] at h;cases h) (s3 _ _ h)))
  .exact .inl (.inr ⟨u,s4 _ _ (λz=>by rw [z,b] at h;cases h) (s3 _ _ h)⟩)
  exact .inr h
 refine⟨R,rs,aa,d,fl,c',_,fV,Qr,_,jP aa,rfl,U7 hR,cT.keep λ_ _ z=>U6 z,bN,h8,EO,k1,pJ _ jr,∅,k2,sG aa _ λz n e=>?_,e4,W7,λmx Qs g' H5 s5 e5 k5 v5 st se Y0=>?_⟩
 .unfold jP at e
  split at e
  .cases e;exact fX _
  cases e
 refine q d mx Qs g' H5 xN (λb o n hb=>s5 b o (λz=>?_) (s4 b o n (s3 b o hb))) (t4.K1 s5 EO) e5 k5 v5 st se Y0;rw [z,xN] at hb;cases hb
def wo (K:aV)(T2:Addr):Sp:=λvs H Q _=>∃(R:Addr)(rs:z0o)(aa:113)(b:Str->Int),vs=[.ref R]/\aF K H R 162/\bj K H rs aa/\aa.length<=1000/\250/\tZ aa b/\Tab T2 A7.2.2.2 Lf H /\
 ∀(d:Addr)(kvs:140) (ks:z0r)(g:G)(H':Hp),H d=none->fq T2 H H'->Tab T2 A7.2.2.2 Lf H'->H' d=184->kvs.map 56=ks.map Sum.inr->(∀z,ba kvs 145=(g z).map V.int)->GJ aa b g->bE M11.bg aa (λ_=>none) g->bS M11.bg aa g->Q (.ref d) H'
def Jb:aJ ["rules"] ["rules"] (av wH):=182
def Gx (F:zx K "greatest_empty_sizes" "greatest_empty_sizes" wH f fd T2)(hB:t_ mg base)
  (GS:aL P w K mg base 2 "settled_sizes" ["rules","sizes","better"] (iB K Lf A7.1 A7.2.1 A7.2.2.1 M11.bg)):bF P w K mg base fN 3 f fd ["rules"] (wo K T2):=by
 refine F.ok Jb 186 (λc A outer s H vs Q E hC hr h=>?_)
 .obtain⟨R,rs,aa,b,rfl,_⟩:=h;rfl
 obtain⟨R,rs,aa,b,rfl,hR,cT,bN,h8,ZE,hT,q⟩:=h;refine⟨_,ar (br (bU GS hr rfl (af (pv 0) (af fg (af (Ga (T:=T2) rfl hC hB nofun) ak))))),?_⟩;refine⟨_,rfl,λd xN=>?_⟩;have s3:=ah xN (.dK []);have e3:upd H d (.dK []) d=some (.dK []):=ae;generalize upd H d (.dK [])=H3 at s3 e3;refine⟨hT.same s3,λfl c' fV H4 s4 t4 ffl e4 W7=>?_⟩;have nT:d≠T2:=λz=>by
  obtain⟨ps,a,_⟩:=hT.same s3;rw [<-z,e3] at a;cases a
 have EO:=s4 d _ nT e3;have U6:∀{a xs},aZ K H a xs->aZ K H4 a xs:=λ{a xs} h=>by
  obtain⟨ps,b,_⟩:=hT;rcases h with (h | ⟨u,h⟩) | h
  .exact .inl (.inl (s4 _ _ (λz=>by rw [z,b] at h;cases h) (s3 _ _ h)))
  .exact .inl (.inr ⟨u,s4 _ _ (λz=>by rw [z,b] at h;cases h) (s3 _ _ h)⟩)
  exact .inr h
 have U7:∀{a xs},aF K H a xs->aF K H4 a xs:=λ{a xs} h=>by
  obtain⟨ps,b,_⟩:=hT;rcases h with (h | ⟨u,h⟩) | h
  .exact .inl (.inl (s4 _ _ (λz=>by rw [z,b] at h;cases h) (s3 _ _ h)))
  .exact .inl (.inr ⟨u,s4 _ _ (λz=>by rw [z,b] at h;cases h) (s3 _ _ h)⟩)
  exact .inr h
 have j0:GJ aa b (λ_=>none):=λz n e=>nomatch e;refine⟨R,rs,aa,d,fl,c',_,fV,[],[],λ_=>none,rfl,U7 hR,cT.keep λ_ _ z=>U6 z,bN,h8,EO,rfl,jr,d6 _,λ_=>rfl,Bk ZE _ j0,e4,W7,λmx Qs g' H5 s5 e5 k5 v5 st se Y0=>?_⟩;refine q d mx Qs g' H5 xN (λb o n hb=>s5 b o (λz=>?_) (s4 b o n (s3 b o hb))) (t4.K1 s5 EO) e5 k5 v5 (yQ ZE st j0) st se;rw [z,xN] at hb;cases hb
end
end eZ
namespace M11
open PySem L2
def D_ (b:Str->Bool) (zs:z0r) (i:Nat):z0s:=((List.range i).filter λj=>!(zs[j]?.elim true b)).map λj:Nat=>(j:Int)
def yS (b:Str->Bool) (zs:z0r) (i:Nat)(e:zs[i]?=some z):D_ b zs (i+1)=D_ b zs i++(if b z=true then [] else [(i:Int)]):=by
 unfold D_;rw [List.range_succ,i6,bA]
 congr 1
 by_cases h:b z=true
 .rw [aA h];simp [e,h]
 rw [az h];simp [e,h]
def Kl (b:Str->Bool) (zs:z0r) (i:Nat):(D_ b zs i).length<=i:=by
 unfold D_;rw [aC];have:=i8 (λj=>!(zs[j]?.elim true b)) (List.range i);rw [oP] at this;exact this
def JS (b:Str->Bool) (zs:z0r) (j:Nat):Bool:=decide ([]=D_ b zs zs.length) || decide ([(j:Int)]=D_ b zs zs.length)
def O2 (aa:113) (names:z0r)(b:Str->Bool)(n:Str) (k j:Nat):Prop:=∃ru z,aa[k]?=some ru/\ru.1=n/\ru.2[j]?=some z/\z∈names/\JS b ru.2 j=true
end M11
namespace L2
open PySem M11
def jm (p:Str×Addr):aR×V:=(Sum.inr p.1,.ref p.2)
theorem oi:∀(ps bG:140),((bG++ps).map 56).Nodup->cU ps bG=bG++ps
 | [],bG,_=>by simp [cU]
 | p::r,bG,h=>by
  have n:ba bG p.1=none:=by
   cases e:ba bG p.1 with
   | none=>rfl
   | some v =>
    have hm:=(eF bG p.1).mp (by rw [e];rfl);rw [bA,bC] at h;exact absurd rfl ((nj.mp h).2.2 p.1 hm p.1 cx)
  show cU r (bP bG p.1 p.2)=_;rw [yi p.2 n,oi r (bG++[(p.1,p.2)]) (by rw [iP];exact h),iP];rfl
theorem gG:∀(ps:z0f),(ps.map 56).Nodup->∀p∈ps,ba (ps.map jm) (Sum.inr p.1)=some (.ref p.2)
 | q::r,h,p,hp=>by
  rw [bC] at h ⊢;rcases aS.mp hp with z | z
  .rw [z];exact d8 rfl
  rw [d_,gG r (iO.mp h).2 p z];intro e;have e':q.1=p.1:=lO e;exact(iO.mp h).1 (by rw [e'];exact i7 z)
def nY (ps:z0f):(ps.map jm).map 56=(ps.map 56).map Sum.inr:=by
 rw [iN,iN];rfl
def tI {K:aV}{H:Hp}{p D:Addr}{zs:z0r}{σ:St}{x:Str}{Qp:Hp->Prop}(hp:aF K H p (zs.map V.str))(hz:zs.length<=10000)(hD:H D=none)
  (q:∀ts (ps:z0f) H2,aE H H2->H2 D=217->ps.map 56=zs->Paired (λt (p:Str×Addr)=>aZ K H2 t [.str p.1,.ref p.2]) ts ps->(∀p∈ps,H2 p.2=some 128/\H p.2=none/\p.2≠D)->(ps.map (·.2)).Nodup->Qp H2) :
  ∃W:Nat->Nat->115->148,(∃m,W 0 m [] (eI [x] [] σ) (upd H D 128)) /\
 ∀i m ys σ' H,W i m ys σ' H->((kF K p).stop i H/\Qp H)\/((kF K p).go i H/\∃m',m' < m/\∀x H',(kF K p).nu i H x H'->eA 0 x σ' H' λσ2 H2=>jc σ2 H2 λb H3 =>
  if b=true then ug (fZ (gw 0) (fZ (Ph qw) qw)) σ2 H3 248 else W (i+1) m' ys σ2 H3):=by
 refine bX (xs:=zs.map V.str) (λi ys σ2 H2=>∃(ts:z0o)(ps:z0f),ys=ts.map V.ref/\ts.length=i/\ps.map 56=zs.take i/\Paired (λt (p:Str×Addr)=>aZ K H2 t [.str p.1,.ref p.2]) ts ps /\
   (∀p∈ps,H2 p.2=some 128/\H p.2=none/\p.2≠D)/\(ps.map (·.2)).Nodup/\(∃y0,σ2=[y0])/\aE H H2/\H2 D=some (.lst ys))
  ⟨[],[],rfl,rfl,rfl,.nil,108,108,⟨none,rfl⟩,ah hD _,ae⟩ (λi ys σ2 H2 _ h=>?_) (λi x ys σ2 H2 ex h=>?_) (λys σ2 H2 h=>?_)
 .obtain⟨_,_,_,_,_,_,_,_,_,sm,_⟩:=h;exact sm.seq hp
 .obtain⟨ts,ps,rfl,ht,hm,xi,hl,hn,⟨y0,rfl⟩,sm,hd⟩:=h;rw [bB] at ex;obtain⟨z,ez,rfl⟩:=b9.mp ex;have li:=(bM.mp ez).1;refine goN (zF ?_);refine⟨_,rfl,oU,λl mH=>⟨lX,λt iL=>?_⟩⟩;have M8:l≠D:=(aq hd mH).symm;have nt:t≠l:=λe=>by rw [e,ae] at iL;cases iL
  have QE:H2 t=none:=by rw [aj nt] at iL;exact iL
  have ntD:t≠D:=(aq hd QE).symm;have uc:aE H2 (upd (upd H2 l 128) t (.tup [.str z,.ref l])):=(ah mH _).trans (ah iL _);have ir:=uc _ _ hd;have el:upd (upd H2 l 128) t (.tup [.str z,.ref l]) l=some 128:=by rw [aj nt.symm,ae]
  have et:aZ K (upd (upd H2 l 128) t (.tup [.str z,.ref l])) t [.str z,.ref l]:=aZ.of ae;generalize upd (upd H2 l 128) t (.tup [.str z,.ref l])=H4 at uc ir el et;refine⟨ir,210,ts++[t],ps++[(z,l)],by rw [bA];rfl,by rw [bO,ht];rfl,by rw [bA,hm,cM,ez];rfl,?_,?_,?_,159,?_,ae⟩
  .exact gA (Paired.ij xi λt' h' z=>aT ir (uc.tup z)) (aT ir et)
  .intro p' mF;rcases cK.mp mF with h | h
   .obtain⟨a1,a2,a3⟩:=hl p' h;exact⟨by rw [aj a3];exact uc _ _ a1,a2,a3⟩
   rw [bD.mp h];exact⟨by rw [aj M8];exact el,sm.free mH,M8⟩
  .rw [bA];refine nj.mpr ⟨hn,108,λa ha b hb e=>?_⟩;rw [oQ,bD] at hb;obtain⟨p',mF,rfl⟩:=cQ.mp ha;have:=(hl p' mF).1;rw [e,hb] at this;rw [show H2 l=none from mH] at this;cases this
  intro b o hb;rw [254];exact uc _ _ (sm b o hb)
 obtain⟨ts,ps,rfl,ht,hm,xi,hl,hn,_,sm,hd⟩:=h;rw [aC,dI] at hm;exact q ts ps H2 sm hd hm xi hl hn
def zf {K:aV}{H:Hp}{p D d:Addr}{zs:z0r}{kvs:140}{σ:St}{js:z0i}{Qp:Hp->Prop}(hσ:eI ["place","part"] js σ=[none,none,bc d])(hp:aZ K H p (zs.map V.str))(hz:zs.length<=1000)
  (hd:H d=184)(hD:H D=none)(q:∀H2,aE H H2->H2 D=some (.lst ((D_ (λz=>(ba kvs 145).isSome) zs zs.length).map V.int))->Qp H2) :
  ∃W:Nat->Nat->115->148,(∃m,W 0 m [] (eI ["place","part"] js σ) (upd H D 128)) /\
 ∀i m ys σ' H,W i m ys σ' H->((tW K p).stop i H/\Qp H)\/((tW K p).go i H/\∃m',m' < m/\∀x H',(tW K p).nu i H x H'->DY K 2 (ky (eA 0) (ky (eA 1) Hr)) x σ' H' λσ2 H2=>tB (BZ (gw 1) (gw 2)) σ2 H2 λb H3 =>
  if b=true then gw 0 σ2 H3 248 else W (i+1) m' ys σ2 H3):=by
 refine zg (xs:=zs.map V.str) (λi ys σ2 H2=>ys=(D_ (λz=>(ba kvs 145).isSome) zs i).map V.int/\(∃y0 y1,σ2=[y0,y1,bc d])/\aE H H2/\H2 D=some (.lst ys))
  ⟨rfl,⟨none,none,hσ⟩,ah hD _,ae⟩ (λi ys σ2 H2 _ h=>h.2.2.1.tup hp) (λi x ys σ2 H2 t ex h ht=>?_) (λys σ2 H2 h=>?_)
 .obtain⟨rfl,⟨y0,y1,rfl⟩,sm,hd2⟩:=h;rw [bB] at ex;obtain⟨z,ez,rfl⟩:=b9.mp ex;have li:=(bM.mp ez).1;have uc:=sm.trans (ah ht (.tup [163,.str z]));have ir:upd H2 t (.tup [163,.str z]) D=some (.lst ((D_ (λz=>(ba kvs 145).isSome) zs i).map V.int)):=by rw [aj (aq hd2 ht)];exact hd2
  have hv:aZ K (upd H2 t (.tup [163,.str z])) t [163,.str z]:=aZ.of ae;generalize upd H2 t (.tup [163,.str z])=H3 at uc ir hv;have fl:=Kl (λz=>(ba kvs 145).isSome) zs i;refine⟨t,_,rfl,hv,rfl,_,_,rfl,_,_,rfl,rfl,?_⟩;refine⟨_,rfl,_,rfl,d,_,rfl,cq.k (k:=127) (uc _ _ hd),_,rfl,?_⟩;refine cC (λc=>?_) (λc=>?_)
  .refine⟨_,rfl,ir,210,?_,⟨_,_,rfl⟩,?_,ae⟩
   .rw [yS _ zs i ez,az (λe=>by rw [e] at c;exact absurd c nofun),bA];rfl
   intro b o hb;rw [254];exact uc b o hb
  refine⟨?_,⟨_,_,rfl⟩,uc,ir⟩;rw [yS _ zs i ez,aA,eE];cases hq:(ba kvs 145).isSome with
  | true=>rfl
  | false=>exact absurd (by rw [hq];rfl) c
 obtain⟨rfl,_,sm,hd2⟩:=h;rw [aC] at hd2;exact q H2 sm hd2
end L2
namespace eZ
open PySem L2 M11
section
def wW {l:z0r}(h:l.Nodup):(l.map (Sum.inr:Str->aR)).Nodup:=List.Pairwise.map _ (λa b hab e=>hab (lO e)) h
structure ET (K:aV)(ps:z0f)(st:Str->z0g)(H:Hp)(d:Addr):Prop where
 hd:Rd H d (.dK (ps.map jm))
 n1:(ps.map 56).Nodup
 n2:(ps.map (·.2)).Nodup
 lst:∀p∈ps,∃ts,H p.2=217/\Paired (λt (e:Nat×Nat)=>aZ K H t [.int (e.1:Int),.int (e.2:Int)]) ts (st p.1)
def Rd.same {a:Addr}{u:HO}(h:Rd H a u)(s:aE H H'):Rd H' a u:=h.elim (λz=>.inl (s _ _ z)) λ⟨o,z⟩=>.inr ⟨o,s _ _ z⟩
theorem ET.same {ps:z0f}{st:Str->z0g}{d:Addr}(h:ET K ps st H d)(s:aE H H'):ET K ps st H' d :=
 ⟨Rd.same h.hd s,h.n1,h.n2,λp hp=>let ⟨ts,a,b⟩:=h.lst p hp;⟨ts,s _ _ a,Paired.ij b λ_ _ z=>s.tup z⟩⟩
def vy (st:Str->z0g)(n:Str)(e:Nat×Nat):Str->z0g:=λz=>if z=n then st z++[e] else st z
def ET.more {ps:z0f}{st:Str->z0g}{d:Addr}(h:ET K ps st H d){p:Str×Addr}(hp:p∈ps){ts:z0o}{t:Addr}{e:Nat×Nat}(a:H p.2=217)
  (b:Paired (λt (e:Nat×Nat)=>aZ K H t [.int (e.1:Int),.int (e.2:Int)]) ts (st p.1))(c:aZ K H t [.int (e.1:Int),.int (e.2:Int)]) :
  ET K ps (vy st p.1 e) (upd H p.2 (.lst (ts.map V.ref++[.ref t]))) d:=by
 have nd:d≠p.2:=λz=>by
  rcases h.hd with q | ⟨o,q⟩
  .rw [z,a] at q;cases q
  rw [z,a] at q;cases q
 refine⟨?_,h.n1,h.n2,λp' mF=>?_⟩
 .rcases h.hd with q | ⟨o,q⟩
  .exact .inl (by rw [aj nd];exact q)
  exact .inr ⟨o,by rw [aj nd];exact q⟩
 by_cases z:p'=p
 .rw [z];refine⟨ts++[t],by rw [ae,bA];rfl,?_⟩;have e1:vy st p.1 e p.1=st p.1++[e]:=aA rfl;rw [e1];exact gA (Paired.ij b λ_ _ z=>aT a z) (aT a c)
 have n1:p'.1≠p.1:=λq=>z (by
  have w1:=gG ps h.n1 p' mF;have w2:=gG ps h.n1 p hp;rw [q,w2] at w1;injection w1 with w3;injection w3 with w4;exact Prod.ext q w4.symm)
 have n2:p'.2≠p.2:=λq=>by
  obtain⟨i,hi,ei⟩:=pY.mp mF;obtain⟨j,hj,ej⟩:=pY.mp hp;have Iw:i=j:=by
   refine(rj (xs:=ps.map (·.2)) (h₀:=by simpa using hi) (h₁:=by simpa using hj) h.n2).mp ?_;rw [oM,oM,ei,ej];exact q
  subst Iw;exact z (ei.symm.trans ej)
 obtain⟨Yn,a',b'⟩:=h.lst p' mF;refine⟨Yn,by rw [aj n2];exact a',?_⟩;have e1:vy st p.1 e p'.1=st p'.1:=az n1;rw [e1];exact Paired.ij b' λ_ _ z=>aT a z
def Ca (K:aV):Sp:=λvs H Q _=>∃(R:Addr)(rs:z0o)(aa:113),vs=[.ref R]/\aF K H R 162/\bj K H rs aa/\aa.length<=1000/\250 /\
 ∀(d:Addr)(ps:z0f)(st:Str->z0g)(bo:z0h)(H':Hp),H d=none->aE H H'->H' d=some (.dK (ps.map jm))->ET K ps st H' d->ps.map 56=hd aa->(∀p∈ps,H p.2=none)->xI aa bo->zB aa aa.length bo ->
  (∀n k j,n∈hd aa->((k,j)∈st n↔O2 aa (hd aa) 266 n k j))->Q (.ref d) H'
def iQ:aJ ["rules","empty","steps","number","rule","place","part","filled"] ["rules"] (av Ao):=182
def Gq (F:iu K "steps_with_like_rows" "steps_with_like_rows" Ao f fd)(T:Txt mg)(GE:aL P w K mg base 1 "found_empties" ["rules"] (oZ K))(GH:aL P w K mg base 1 "heads_of" ["rules"] (kJ K)):bF P w K mg base fN 2 f fd ["rules"] (Ca K):=by
 refine F.ok iQ 186 195
 .obtain⟨R,rs,aa,rfl,_⟩:=h;rfl
 obtain⟨R,rs,aa,rfl,hR,cT,bN,h8,q⟩:=h;have hu:=fU hr;refine⟨_,ao (aD (i:=1) iQ.nd rfl (Or.inr rfl) (bh (d5 rfl) rfl T.xO fk (af (bU GE hr rfl (af (pv 0) ak)) ak)))
  (ao (aD (i:=2) iQ.nd rfl 116 (bh (d5 rfl) rfl T.xO fk (af
   (bV ["name"] [] rfl (bq (bU GH hr rfl (af (pv 0) ak))) (bH rfl rfl) nofun rfl nofun
    (λ_ _ _ _ _=>ay (i:=0) (show (["name"]:z0r).Nodup by decide +kernel) rfl 116) (λ_ _ _ _ _=>cJ)
    (λ_ _ _ _ _=>bJ (af (pv 0) (af (bu ak) ak)))) ak)))
  (ao (b_ cD rfl (nV rfl T.IB (af (pv 0) ak)) (e_ rfl (aI (ay (i:=3) iQ.nd rfl 116) (aI (ay (i:=4) iQ.nd rfl 116) cy)))
   (ao (ig (iy:=7) ["place","part"] [(1,"empty")] iQ.nd rfl rfl rfl (nU rfl T.IB (af (aO cz (pv 4) au 144) ak)) (bH rfl rfl) nofun rfl nofun
    (λ_ _ _ _ _=>iT (n:=2) K rfl (aI (ay (i:=0) (show (["place","part","empty"]:z0r).Nodup by decide +kernel) rfl 116) (aI (ay (i:=1) (show (["place","part","empty"]:z0r).Nodup by decide +kernel) rfl 116) cy)))
    (λ_ _ _ _ _=>gR (eK (dP hu (pv 1) (pv 2)))) (λ_ _ _ _ _=>pv 0))
   (ar (b_ cD rfl (nU rfl T.IB (af (aO cz (pv 4) au 144) ak)) (e_ rfl (aI (ay (i:=5) iQ.nd rfl 116) (aI (ay (i:=6) iQ.nd rfl 116) cy)))
    (ar (cR (PW.pt (gK (eK (mf hu (pv 6) (pv 2))) (gO (bf (Dr hu) (pv 7) (bJ (af (bu ak) (af (bu (af (pv 5) ak)) ak))) rfl))))
     (ar (cv (dY fY gE gF bR (eG hu (pv 2) (aO cz (pv 4) au 144) 144) (af (bJ (af (pv 3) (af (pv 5) ak))) ak)))) bL)))))
   )
  (ar (br (pv 2))))),?_⟩
 nofun
 have ll:=bT cT;refine⟨_,rfl,R,rs,aa,rfl,hR,cT,bN,h8,λD1 De bo H1 f1 s1 e1 w1 emp HB=>?_⟩;have Y2:Paired (λt (kv:aR×V)=>aZ K H1 t [kV kv.1,kv.2]) De (bo.map λp=>((Sum.inr p.1:aR),V.int (p.2:Int))):=cO w1 λ_ _ z=>z;refine⟨D1,De,_,rfl,e1,Y2,λe he=>?_⟩;have ekE:cU (bo.map λp=>((Sum.inr p.1:aR),V.int (p.2:Int))) []=bo.map λp=>((Sum.inr p.1:aR),V.int (p.2:Int)):=oi _ [] (by
  rw [mZ,iN];have:=wW emp.nd;rw [iN] at this;exact this)
 rw [ekE];have DG:∀z,(ba (bo.map λp=>((Sum.inr p.1:aR),V.int (p.2:Int))) 145).isSome=decide (z∈bo.map 56):=λz=>by
  rw [ib,eF,decide_eq_true_iff,iN];have:(bo.map λp:Str×Nat=>(Sum.inr p.1:aR))=(bo.map 56).map Sum.inr:=by rw [iN];rfl
  show _∈(bo.map λp:Str×Nat=>(Sum.inr p.1:aR))↔_;rw [this];exact cW
 generalize (bo.map λp=>((Sum.inr p.1:aR),V.int (p.2:Int)))=kE at DG ⊢;have s2:=s1.trans (ah he (.dK kE));have e2:upd H1 e (.dK kE) e=some (.dK kE):=ae;generalize upd H1 e (.dK kE)=H2 at s2 e2;refine⟨_,rfl,R,rs,aa,rfl,s2.seq hR,cT.same s2,bN,λD2 H3 f3 s3 e3=>?_⟩;have EM:=fw (aa.map 56) [];simp only [ix,aC] at EM;refine⟨D2,rfl,⟨_,aF.of e3⟩,λD3 Lx=>tI (aF.of e3) ∅ Lx λts ps H4 s4 e4 m4 p4 l4 n4=>?_⟩;have n1:(ps.map 56).Nodup:=by rw [m4];exact pJ _ jr
 have Ir:Paired (λt (kv:aR×V)=>aZ K H4 t [kV kv.1,kv.2]) ts (ps.map jm):=cO p4 λ_ _ z=>z;refine⟨D3,ts,_,rfl,e4,Ir,λd qD=>?_⟩;have Rp:cU (ps.map jm) []=ps.map jm:=oi _ [] (by
  rw [mZ,nY];exact wW n1)
 rw [Rp];have s5:=((s2.trans s3).trans s4).trans (ah qD (.dK (ps.map jm)));have Dj:=ah qD (.dK (ps.map jm));have e5:upd H4 d (.dK (ps.map jm)) d=some (.dK (ps.map jm)):=ae;have Ru:=Dj _ _ (s4 _ _ (s3 _ _ e2));have xN:H d=none:=((s2.trans s3).trans s4).free qD;have S5:ET K ps (λ_=>[]) (upd H4 d (.dK (ps.map jm))) d:=⟨.inl e5,n1,n4,λp hp=>⟨[],Dj _ _ (l4 p hp).1,.nil⟩⟩;have OR:∀p∈ps,H p.2=none:=λp hp=>(s2.trans s3).free (l4 p hp).2.1;generalize upd H4 d (.dK (ps.map jm))=H5 at s5 e5 Ru S5;clear Dj;have eb:(λz=>(ba kE 145).isSome)=λz=>decide (z∈bo.map 56):=funext DG;refine⟨_,rfl,R,_,rfl,s5.seq hR,?_⟩
 let BN:BO:=λi σ H6=>∃(st:Str->z0g)(y3 y4 y5 y6 y7:Option V),σ=[bc R,bc e,bc d,y3,y4,y5,y6,y7]/\aE H H6/\H6 e=some (.dK kE)/\H6 d=some (.dK (ps.map jm))/\ET K ps st H6 d /\
  (∀n,(st n).length<=8 * i)/\∀n k j,n∈hd aa->((k,j)∈st n↔k < i/\O2 aa (hd aa) 266 n k j)
 refine kC (xs:=143) BN
  ⟨λ_=>[],none,none,none,none,none,rfl,s5,Ru,e5,S5,108,108⟩ ?_ ?_ ?_
 .rintro i σ H6 _ ⟨st,y3,y4,y5,y6,y7,rfl,s6,_⟩;exact s6.seq hR
 .rintro i x σ H6 t ex ⟨st,y3,y4,y5,y6,y7,rfl,s6,N4,Ko,S6,l6,c6⟩ ht
  ac_nf0
  rw [bB] at ex;obtain⟨r,er,rfl⟩:=b9.mp ex;obtain⟨ru,sZ,p,v1,v2⟩:=cT.get er;have pF:=cf sZ;have Ly:=h8 ru pF;have li:=(bM.mp sZ).1;have Ik:=ah ht (.tup [163,.ref r]);have Lp:aZ K (upd H6 t (.tup [163,.ref r])) t [163,.ref r]:=aZ.of ae;have s7:=s6.trans Ik;have N3:=Ik _ _ N4;have ZW:=Ik _ _ Ko;have S7:=S6.same Ik;generalize upd H6 t (.tup [163,.ref r])=H7 at Lp s7 N3 ZW S7;refine⟨t,_,rfl,Lp,rfl,_,_,rfl,_,_,rfl,rfl,?_⟩;refine⟨_,rfl,r,_,_,_,rfl,rfl,s7.tup v1,rfl,p,_,rfl,s7.tup v2,λD5 OO=>zf rfl (s7.tup v2) ∅ N3 OO λH8 OA e8=>?_⟩;rw [eb] at e8;have s8:=s7.trans OA;have ee8:=OA _ _ N3;have ed8:=OA _ _ ZW;have S8:=S7.same OA;have nD5:∀p∈ps,p.2≠D5:=λp hp z=>by
   obtain⟨Yn,a,_⟩:=S7.lst p hp;rw [z,OO] at a;cases a
  obtain⟨pn,yP,zI⟩:∃pn∈ps,pn.1=ru.1:=by
   have:ru.1∈ps.map 56:=by rw [m4];exact(gT _ _ _).mpr (.inr (i7 pF))
   obtain⟨pn,a,b⟩:=cQ.mp this;exact⟨pn,a,b⟩
  refine⟨_,rfl,r,_,_,_,rfl,rfl,s8.tup v1,rfl,p,_,rfl,s8.tup v2,?_⟩
  let KG:BO:=λj σ H9=>∃(st:Str->z0g)(y5 y6:Option V),σ=[bc R,bc e,bc d,some (163),bc r,y5,y6,bc D5]/\aE H H9/\H9 e=some (.dK kE)/\H9 d=some (.dK (ps.map jm))/\ET K ps st H9 d /\
   H9 D5=some (.lst ((D_ 266 ru.2 ru.2.length).map V.int))/\(∀n,(st n).length<=8 * i+j)/\∀n k j',n∈hd aa->((k,j')∈st n↔(k < i\/(k=i/\j' < j))/\O2 aa (hd aa) 266 n k j')
  refine pH (xs:=ru.2.map V.str) KG
   ⟨st,_,_,rfl,s8,ee8,ed8,S8,e8,λn=>l6 n,λn k j' hn=>by rw [c6 n k j' hn];simp⟩ ?_ ?_ ?_
  .rintro j σ H9 _ ⟨st,y5,y6,rfl,s9,_⟩;exact s9.tup v2
  .rintro j x σ H9 t2 Hy ⟨st,y5,y6,rfl,s9,WZ,W6,S9,e9,l9,c9⟩ iL
   ac_nf0
   rw [bB] at Hy;obtain⟨z,ez,rfl⟩:=b9.mp Hy;have lj:=(bM.mp ez).1;have ye:=ah iL (.tup [.int (j:Int),.str z]);have G7:aZ K (upd H9 t2 (.tup [.int (j:Int),.str z])) t2 [.int (j:Int),.str z]:=aZ.of ae;have oC:=s9.trans ye;have xu:=ye _ _ WZ;have qH:=ye _ _ W6;have ER:=ye _ _ e9;have LU:=S9.same ye;generalize upd H9 t2 (.tup [.int (j:Int),.str z])=lN at G7 oC xu qH ER LU;have mem:(ba (ps.map jm) 145).isSome=true↔z∈hd aa:=by rw [eF,nY,m4];exact cW
   have gH:¬(z∈hd aa/\JS 266 ru.2 j=true)->∀n k j',n∈hd aa->((k,j')∈st n↔(k < i\/(k=i/\j' < j+1))/\O2 aa (hd aa) 266 n k j'):=λhn n k j' V3=>by
    rw [c9 n k j' V3];constructor
    .rintro⟨h1,h3⟩;exact⟨∅,h3⟩
    rintro⟨h1,h3⟩;refine⟨?_,h3⟩;by_cases c:k=i/\j'=j
    .obtain⟨Cq,z',a1,a2,a3,a4,a5⟩:=h3;rw [c.1,sZ] at a1;cases a1;rw [c.2] at a5;rw [c.2,ez] at a3;cases a3;exact absurd ⟨a4,a5⟩ hn
    omega
   have Y1:∀n,(st n).length<=8 * i+(j+1):=λn=>by have:=l9 n;omega
   refine⟨t2,_,rfl,G7,rfl,_,_,rfl,_,_,rfl,rfl,?_⟩;refine⟨_,rfl,_,rfl,d,_,rfl,cq.k (k:=127) qH,_,rfl,?_⟩;refine cC (λc=>?_) (λc=>?_)
   .have hz:=mem.mp c;refine⟨_,rfl,oU,λl1 OK=>?_⟩;have wI:=ah OK 128;have vi:upd lN l1 128 l1=some 128:=ae;have nl1:l1≠D5:=(aq ER OK).symm;generalize upd lN l1 128=ue at wI vi;refine⟨_,rfl,EJ,λl2 mH=>?_⟩;have K3:=ah mH (.lst [.int (j:Int)]);have LG:upd ue l2 (.lst [.int (j:Int)]) l2=some (.lst [.int (j:Int)]):=ae;have UY:l2≠D5:=(aq (wI _ _ ER) mH).symm;generalize upd ue l2 (.lst [.int (j:Int)])=xS at K3 LG;refine⟨lX,λt3 QE=>?_⟩;have Il:=ah QE (.tup [.ref l1,.ref l2]);have Z_:aZ K (upd xS t3 (.tup [.ref l1,.ref l2])) t3 [.ref l1,.ref l2]:=aZ.of ae;generalize upd xS t3 (.tup [.ref l1,.ref l2])=BQ at Il Z_;have qx:=(wI.trans K3).trans Il;refine⟨t3,D5,l1,l2,_,[],[(j:Int)],rfl,rfl,Z_,aF.of (qx _ _ ER),aF.of (Il _ _ (K3 _ _ vi)),aF.of (Il _ _ LG),nl1,UY,_,rfl,?_⟩;have HY:=LU.same qx;have MI:=oC.trans qx;refine cC (λc2=>?_) (λc2=>?_)
    .obtain⟨Yl,an,bn⟩:=HY.lst pn yP;have vn:=gG ps n1 pn yP;rw [zI] at vn;have hg:cq BQ d (.str ru.1) (some (.ref pn.2)):=by
      have:=cq.k (k:=Sum.inr ru.1) (qx _ _ qH);rw [vn] at this;exact this
     have ltn:=bT bn;have l9n:=l9 pn.1;refine⟨_,rfl,_,rfl,r,_,_,_,rfl,rfl,MI.tup v1,rfl,d,_,rfl,hg,.inl ⟨rfl,_,aF.of an⟩,_,rfl,_,rfl,lX,λt4 DR=>?_⟩;have AA:=ah DR (.tup [163,.int (j:Int)]);have Z9:aZ K (upd BQ t4 (.tup [163,.int (j:Int)])) t4 [163,.int (j:Int)]:=aZ.of ae;generalize upd BQ t4 (.tup [163,.int (j:Int)])=H14 at AA Z9;have RQ:=HY.same AA;have Kw:=AA _ _ an;have Xp:=Paired.ij bn λt' (e':Nat×Nat)(z:aZ K BQ t' [.int (e'.1:Int),.int (e'.2:Int)])=>AA.tup z;refine⟨pn.2,_,_,rfl,rfl,Kw,210,?_⟩;have XX:=RQ.more (e:=(i,j)) yP Kw Xp Z9;have ne1:e≠pn.2:=λz=>by have:=AA _ _ (qx _ _ xu);rw [z,Kw] at this;cases this
     have ne2:d≠pn.2:=λz=>by have:=AA _ _ (qx _ _ qH);rw [z,Kw] at this;cases this
     refine⟨vy st pn.1 (i,j),_,_,rfl,λb o hb=>?_,by rw [aj ne1];exact AA _ _ (qx _ _ xu),by rw [aj ne2];exact AA _ _ (qx _ _ qH),XX,by rw [aj (nD5 pn yP).symm];exact AA _ _ (qx _ _ ER),λn=>?_,λn k j' V3=>?_⟩
     .rw [aj (λz=>by rw [z,OR pn yP] at hb;cases hb)];exact AA _ _ (MI b o hb)
     .have:=l9 n;unfold vy
      split
      .rw [bO];simp;omega
      omega
     have hit:O2 aa (hd aa) 266 ru.1 i j:=⟨ru,z,sZ,rfl,ez,hz,c2⟩;have LO:=c9 n k j' V3;unfold vy;by_cases cn:n=pn.1
     .rw [aA cn,cK,bD,LO];constructor
      .rintro(⟨h1,h3⟩ | h1)
       .exact⟨∅,h3⟩
       cases h1;exact⟨∅,by rw [cn,zI];exact hit⟩
      rintro⟨h1,h3⟩;by_cases cc:k=i/\j'=j
      .exact .inr (by rw [cc.1,cc.2])
      exact .inl ⟨∅,h3⟩
     rw [az cn,LO];constructor
     .rintro⟨h1,h3⟩;exact⟨∅,h3⟩
     rintro⟨h1,h3⟩;refine⟨?_,h3⟩;by_cases cc:k=i/\j'=j
     .obtain⟨Cq,z',a1,a2,_⟩:=h3;rw [cc.1,sZ] at a1;cases a1;exact absurd (a2.symm.trans zI.symm) cn
     omega
    exact⟨st,_,_,rfl,MI,qx _ _ xu,qx _ _ qH,HY,qx _ _ ER,Y1,gH λ⟨_,h⟩=>c2 h⟩
   exact⟨st,_,_,rfl,oC,xu,qH,LU,ER,Y1,gH λ⟨h,_⟩=>c (mem.mpr h)⟩
  rintro σ H9 ⟨st,y5,y6,rfl,s9,WZ,W6,S9,e9,l9,c9⟩;rw [aC] at l9 c9;refine⟨st,_,_,_,_,_,rfl,s9,WZ,W6,S9,λn=>?_,λn k j' hn=>?_⟩
  .have:=l9 n;omega
  rw [c9 n k j' hn];constructor
  .rintro⟨h1 | ⟨h1,h2⟩,h3⟩
   .exact⟨∅,h3⟩
   exact⟨∅,h3⟩
  rintro⟨h1,h3⟩;refine⟨?_,h3⟩;by_cases c:k < i
  .exact .inl c
  refine .inr ⟨∅,?_⟩;obtain⟨Cq,z',a1,_,a3,_⟩:=h3;have:k=i:=by omega
  rw [this,sZ] at a1;cases a1;exact(bM.mp a3).1
 rintro σ H6 ⟨st,y3,y4,y5,y6,y7,rfl,s6,N4,Ko,S6,l6,c6⟩;rw [aC,ll] at c6;refine⟨_,rfl,q d ps st bo H6 xN s6 Ko S6 m4 OR emp HB λn k j hn=>?_⟩;rw [c6 n k j hn];constructor
 .exact λh=>h.2
 intro h;obtain⟨Cq,_,a1,_⟩:=id h;exact⟨(bM.mp a1).1,h⟩
end
end eZ
namespace L2
open PySem
def cq.r {a:Addr}{k:aR}(e:Rd H a (.dK kvs)):cq H a (kV k) (ba kvs k):=.inl ⟨kvs,k,e,rfl,rfl⟩
end L2
namespace eZ
open PySem L2 M11
section
def Down (aa:113) (names:z0r)(st:Str->z0g)(rk:Str->Nat):Prop:=∀n∈names,∀e∈st n,∃ru z,aa[e.1]?=some ru/\ru.2[e.2]?=some z/\z∈names/\rk z < rk n
def KY (K:aV):Sp:=λvs H Q _=>∃(R d:Addr)(rs:z0o)(aa:113)(ps:z0f)(st:Str->z0g)(name:Str)(rk:Str->Nat),vs=[.ref R,.ref d,.str name]/\aF K H R 162/\bj K H rs aa/\aa.length<=1000 /\
 ET K ps st H d/\ps.length<=1000/\name∈ps.map 56/\Down aa (ps.map 56) st rk/\∀(D:Addr)(H':Hp),H D=none->aE H H'->H' D=some 128->Q (.ref D) H'
structure Kz (K:aV) (names:z0r)(rk:Str->Nat)(name:Str)(H H5:Hp)(D m:Addr)(oB:z0o)(j9:z0f) (ms:z0r)(kvs:140):Prop where
 sm:aE H H5
 hD:H5 D=some (.lst (oB.map V.ref))
 hm:H5 m=184
 keys:kvs.map 56=ms.map Sum.inr
 nd:ms.Nodup
 sub:∀x∈ms,x∈names
 wl:j9.length=ms.length+1
 wv:Paired (λt (e:Str×Addr)=>aZ K H5 t [.str e.1,.ref e.2]) oB j9
 we:∀e∈j9,e.1∈names/\rk e.1<=rk name/\∃xs,H5 e.2=some (.lst xs)/\xs.length<=j9.length/\e.2≠D
def Kz.len {names:z0r}{D m:Addr}{oB:z0o}{j9:z0f}{ms:z0r}{kvs:140}(h:Kz K names rk name H H5 D m oB j9 ms kvs):oB.length=j9.length/\kvs.length=ms.length/\ms.length<=names.length:=by
 refine⟨bT h.wv,?_,gL _ _ h.nd h.sub⟩;have:=congrArg List.length h.keys;simpa using this
def Kz.more {D m t c:Addr}{oB:z0o}{j9:z0f}{xs:115}(h:Kz K names rk name H H5 D m oB j9 ms kvs)(fD:H D=none)(fm:H m=none)
  (hz:z∈names)(hr:rk z<=rk name)(hn:z∉ms)(s:aE (upd H5 m (.dK (bP kvs 145 (.bl true)))) H9)(ht:aZ K H9 t [.str z,.ref c])(hc:H9 c=some (.lst xs))(hx:xs.length<=j9.length+1)(nc:c≠D) :
  Kz K names rk name H (upd H9 D (.lst (oB.map V.ref++[.ref t]))) D m (oB++[t]) (j9++[(z,c)]) (ms++[z]) (bP kvs 145 (.bl true)):=by
 have Sm:D≠m:=λe=>by have:=h.hD;rw [e,h.hm] at this;cases this
 have Lw:H9 D=some (.lst (oB.map V.ref)):=s _ _ (by rw [aj Sm];exact h.hD);have hm9:H9 m=some (.dK (bP kvs 145 (.bl true))):=s _ _ ae;refine⟨λb o hb=>?_,by rw [ae,bA];rfl,by rw [aj Sm.symm];exact hm9,?_,?_,?_,?_,?_,?_⟩
 .rw [aj (λe=>by rw [e,fD] at hb;cases hb)];exact s _ _ (by rw [aj (λe=>by rw [e,fm] at hb;cases hb)];exact h.sm b o hb)
 .rw [iR (by rw [h.keys];exact λe=>hn (cW.mp e)),h.keys,bA];rfl
 .refine nj.mpr ⟨h.nd,108,λa ha b hb e=>?_⟩;rw [bD.mp hb] at e;exact hn (e ▸ ha)
 .intro x VE;rcases cK.mp VE with e | e
  .exact h.sub x e
  rw [bD.mp e];exact hz
 .rw [bO,bO,h.wl];rfl
 .exact gA (Paired.ij h.wv λ_ _ e=>aT Lw (s.tup (gY h.hm e))) (aT Lw ht)
 intro e he;rw [bO];rcases cK.mp he with e' | e'
 .obtain⟨a,b,ys,c1,d1,n1⟩:=h.we e e';exact⟨a,b,ys,by rw [aj n1];exact s _ _ (by rw [aj (λq=>by rw [q,h.hm] at c1;cases c1)];exact c1),∅,n1⟩
 rw [bD.mp e'];exact⟨hz,hr,xs,by rw [aj nc];exact hc,hx,nc⟩
def nE:aJ ["rules","steps","name","ways","met","at","way","number","place","part"] ["rules","steps","name"] (av Mz):=182
def M0 (F:iu K "way_back" "way_back" Mz f fd)(T:Txt mg):bF P w K mg base fN 1 f fd ["rules","steps","name"] (KY K):=by
 refine F.ok nE 186 195
 .obtain⟨R,d,rs,aa,ps,st,name,rk,rfl,_⟩:=h;rfl
 obtain⟨R,d,rs,aa,ps,st,name,rk,rfl,hR,cT,bN,S,n6,G_,Kf,q⟩:=h;have hu:=fU hr;refine⟨_,ao (aD (i:=3) nE.nd rfl 116 (bu (af (bJ (af (pv 2) (af (bu ak) ak))) ak)))
  (ao (aD (i:=4) nE.nd rfl 116 fg)
  (ao (aD (i:=5) nE.nd rfl 116 au)
  (ao (iE cD (bf qi (pv 5) (aM cA rfl T.len h_ (af (pv 3) ak)) (bz _))
   (ao (aD (i:=6) nE.nd rfl 116 (aO cz (aO aQ (pv 3) (pv 5) 144) au 144))
   (ao (b_ cD rfl (bq (eG hu (pv 1) (aO cz (aO aQ (pv 3) (pv 5) 144) au 144) 144)) (e_ rfl (aI (ay (i:=7) nE.nd rfl 116) (aI (ay (i:=8) nE.nd rfl 116) cy)))
    (ao (aD (i:=9) nE.nd rfl 116 (aO cz (aO cz (aO aQ (pv 0) (pv 7) 144) au 144) (pv 8) 144))
    (ao (cR (bf qj (pv 9) (pv 2) (bz _)) (ar gh) bL)
    (ar (cR (eK (dP hu (pv 9) (pv 4)))
     (ao (gP hu (pv 4) (pv 9) eO rfl) (ar (cv (dY fY gE gF bR (pv 3) (af (bJ (af (pv 9) (af (aU pA (pv 6) (bu (af (bJ (af (pv 7) (af (pv 8) ak))) ak))) ak))) ak))))) bL)))))
   (ar (FZ (i:=5) nE.nd rfl 116 au G6)))))
  (ar (br (bu ak)))))),?_⟩
 nofun
 have mE:(ps.map 56).length=ps.length:=aC _;refine⟨_,rfl,oU,λl0 SE=>?_⟩;have s1:=ah SE 128;have e1:upd H l0 128 l0=some 128:=ae;generalize upd H l0 128=H1 at s1 e1;refine⟨lX,λt0 ht0=>?_⟩;have s2:=ah ht0 (.tup [.str name,.ref l0]);have e2:aZ K (upd H1 t0 (.tup [.str name,.ref l0])) t0 [.str name,.ref l0]:=aZ.of ae;generalize upd H1 t0 (.tup [.str name,.ref l0])=H2 at s2 e2;refine⟨EJ,λD hD=>?_⟩;have s3:=ah hD (.lst [.ref t0]);have e3:upd H2 D (.lst [.ref t0]) D=some (.lst ([t0].map V.ref)):=ae;have nl0:l0≠D:=aq (s2 _ _ e1) hD;generalize upd H2 D (.lst [.ref t0])=H3 at s3 e3;intro m hm;have s4:=ah hm (.dK []);have e4:upd H3 m (.dK []) m=some (.dK []):=ae;generalize upd H3 m (.dK [])=H4 at s4 e4;have fD:H D=none:=(s1.trans s2).free hD;have fm:H m=none:=((s1.trans s2).trans s3).free hm;have W0:Kz K (ps.map 56) rk name H H4 D m [t0] [(name,l0)] [] []:=⟨((s1.trans s2).trans s3).trans s4,s4 _ _ e3,e4,rfl,jr,108,rfl,.cons ((s3.trans s4).tup e2) .nil,λe he=>by
  rw [bD.mp he];exact⟨G_,aG _,[],s4 _ _ (s3 _ _ (s2 _ _ e1)),108,nl0⟩⟩
 refine⟨λmm σ H5=>∃(oB:z0o)(j9:z0f) (ms:z0r)(kvs:140) (at_:Nat)(y6 y7 y8 y9:Option V),σ=[bc R,bc d,some (.str name),bc D,bc m,some (.int (at_:Int)),y6,y7,y8,y9]/\Kz K (ps.map 56) rk name H H5 D m oB j9 ms kvs /\
  at_<=j9.length/\mm=1002 - at_,⟨1002,[t0],[(name,l0)],[],[],0,none,none,none,none,rfl,W0,108,rfl⟩,?_⟩
 rintro mm σ H5 ⟨oB,j9,ms,kvs,at_,y6,y7,y8,y9,rfl,W,Hk,rfl⟩;obtain⟨lw,lk,lm⟩:=W.len;have aac:=W.wl;refine⟨_,rfl,_,rfl,D,_,rfl,.inl (aF.of W.hD),_,_,rfl,rfl,_,rfl,?_⟩;refine cC (λc=>?_) (λc=>?_)
 .have c':=dJ c;rw [aC,lw] at c';have iM:at_ < j9.length:=by omega
  obtain⟨n,l,en⟩:∃n l,j9[at_]?=some (n,l):=⟨(j9[at_]).1,(j9[at_]).2,cN iM⟩;obtain⟨t1,et1,Y9⟩:=Paired.at_ W.wv at_ (n,l) en;have IF:lK (oB.map V.ref) (at_:Int)=some (.ref t1):=cS (by rw [bB,et1];rfl);obtain⟨hn,hrn,xs,hl,hxl,M8⟩:=W.we (n,l) (cf en);dsimp only at hn hrn hl M8;obtain⟨pn,yP,zI⟩:=cQ.mp hn;have vn:=gG ps S.n1 pn yP;rw [zI] at vn;obtain⟨Yl,an,bn⟩:=S.lst pn yP;rw [zI] at bn;refine⟨λσ H5=>∃(oB:z0o)(j9:z0f) (ms:z0r)(kvs:140)(y6 y7 y8 y9:Option V),σ=[bc R,bc d,some (.str name),bc D,bc m,some (.int ((at_+1:Nat):Int)),y6,y7,y8,y9]/\Kz K (ps.map 56) rk name H H5 D m oB j9 ms kvs/\at_+1<=j9.length,?_,?_⟩
  .rintro σ H6 ⟨oB,j9,ms,kvs,y6,y7,y8,y9,rfl,W2,h2⟩;exact⟨1002 - (at_+1),∅,oB,j9,ms,kvs,at_+1,_,_,_,_,rfl,W2,h2,rfl⟩
  refine⟨_,rfl,_,rfl,D,_,_,_,rfl,rfl,aF.of W.hD,IF,t1,_,_,_,rfl,rfl,Y9,rfl,?_⟩;have hg:cq H5 d (.str n) (some (.ref pn.2)):=by
   have:=cq.r (k:=Sum.inr n) (Rd.same S.hd W.sm);rw [vn] at this;exact this
  refine⟨_,rfl,_,rfl,_,rfl,D,_,_,_,rfl,rfl,aF.of W.hD,IF,t1,_,_,_,rfl,rfl,Y9,rfl,d,_,rfl,hg,pn.2,rfl,⟨_,aF.of (W.sm _ _ an)⟩,?_⟩
  let BN:BO:=λi σ H6=>∃(oB:z0o)(j9:z0f) (ms:z0r)(kvs:140)(y7 y8 y9:Option V),σ=[bc R,bc d,some (.str name),bc D,bc m,some (.int (at_:Int)),bc l,y7,y8,y9]/\Kz K (ps.map 56) rk name H H6 D m oB j9 ms kvs /\
   at_+1<=j9.length/\∃e∈j9,e.2=l
  refine du (xs:=Yl.map V.ref) BN ⟨oB,j9,ms,kvs,_,_,_,rfl,W,iM,(n,l),cf en,rfl⟩ ?_ ?_ ?_
  .rintro i σ H6 _ ⟨oB,j9,ms,kvs,y7,y8,y9,rfl,W2,_⟩;exact aF.of (W2.sm _ _ an)
  .rintro i x σ H6 ex ⟨oB,j9,ms,kvs,y7,y8,y9,rfl,W2,h2,e0,Wk,W3⟩
   ac_nf0
   rw [bB] at ex;obtain⟨ti,ZL,rfl⟩:=b9.mp ex;have lbn:=bT bn;have lti:=(bM.mp ZL).1;obtain⟨⟨k,j⟩,ZT⟩:∃e,(st n)[i]?=some e:=⟨(st n)[i]'∅,cN ∅⟩;obtain⟨ti',Ro,hti⟩:=Paired.at_ bn i (k,j) ZT;rw [ZL] at Ro;cases Ro;obtain⟨ru,z,er,ez,hz,hrk⟩:=Kf n hn (k,j) (cf ZT);obtain⟨r,OT,p,v1,v2⟩:=Paired.at_ cT k ru er;have atr:lK 162 (k:Int)=some (.ref r):=cS (by rw [bB,OT];rfl);have XF:lK (ru.2.map V.str) (j:Int)=some (.str z):=cS (by rw [bB,ez];rfl);obtain⟨lw2,Sq,lm2⟩:=W2.len;have YV:=W2.wl;refine⟨ti,_,rfl,W2.sm.tup hti,rfl,_,_,rfl,_,_,rfl,rfl,?_⟩;refine⟨_,rfl,_,rfl,R,_,_,_,rfl,rfl,W2.sm.seq hR,atr,r,_,_,_,rfl,rfl,W2.sm.tup v1,rfl,_,rfl,p,_,_,_,rfl,rfl,W2.sm.tup v2,XF,?_⟩;refine⟨_,rfl,_,rfl,rfl,_,rfl,?_⟩;have nz:z≠name:=λe=>by rw [e] at hrk;omega
   refine cC (λc=>absurd (dJ c) (λe=>nz (by injection e))) (λ_=>?_);have mem:(ba kvs 145).isSome=true↔z∈ms:=by rw [eF,W2.keys];exact cW
   refine⟨_,rfl,_,rfl,m,_,rfl,cq.k (k:=127) W2.hm,_,rfl,?_⟩;refine cC (λc=>?_) (λc=>?_)
   .have nm:z∉ms:=λh=>by rw [mem.mpr h] at c;exact absurd c nofun
    refine⟨_,rfl,_,rfl,m,_,rfl,pP.k (k:=127) W2.hm (bx ∅),?_⟩;obtain⟨_,_,IM,mH,aah,UY⟩:=W2.we e0 Wk;rw [W3] at mH UY;have Sm:D≠m:=λe=>by have:=W2.hD;rw [e,W2.hm] at this;cases this
    have nlm:l≠m:=λe=>by rw [e,W2.hm] at mH;cases mH
    have NL:upd H6 m (.dK (bP kvs 145 (.bl true))) D=some (.lst (oB.map V.ref)):=by rw [aj Sm];exact W2.hD
    have hlu:upd H6 m (.dK (bP kvs 145 (.bl true))) l=some (.lst IM):=by rw [aj nlm];exact mH
    refine⟨_,rfl,.inl ⟨rfl,_,aF.of NL⟩,_,rfl,_,rfl,_,rfl,_,rfl,lX,λt4 DR=>?_⟩;have Yy:=ah DR (.tup [.int (k:Int),.int (j:Int)]);generalize upd (upd H6 m (.dK (bP kvs 145 (.bl true)))) t4 (.tup [.int (k:Int),.int (j:Int)])=H7 at Yy;refine⟨EJ,λl4 V9=>?_⟩;have Yx:=ah V9 (.lst [.ref t4]);have Z7:upd H7 l4 (.lst [.ref t4]) l4=some (.lst [.ref t4]):=ae;generalize upd H7 l4 (.lst [.ref t4])=H8 at Yx Z7;have Uk:=Yy.trans Yx;refine⟨l,l4,IM,[.ref t4],rfl,rfl,Uk _ _ hlu,Z7,fits (by simp;omega),λc0 Q_=>?_⟩;have Yw:=ah Q_ (.lst (IM++[.ref t4]));have Z6:upd H8 c0 (.lst (IM++[.ref t4])) c0=some (.lst (IM++[.ref t4])):=ae;have nc0:c0≠D:=(aq (Uk _ _ NL) Q_).symm;generalize upd H8 c0 (.lst (IM++[.ref t4]))=H9 at Yw Z6;refine⟨lX,λt5 Lq=>?_⟩;have Uj:=ah Lq (.tup [.str z,.ref c0]);have Z5:aZ K (upd H9 t5 (.tup [.str z,.ref c0])) t5 [.str z,.ref c0]:=aZ.of ae;generalize upd H9 t5 (.tup [.str z,.ref c0])=lN at Uj Z5;have sA:=(Uk.trans Yw).trans Uj;refine⟨D,_,_,rfl,rfl,sA _ _ NL,210,?_⟩;exact⟨oB++[t5],j9++[(z,c0)],ms++[z],_,_,_,_,rfl,W2.more fD fm hz ∅ nm sA Z5 (Uj _ _ Z6) (by rw [bO];simp;omega) nc0,by rw [bO];omega,e0,jX _ Wk,W3⟩
   exact⟨oB,j9,ms,kvs,_,_,_,rfl,W2,h2,e0,Wk,W3⟩
  rintro σ H6 ⟨oB,j9,ms,kvs,y7,y8,y9,rfl,W2,h2,_⟩;exact⟨_,rfl,_,_,rfl,rfl,oB,j9,ms,kvs,_,_,_,_,rfl,W2,h2⟩
 refine⟨oU,λD9 Lw=>q D9 _ (W.sm.free Lw) (W.sm.trans (ah Lw _)) ae⟩
end
end eZ
namespace L2
open PySem
def Eh {K:aV}{H:Hp}{p D:Addr}{ls:z0o}{σ:St}{x:Str}{Qp:Hp->Prop}(hp:H p=some (.lst (ls.map V.ref)))(hl:∀l∈ls,H l=some 128)(hD:H D=none)(q:∀H2,aE H H2->H2 D=some 128->Qp H2) :
  ∃W:Nat->Nat->115->148,(∃m,W 0 m [] (eI [x] [] σ) (upd H D 128)) /\
 ∀i m ys σ' H,W i m ys σ' H->((kF K p).stop i H/\Qp H)\/((kF K p).go i H/\∃m',m' < m/\∀x H',(kF K p).nu i H x H'->eA 0 x σ' H' λσ2 H2=>gw 0 σ2 H2 λx H'=>∃k,EA K x H' k/\(λb H3 =>
  if b=true then gw 0 σ2 H3 248 else W (i+1) m' ys σ2 H3) k H'):=by
 refine bX (tif:=λσ H Q=>gw 0 σ H λx H'=>∃k,EA K x H' k/\Q k H') (xs:=ls.map V.ref) (λi ys σ2 H5=>ys=[]/\(∃y0,σ2=[y0])/\aE H H5/\H5 D=some 128) ⟨rfl,⟨none,rfl⟩,ah hD _,ae⟩ (λi ys σ2 H5 _ h=>aF.of (h.2.2.1 _ _ hp)) (λi x ys σ2 H5 ex h=>?_) (λys σ2 H5 h=>?_)
 .obtain⟨rfl,⟨y0,rfl⟩,s5,e5⟩:=h;rw [bB] at ex;obtain⟨l,el,rfl⟩:=b9.mp ex;refine goN ?_;refine⟨_,rfl,false,.inl ⟨[],aF.of (s5 _ _ (hl l (cf el))),rfl⟩,?_⟩;refine gy ?_;exact⟨rfl,159,s5,e5⟩
 obtain⟨rfl,_,s5,e5⟩:=h;exact q H5 s5 e5
end L2
namespace eZ
open PySem L2 M11
section
def BM (aa:113)(rk:Str->Nat):Prop:=∀bo,xI aa bo->zB aa aa.length bo->∀n k j,O2 aa (hd aa) 266 n k j->∀ru z,aa[k]?=some ru->ru.2[j]?=some z->rk z < rk n
def Fn (K:aV):Sp:=λvs H Q _=>∃(R:Addr)(rs:z0o)(aa:113)(rk:Str->Nat),vs=[.ref R]/\aF K H R 162/\bj K H rs aa/\aa.length<=1000/\250/\BM aa rk /\
 ∀(D:Addr)(H':Hp),H D=none->aE H H'->H' D=some 128->Q (.ref D) H'
def Ak:aJ ["rules","steps","loops"] ["rules"] (av FC):=182
def JG (F:iu K "find_loop" "find_loop" FC f fd)(T:Txt mg)(GS:aL P w K mg base 2 "steps_with_like_rows" ["rules"] (Ca K))(GW:aL P w K mg base 1 "way_back" ["rules","steps","name"] (KY K)):bF P w K mg base fN 3 f fd ["rules"] (Fn K):=by
 refine F.ok Ak 186 195
 .obtain⟨R,rs,aa,rk,rfl,_⟩:=h;rfl
 obtain⟨R,rs,aa,rk,rfl,hR,cT,bN,h8,hnl,q⟩:=h;refine⟨_,ao (aD (i:=1) Ak.nd rfl (Or.inr rfl) (bU GS hr rfl (af (pv 0) ak)))
  (ao (ig (iy:=2) ["name"] [(0,"rules"),(1,"steps")] Ak.nd rfl rfl rfl (Cu (pv 1)) (bH rfl rfl) nofun rfl nofun
   (λ_ _ _ _ _=>ay (i:=0) (show (["name","rules","steps"]:z0r).Nodup by decide +kernel) rfl 116) (λ_ _ _ _ _=>cJ)
   (λ_ _ _ _ _=>bU (GW.mono (by decide:1<=2)) hr rfl (af (pv 1) (af (pv 2) (af (pv 0) ak)))))
  (ar (br (Jv rfl rfl T.min rfl T.len (af (bV ["loop"] [] rfl (bq (pv 2)) (bH rfl rfl) nofun rfl nofun
   (λ_ _ _ _ _=>ay (i:=0) (show (["loop"]:z0r).Nodup by decide +kernel) rfl 116) (λ_ _ _ _ _=>gR (uT K (pv 0) (λ_=>rfl))) (λ_ _ _ _ _=>pv 0)) ak) (bu ak))))),?_⟩
 nofun
 refine⟨_,rfl,R,rs,aa,rfl,hR,cT,bN,h8,λd ps st bo H1 fd1 s1 e1 S1 m1 OR emp HB hits=>?_⟩;have YY:ps.length<=1000:=by
  have h1:=congrArg List.length m1;have h2:=fw (aa.map 56) [];simp only [ix,aC] at h2;rw [aC] at h1;have h3:(hd aa).length=(qU [] (aa.map 56)).length:=rfl;omega
 have Kf:Down aa (ps.map 56) st rk:=λn hn e he=>by
  rw [m1] at hn ⊢;have hit:=(hits n e.1 e.2 hn).mp he;obtain⟨ru,z,er,_,ez,hz,_⟩:=id hit;exact⟨ru,z,er,ez,hz,hnl bo emp HB n e.1 e.2 hit ru z er ez⟩
 refine⟨_,rfl,d,_,rfl,e1,λo D hD=>?_⟩;have UR:∀p∈ps,p.2≠d:=λp hp z=>by
  obtain⟨ts,a,_⟩:=S1.lst p hp;rw [z,e1] at a;cases a
 have s2:aE H (upd H1 d (.kT o (.dK (ps.map jm)))):=λb u hb=>by
  rw [aj (λz=>by rw [z,fd1] at hb;cases hb)];exact s1 b u hb
 have S2:ET K ps st (upd H1 d (.kT o (.dK (ps.map jm)))) d:=⟨.inr ⟨o,ae⟩,S1.n1,S1.n2,λp hp=>by
  obtain⟨ts,a,b⟩:=S1.lst p hp;exact⟨ts,by rw [aj (UR p hp)];exact a,Paired.ij b λ_ _ z=>gY e1 z⟩⟩
 have e2:upd H1 d (.kT o (.dK (ps.map jm))) d=some (.kT o (.dK (ps.map jm))):=ae;generalize upd H1 d (.kT o (.dK (ps.map jm)))=H2 at hD s2 S2 e2 ⊢;refine tJ (λi ys σ2 H3=>∃ls:z0o,ys=ls.map V.ref/\ls.length=i/\(∀l∈ls,H3 l=some 128/\l≠D)/\(∃y0,σ2=[y0,bc R,bc d])/\aE H2 H3/\H3 D=some (.lst ys))
  ⟨[],rfl,rfl,108,⟨none,rfl⟩,ah hD _,ae⟩ (λi ys σ2 H3 _ h=>?_) (λi kv ys σ2 H3 ex h=>?_) (λys σ2 H3 h=>?_)
 .obtain⟨_,_,_,_,_,sm,_⟩:=h;exact sm _ _ e2
 .obtain⟨ls,rfl,Zg,hl,⟨y0,rfl⟩,sm,ir⟩:=h;rw [bB] at ex;obtain⟨p,ep,rfl⟩:=b9.mp ex;have hp:=cf ep;have li:=(bM.mp ep).1;refine goN (zF ?_);have s3:=s2.trans sm;refine⟨_,rfl,_,rfl,_,rfl,R,d,rs,aa,ps,st,p.1,rk,rfl,s3.seq hR,cT.same s3,bN,S2.same sm,YY,i7 hp,Kf,λD4 H4 f4 s4 e4=>?_⟩;have EO:=s4 _ _ ir;have YT:D4≠D:=λz=>by rw [z,ir] at f4;cases f4
  refine⟨EO,210,ls++[D4],by rw [bA];rfl,by rw [bO,Zg];rfl,λl V_=>?_,159,λb u hb=>?_,ae⟩
  .rcases cK.mp V_ with h | h
   .obtain⟨a1,a2⟩:=hl l h;exact⟨by rw [aj a2];exact s4 _ _ a1,a2⟩
   rw [bD.mp h];exact⟨by rw [aj YT];exact e4,YT⟩
  rw [254];exact s4 _ _ (sm b u hb)
 obtain⟨ls,rfl,Zg,hl,_,sm,ir⟩:=h;have s3:=s2.trans sm;refine⟨_,rfl,D,rfl,⟨_,aF.of ir⟩,λD5 OO=>?_⟩;refine Eh ir (λl V_=>(hl l V_).1) OO λH5 s5 e5=>?_;refine⟨oU,λD6 WC=>⟨D5,rfl,aF.of (ah WC _ _ _ e5),?_⟩⟩;exact q D6 _ ((s3.trans s5).free WC) ((s3.trans s5).trans (ah WC _)) ae
end
end eZ
namespace L2
open PySem
def BX {K:aV}{T:Addr}{a:Addr}{xs:115}(s:fq T H H')(t:Tab T pos qu H)(h:aZ K H a xs):aZ K H' a xs:=by
 obtain⟨ps,b,_⟩:=t;rcases h with (h | ⟨u,h⟩) | h
 .exact .inl (.inl (s _ _ (λz=>by rw [z,b] at h;cases h) h))
 .exact .inl (.inr ⟨u,s _ _ (λz=>by rw [z,b] at h;cases h) h⟩)
 exact .inr h
def Co {K:aV}{T:Addr}{a:Addr}{xs:115}(s:fq T H H')(t:Tab T pos qu H)(h:aF K H a xs):aF K H' a xs:=by
 obtain⟨ps,b,_⟩:=t;rcases h with (h | ⟨u,h⟩) | h
 .exact .inl (.inl (s _ _ (λz=>by rw [z,b] at h;cases h) h))
 .exact .inl (.inr ⟨u,s _ _ (λz=>by rw [z,b] at h;cases h) h⟩)
 exact .inr h
def BY {T T':Addr}(s:fq T H H')(t:Tab T pos qu H)(h:Tab T' pos' Jm H)(n:T'≠T):Tab T' pos' Jm H':=by
 obtain⟨ps,b,_⟩:=t;obtain⟨UA,a,o,c⟩:=h;refine⟨UA,s _ _ n a,o,c.imp id ?_⟩;rintro⟨c',e,g⟩;exact⟨c',e,s _ _ (λz=>by rw [z,b] at g;cases g) g⟩
def yZ {K:aV}{H:Hp}{p D:Addr}{zs:z0r}{σ:St}{js:z0i}{cs:List (Option V)}{tif:TT}{te:TE}{Qp:Hp->Prop}(hσ:eI ["name"] js σ=none::cs)(hp:aF K H p (zs.map V.str))(hD:H D=none)
  (ht:∀z∈zs,∀H2 Q,aE H H2->Q false H2->tif (some (.str z)::cs) H2 Q)(q:∀H2,aE H H2->H2 D=some 128->Qp H2) :
  ∃W:Nat->Nat->115->148,(∃m,W 0 m [] (eI ["name"] js σ) (upd H D 128)) /\
 ∀i m ys σ' H,W i m ys σ' H->((kF K p).stop i H/\Qp H)\/((kF K p).go i H/\∃m',m' < m/\∀x H',(kF K p).nu i H x H'->eA 0 x σ' H' λσ2 H2=>tif σ2 H2 λb H3 =>
  if b=true then te σ2 H3 248 else W (i+1) m' ys σ2 H3):=by
 refine bX (xs:=zs.map V.str) (λi ys σ2 H5=>ys=[]/\(∃y0,σ2=y0::cs)/\aE H H5/\H5 D=some 128) ⟨rfl,⟨none,hσ⟩,ah hD _,ae⟩ (λi ys σ2 H5 _ h=>h.2.2.1.seq hp) (λi x ys σ2 H5 ex h=>?_) (λys σ2 H5 h=>?_)
 .obtain⟨rfl,⟨y0,rfl⟩,s5,e5⟩:=h;rw [bB] at ex;obtain⟨z,ez,rfl⟩:=b9.mp ex;refine goN ?_;refine ht z (cf ez) H5 _ s5 ?_;refine gy ?_;exact⟨rfl,159,s5,e5⟩
 obtain⟨rfl,_,s5,e5⟩:=h;exact q H5 s5 e5
end L2
namespace eZ
open PySem L2 M11
section
def lL (T1 T2:Addr)(H H':Hp):Prop:=∀b o,b≠T1->b≠T2->H b=111->H' b=111
def g9:aJ ["rules","strengths","least","endless","met","unmet","steps","greatest","vast"] ["rules","strengths"] (av wD):=182
end
end eZ
namespace M11
open PySem L2
abbrev Be:=Str×Str×Nat×Nat
def xM (cP:List Be):List (Str×Str):=cP.map λb=>(b.1,b.2.1)
def oh (cP:List Be)(n:Str):z0r:=(cP.filter λb=>decide (b.1=n)).map (·.2.1)
def qt (names:z0r)(cP:List Be)(z:Str):z0r:=if z∈names then oh cP z else [z]
inductive xT (aa:113) (names:z0r)(b:Str->Bool):List Be->Prop
 | nil:xT aa names b []
 | snoc {cP:List Be}{k j:Nat}{ru:aB}{z w:Str}:xT aa names b cP->aa[k]?=some ru->ru.2[j]?=some z->j < DZ b ru.2->w∈qt names cP z->(ru.1,w)∉xM cP->xT aa names b (cP++[(ru.1,w,k,j)])
def Bm {n w:Str}:w∈oh cP n↔(n,w)∈xM cP:=by
 unfold oh xM;rw [cQ,cQ];constructor
 .rintro⟨b,hb,rfl⟩;obtain⟨h1,h2⟩:=gU.mp hb;exact⟨b,h1,by rw [dJ h2]⟩
 rintro⟨b,hb,e⟩;cases e;exact⟨b,gU.mpr ⟨hb,ff rfl⟩,rfl⟩
def CI (cP:List Be)(b:Be)(n:Str):oh (cP++[b]) n=oh cP n++(if b.1=n then [b.2.1] else []):=by
 unfold oh;rw [i6,bA];by_cases c:b.1=n
 .rw [aA c];simp [c]
 rw [az c];simp [c]
end M11
namespace eZ
open PySem L2 M11
def Kt:Stmt->z0q
 | .ClassDef _ _ _ b _ _ _ _ _ _ _=>b
 | _=>[]
abbrev Ld (st:Stmt) (i:Nat):Stmt:=(Kt st).getD i (.Pass ⟨0,0,0,0⟩)
abbrev Aw:Stmt:=Ld Av 0
abbrev FE:Stmt:=Ld Av 1
abbrev Ar:Stmt:=Ld Av 2
abbrev rT:Stmt:=Ld yd 0
abbrev Ap:Stmt:=Ld yd 1
section
structure BC (K:aV)(C:Addr):Prop where
 cls:C4 K C
 a1:de K C "empties"
 a2:de K C "empty"
 a3:de K C "begins"
 a4:de K C "firsts"
structure uB (K:aV)(C:Addr)(H0 H:Hp)(a e d bg:Addr)(kE:140)(bo:z0h)(ps:z0f)(cP:List Be):Prop where
 sm:aE H0 H
 ia:∃dx fs,H a=some (.ins C dx fs)/\fs.lookup ("empty":Str)=some (.ref e)/\fs.lookup ("begins":Str)=some (.ref bg)/\fs.lookup ("firsts":Str)=some (.ref d)/\fs.lookup ("find_begins":Str)=none/\fs.lookup ("words_of_part":Str)=none
 he:H e=some (.dK kE)
 hd:H d=some (.dK (ps.map jm))
 n1:(ps.map 56).Nodup
 n2:(ps.map (·.2)).Nodup
 dk:∀p∈ps,(∃kvs,H p.2=184/\kvs.map 56=(oh cP p.1).map Sum.inr)/\H0 p.2=none/\p.2≠e/\p.2≠d
 lb:∃ts,H bg=217/\Paired (λt (b:Be)=>aZ K H t [.str b.1,.str b.2.1,.int (b.2.2.1:Int),.int (b.2.2.2:Int)]) ts cP
 fb:H0 bg=none
 em:∃e1 ts,(∃dx fs,H a=some (.ins C dx fs)/\fs.lookup ("empties":Str)=some (.ref e1))/\H e1=217/\pO K H ts bo/\e1≠bg
def uB.same {a e d bg:Addr}{ps:z0f}(h:uB K C H0 H a e d bg kE bo ps cP)(s:aE H H'):uB K C H0 H' a e d bg kE bo ps cP:=by
 refine⟨h.sm.trans s,?_,s _ _ h.he,s _ _ h.hd,h.n1,h.n2,λp hp=>?_,?_,h.fb,?_⟩
 .obtain⟨dx,fs,q,r⟩:=h.ia;exact⟨dx,fs,s _ _ q,r⟩
 .obtain⟨⟨kvs,q,r⟩,t⟩:=h.dk p hp;exact⟨⟨kvs,s _ _ q,r⟩,t⟩
 .obtain⟨ts,q,r⟩:=h.lb;exact⟨ts,s _ _ q,Paired.ij r λ_ _ z=>s.tup z⟩
 obtain⟨e1,ts,⟨dx,fs,q1,q2⟩,q3,q4,q5⟩:=h.em;exact⟨e1,ts,⟨dx,fs,s _ _ q1,q2⟩,s _ _ q3,q4.keep λ_ _ z=>s.tup z,q5⟩
def Cc (K:aV)(C:Addr):Sp:=λvs H Q _=>∃(H0:Hp)(a e d bg:Addr)(kE:140)(bo:z0h)(ps:z0f)(cP:List Be)(z:Str),vs=[.ref a,.str z]/\uB K C H0 H a e d bg kE bo ps cP /\
 ∀(D:Addr)(H':Hp),H D=none->aE H H'->H' D=some (.lst ((qt (ps.map 56) cP z).map V.str))->Q (.ref D) H'
def I8:aJ ["self","part"] ["self","part"] (av Ar):=182
def Gs (F:iu K "words_of_part" "BeginTable.words_of_part" Ar f fd)(T:Txt mg)(B:BC K C):bF P w K mg base fN 1 f fd ["self","part"] (Cc K C):=by
 refine F.ok I8 186 195
 .obtain⟨H0,a,e,d,bg,kE,bo,ps,cP,z,rfl,_⟩:=h;rfl
 obtain⟨H0,a,e,d,bg,kE,bo,ps,cP,z,rfl,S,q⟩:=h;have hu:=fU hr;obtain⟨dx,fs,ea,f1,f2,f3,f4,f5⟩:=S.ia;refine⟨_,ar (br (yo (eK (mf hu (pv 1) (eD (pv 0) rfl))) (bh (mQ rfl) rfl T.lst gq (af (eG hu (eD (pv 0) rfl) (pv 1) 144) ak)) (bu (af (pv 1) ak)))),?_⟩;dsimp only [pK];have mem:(ba (ps.map jm) 145).isSome=true↔z∈ps.map 56:=by rw [eF,nY];exact cW
 refine⟨_,rfl,_,rfl,a,C,dx,fs,_,rfl,ea,B.cls,B.a4,f3,d,_,rfl,cq.k (k:=127) S.hd,_,rfl,?_⟩;refine cC (λc=>?_) (λc=>?_)
 .have hz:=mem.mp c;obtain⟨p,hp,ep⟩:=cQ.mp hz;obtain⟨⟨kvs,hk,kk⟩,_⟩:=S.dk p hp;have vn:=gG ps S.n1 p hp;rw [ep] at vn;have hg:cq H d (.str z) (some (.ref p.2)):=by
   have:=cq.k (k:=127) S.hd;rw [vn] at this;exact this
  refine⟨_,rfl,a,C,dx,fs,_,rfl,ea,B.cls,B.a4,f3,_,rfl,d,_,rfl,hg,p.2,kvs,rfl,hk,λD hD=>?_⟩;refine q D _ hD (ah hD _) ?_;rw [ae,keys_str kk,ep];unfold qt;rw [aA hz]
 refine⟨_,rfl,EJ,λD hD=>?_⟩;refine q D _ hD (ah hD _) ?_;rw [ae];unfold qt;rw [az (λh=>c (mem.mpr h))];rfl
def uB.more {a e d bg t:Addr}{kE kvs:140}{ps:z0f}{p:Str×Addr}{wd:Str}{k j:Nat}{ts:z0o}(h:uB K C H0 H a e d bg kE bo ps cP)(hp:p∈ps)(hk:H p.2=184)(kk:kvs.map 56=(oh cP p.1).map Sum.inr)
  (hn:(p.1,wd)∉xM cP)(hb:H bg=217)(OM:Paired (λt (b:Be)=>aZ K H t [.str b.1,.str b.2.1,.int (b.2.2.1:Int),.int (b.2.2.2:Int)]) ts cP)
  (s:aE (upd H p.2 (.dK (bP kvs (Sum.inr wd) (.bl true)))) H2)(ht:aZ K H2 t [.str p.1,.str wd,.int (k:Int),.int (j:Int)]) :
  uB K C H0 (upd H2 bg (.lst (ts.map V.ref++[.ref t]))) a e d bg kE bo ps (cP++[(p.1,wd,k,j)]):=by
 have Sl:bg≠p.2:=λz=>by rw [z,hk] at hb;cases hb
 have Kh:H2 bg=217:=s _ _ (by rw [aj Sl];exact hb);obtain⟨_,fp,YI,YJ⟩:=h.dk p hp;have up:∀c o,c≠bg->c≠p.2->H c=111->upd H2 bg (.lst (ts.map V.ref++[.ref t])) c=111:=λc o n1 n2 q=>by
  rw [aj n1];exact s _ _ (by rw [aj n2];exact q)
 refine⟨λc o hc=>up c o (λz=>by rw [z,h.fb] at hc;cases hc) (λz=>by rw [z,fp] at hc;cases hc) (h.sm c o hc),?_,up _ _ (λz=>by have:=h.he;rw [z,hb] at this;cases this) YI.symm h.he,up _ _ (λz=>by have:=h.hd;rw [z,hb] at this;cases this) YJ.symm h.hd,h.n1,h.n2,λp' mF=>?_,⟨ts++[t],by rw [ae,bA];rfl,?_⟩,h.fb,?_⟩
 .obtain⟨dx,fs,q,r⟩:=h.ia;exact⟨dx,fs,up _ _ (λz=>by rw [z,hb] at q;cases q) (λz=>by rw [z,hk] at q;cases q) q,r⟩
 .obtain⟨⟨mx,q,r⟩,t'⟩:=h.dk p' mF;refine⟨?_,t'⟩;by_cases z:p'=p
  .rw [z];refine⟨bP kvs (Sum.inr wd) (.bl true),by rw [aj Sl.symm];exact s _ _ ae,?_⟩;rw [iR (by rw [kk];exact λq=>hn (Bm.mp (cW.mp q))),kk,CI,aA rfl,bA];rfl
  have n1:p'.1≠p.1:=λq'=>z (by
   have w1:=gG ps h.n1 p' mF;have w2:=gG ps h.n1 p hp;rw [q',w2] at w1;injection w1 with w3;injection w3 with w4;exact Prod.ext q' w4.symm)
  have n2:p'.2≠p.2:=λq'=>by
   obtain⟨i,hi,ei⟩:=pY.mp mF;obtain⟨j',hj,ej⟩:=pY.mp hp;have Iw:i=j':=by
    refine(rj (xs:=ps.map (·.2)) (h₀:=by simpa using hi) (h₁:=by simpa using hj) h.n2).mp ?_;rw [oM,oM,ei,ej];exact q'
   subst Iw;exact z (ei.symm.trans ej)
  refine⟨mx,up _ _ (λz=>by rw [z,hb] at q;cases q) n2 q,?_⟩;rw [r,CI,az (λq'=>n1 q'.symm),eE]
 .exact gA (Paired.ij OM λ_ _ z=>aT Kh (s.tup (gY hk z))) (aT Kh ht)
 obtain⟨e1,te,⟨dx,fs,q1,q2⟩,q3,q4,q5⟩:=h.em;exact⟨e1,te,⟨dx,fs,up _ _ (λz=>by rw [z,hb] at q1;cases q1) (λz=>by rw [z,hk] at q1;cases q1) q1,q2⟩,up _ _ q5 (λz=>by rw [z,hk] at q3;cases q3) q3,q4.keep λ_ _ z=>aT Kh (s.tup (gY hk z)),q5⟩
def NP (l m:List Be)(n:Str):oh (l++m) n=oh l n++oh m n:=by
 unfold oh;rw [i6,bA]
def IQ (l m:List Be){z x:Str}(h:x∈qt names l z):x∈qt names (l++m) z:=by
 unfold qt at h ⊢
 split
 .rename_i c
  rw [aA c] at h;rw [NP];exact jX _ h
 rename_i c
 rw [az c] at h;exact h
def NO (cP:List Be)(n:Str):(oh cP n).length<=cP.length:=by
 unfold oh;rw [aC];exact i8 _ _
def Oc {n i:Nat}(h:i < n):(cnt n)[i]?=some (163):=by
 unfold cnt;rw [bB,List.getElem?_range h];rfl
def CP (n:Nat):(cnt n).length=n:=by unfold cnt;rw [aC,oP]
def Fp (K:aV)(C:Addr):Sp:=λvs H Q _=>∃(H0:Hp)(a e d bg r:Addr)(kE:140)(bo:z0h)(ps:z0f)(cP:List Be) (k:Nat)(ru:aB)(aa:113),vs=[.ref a,.int (k:Int),.ref r]/\uB K C H0 H a e d bg kE bo ps cP/\iI K H0 r ru/\aa[k]?=some ru/\ru.2.length<=8 /\
 ru.1∈ps.map 56/\(∀xB:List Be,xT aa (ps.map 56) (λz=>(ba kE 145).isSome) xB->xB.length<=900000)/\xT aa (ps.map 56) (λz=>(ba kE 145).isSome) cP /\
 ∀(xB:List Be)(H':Hp),uB K C H0 H' a e d bg kE bo ps xB->xT aa (ps.map 56) (λz=>(ba kE 145).isSome) xB->cP.length<=xB.length->(xB.length=cP.length->xB=cP/\∀j z,j < DZ (λz=>(ba kE 145).isSome) ru.2->ru.2[j]?=some z->∀wd∈qt (ps.map 56) cP z,(ru.1,wd)∈xM cP)->Q .dq H'
def wB:aJ ["self","number","rule","own","place","word"] ["self","number","rule"] (av FE):=182
def JI (F:iu K "find_begins" "BeginTable.find_begins" FE f fd)(T:Txt mg)(B:BC K C)(GP:aL P w K mg base 1 "first_places" ["parts","empty"] (x_ K))(FW:bF P w K mg base fN 1 fW fdW ["self","part"] (Cc K C))(MW:Meth K C "words_of_part" fW)(BW:Binds K fdW ["self","part"] []) :
  bF P w K mg base fN 2 f fd ["self","number","rule"] (Fp K C):=by
 refine F.ok wB 186 195
 .obtain⟨H0,a,e,d,bg,r,kE,bo,ps,cP,k,ru,aa,rfl,_⟩:=h;rfl
 obtain⟨H0,a,e,d,bg,r,kE,bo,ps,cP,k,ru,aa,rfl,S,⟨p,v1,v2⟩,er,h8,hh,hbd,Ws,q⟩:=h;have hu:=fU hr;refine⟨_,ao (aD (i:=3) wB.nd rfl 116 (eG hu (eD (pv 0) rfl) (aO cz (pv 2) au 144) 144))
  (ar (b_ cD rfl (bq (bU GP hr rfl (af (aO cz (pv 2) au 144) (af (eD (pv 0) rfl) ak)))) (ay (i:=4) wB.nd rfl 116)
   (ar (b_ cD rfl (bq (Cw (pv 0) B.cls MW FW hr BW .nil qh (af (aO cz (aO cz (pv 2) au 144) (pv 4) 144) ak))) (ay (i:=5) wB.nd rfl 116)
    (ar (cR (eK (dP hu (pv 5) (pv 3)))
     (ao (gP hu (pv 3) (pv 5) eO rfl)
     (ar (cv (dY fY gE gF bR (eD (pv 0) rfl) (af (bJ (af (aO cz (pv 2) au 144) (af (pv 5) (af (pv 1) (af (pv 4) ak))))) ak))))) bL)))))),?_⟩
 nofun
 obtain⟨pn,yP,zI⟩:=cQ.mp hh;have vn:=gG ps S.n1 pn yP;rw [zI] at vn;obtain⟨dx,fs,ea,f1,f2,f3,f4,f5⟩:=S.ia;have hg:cq H d (.str ru.1) (some (.ref pn.2)):=by
  have:=cq.k (k:=Sum.inr ru.1) S.hd;rw [vn] at this;exact this
 refine⟨_,rfl,a,C,dx,fs,_,rfl,ea,B.cls,B.a4,f3,_,rfl,r,_,_,_,rfl,rfl,S.sm.tup v1,rfl,d,_,rfl,hg,?_⟩;refine⟨_,rfl,r,_,_,_,rfl,rfl,S.sm.tup v1,rfl,_,rfl,a,C,dx,fs,_,rfl,ea,B.cls,B.a2,f1,p,e,ru.2,kE,rfl,S.sm.tup v2,∅,S.he,λD5 H5 f6 s5 e5=>⟨D5,rfl,⟨_,aF.of e5⟩,?_⟩⟩;obtain⟨ts0,hb0,_⟩:=S.lb;have nDb:D5≠bg:=λz=>by rw [z,hb0] at f6;cases f6
 have fle:=Ht (λz=>(ba kE 145).isSome) ru.2;generalize hb:(λz=>(ba kE 145).isSome)=b at *;generalize hn:DZ b ru.2=n at *
 let BN:BO:=λi σ H6=>∃(dS:List Be)(y4 y5:Option V),σ=[bc a,some (.int (k:Int)),bc r,some (.ref pn.2),y4,y5]/\uB K C H0 H6 a e d bg kE bo ps dS/\H6 D5=some (.lst (cnt n))/\xT aa (ps.map 56) b dS/\cP.length<=dS.length /\
  (dS.length=cP.length->dS=cP/\∀j z,j < i->ru.2[j]?=some z->∀wd∈qt (ps.map 56) cP z,(ru.1,wd)∈xM cP)
 refine du (xs:=cnt n) BN ⟨cP,none,none,rfl,S.same s5,e5,Ws,aG _,λ_=>⟨rfl,λj z hj=>by omega⟩⟩ ?_ ?_ ?_
 .rintro i σ H6 _ ⟨dS,y4,y5,rfl,S2,e6,_⟩;exact aF.of e6
 .intro i x σ H6 ex Wy
  ac_nf0
  obtain⟨dS,y4,y5,rfl,S2,e6,Xq,l2,c2⟩:=Wy;have li:i < n:=by have:=(bM.mp ex).1;rw [CP] at this;exact this
  rw [Oc li] at ex;cases ex;have lz:i < ru.2.length:=by omega
  obtain⟨z,ez⟩:∃z,ru.2[i]?=some z:=⟨ru.2[i],cN lz⟩;have XF:lK (ru.2.map V.str) (i:Int)=some (.str z):=cS (by rw [bB,ez];rfl);obtain⟨LH,ur,Rx,g1,g2,g3,g4,g5⟩:=S2.ia;refine goN ?_
  ac_nf
  refine⟨_,rfl,a,LH,ur,rfl,Rx,g5,_,rfl,r,_,_,_,rfl,rfl,S2.sm.tup v1,rfl,_,rfl,p,_,_,_,rfl,rfl,S2.sm.tup v2,XF,H0,a,e,d,bg,kE,bo,ps,dS,z,rfl,S2,λD6 H7 f7 s7 e7=>⟨D6,rfl,⟨_,aF.of e7⟩,?_⟩⟩;obtain⟨xX,Kh,_⟩:=S2.lb;have nD6:D6≠bg:=λz=>by rw [z,Kh] at f7;cases f7
  generalize Y4:qt (ps.map 56) dS z=ws at *
  let KG:BO:=λm σ H8=>∃(l:List Be)(y5:Option V),σ=[bc a,some (.int (k:Int)),bc r,some (.ref pn.2),some (163),y5]/\uB K C H0 H8 a e d bg kE bo ps (dS++l)/\H8 D5=some (.lst (cnt n))/\H8 D6=some (.lst (ws.map V.str))/\xT aa (ps.map 56) b (dS++l) /\
   (l=[]->∀wd∈ws.take m,(ru.1,wd)∈xM dS)
  refine du (xs:=ws.map V.str) KG ⟨[],_,rfl,by rw [eE];exact S2.same s7,s7 _ _ e6,e7,by rw [eE];exact Xq,λ_ wd h=>by simp at h⟩ ?_ ?_ ?_
  .rintro m σ H8 _ ⟨l,y5,rfl,S3,e8,e9,_⟩;exact aF.of e9
  .intro m x σ H8 ex Wy
   ac_nf0
   obtain⟨l,y5,rfl,S3,e8,e9,RF,c3⟩:=Wy;rw [bB] at ex;obtain⟨wd,ew,rfl⟩:=b9.mp ex;obtain⟨⟨kvs,hk,kk⟩,fp,YI,YJ⟩:=S3.dk pn yP;obtain⟨Ym,SM,Ra⟩:=S3.lb;have lim:=hbd _ RF;have ltk:kvs.length<=900000:=by
    have h1:=congrArg List.length kk;rw [aC,aC] at h1;have:=NO (dS++l) pn.1;omega
   have ltt:=bT Ra;have mem:(ba kvs (Sum.inr wd)).isSome=true↔(ru.1,wd)∈xM (dS++l):=by rw [eF,kk,cW,Bm,zI]
   refine goN ?_
   ac_nf
   refine⟨_,rfl,_,rfl,pn.2,_,rfl,cq.k (k:=Sum.inr wd) hk,_,rfl,?_⟩;refine cC (λc=>?_) (λc=>?_)
   .have nm:(ru.1,wd)∉xM (dS++l):=λh=>by rw [mem.mpr h] at c;exact absurd c nofun
    refine⟨_,rfl,_,rfl,_,_,rfl,pP.k (k:=Sum.inr wd) hk (bx ∅),?_⟩;obtain⟨dx3,Iz,W8,k1,k2,k3,k4,k5⟩:=S3.ia;have nap:a≠pn.2:=λz=>by rw [z,hk] at W8;cases W8
    have Sl:bg≠pn.2:=λz=>by rw [z,hk] at SM;cases SM
    have N6:upd H8 pn.2 (.dK (bP kvs (Sum.inr wd) (.bl true))) a=some (.ins C dx3 Iz):=by rw [aj nap];exact W8
    have Zt:upd H8 pn.2 (.dK (bP kvs (Sum.inr wd) (.bl true))) bg=some (.lst (Ym.map V.ref)):=by rw [aj Sl];exact SM
    refine⟨_,rfl,a,C,dx3,Iz,_,rfl,N6,B.cls,B.a3,k2,.inl ⟨rfl,_,aF.of Zt⟩,_,rfl,r,_,_,_,rfl,rfl,gY hk (S3.sm.tup v1),rfl,_,rfl,_,rfl,_,rfl,TH,λt4 DR=>?_⟩;have s4:=ah DR (.tup [.str ru.1,.str wd,.int (k:Int),163]);have e4:aZ K (upd (upd H8 pn.2 (.dK (bP kvs (Sum.inr wd) (.bl true)))) t4 (.tup [.str ru.1,.str wd,.int (k:Int),163])) t4 [.str ru.1,.str wd,.int (k:Int),163]:=aZ.of ae;generalize upd (upd H8 pn.2 (.dK (bP kvs (Sum.inr wd) (.bl true)))) t4 (.tup [.str ru.1,.str wd,.int (k:Int),163])=H9 at s4 e4;refine⟨bg,_,_,rfl,rfl,s4 _ _ Zt,210,?_⟩;have nm':(pn.1,wd)∉xM (dS++l):=by rw [zI];exact nm
    have S4:=S3.more (k:=k) (j:=i) yP hk kk nm' SM Ra s4 (by rw [zI];exact e4);have Ll:∀D ys,H8 D=some (.lst ys)->D≠bg->upd H9 bg (.lst (Ym.map V.ref++[.ref t4])) D=some (.lst ys):=λD ys hD nb=>by
     rw [aj nb];exact s4 _ _ (by rw [aj (λz=>by rw [z,hk] at hD;cases hD)];exact hD)
    rw [iP,zI] at S4;refine⟨l++[(ru.1,wd,k,i)],_,rfl,S4,Ll _ _ e8 nDb,Ll _ _ e9 nD6,?_,λh=>by simp at h⟩;rw [<-iP];refine .snoc RF er ez (by rw [hn];exact li) (IQ dS l (by rw [Y4];exact cf ew)) nm
   refine⟨l,_,rfl,S3,e8,e9,RF,λhl x hx=>?_⟩;rw [cM,ew] at hx;rcases cK.mp hx with h | h
   .exact c3 hl x h
   rw [Option.toList_some,bD] at h;subst h;have hm:(ru.1,x)∈xM (dS++l):=mem.mp (by
    cases hq:(ba kvs (Sum.inr x)).isSome with
    | true=>rfl
    | false=>exact absurd (by rw [hq];rfl) c)
   rw [hl,eE] at hm;exact hm
  rintro σ H8 ⟨l,y5,rfl,S3,e8,e9,RF,c3⟩;rw [aC,dI] at c3;refine⟨dS++l,_,_,rfl,S3,e8,RF,by rw [bO];omega,λQV=>?_⟩;rw [bO] at QV;have SE:l=[]:=List.length_eq_zero_iff.mp ∅;obtain⟨Rb,pG⟩:=c2 ∅;rw [SE,eE];refine⟨Rb,λj z' hj WR wd Y6=>?_⟩;by_cases cj:j < i
  .exact pG j z' cj WR wd Y6
  have:j=i:=by omega
  subst this;rw [ez] at WR;cases WR;have:=c3 SE wd (by rw [<-Y4,Rb];exact Y6);rw [Rb] at this;exact this
 rintro σ H6 ⟨dS,y4,y5,rfl,S2,e6,Xq,l2,c2⟩;rw [CP] at c2;exact q dS H6 S2 Xq l2 c2
end
end eZ
namespace L2
open PySem M11
def ze {K:aV}{H:Hp}{p D:Addr}{zs:z0r}{σ:St}{x:Str}{Qp:Hp->Prop}(hp:aF K H p (zs.map V.str))(hz:zs.length<=10000)(hD:H D=none)
  (q:∀ts (ps:z0f) H2,aE H H2->H2 D=217->ps.map 56=zs->Paired (λt (p:Str×Addr)=>aZ K H2 t [.str p.1,.ref p.2]) ts ps->(∀p∈ps,H2 p.2=some (.dK [])/\H p.2=none/\p.2≠D)->(ps.map (·.2)).Nodup->Qp H2) :
  ∃W:Nat->Nat->115->148,(∃m,W 0 m [] (eI [x] [] σ) (upd H D 128)) /\
 ∀i m ys σ' H,W i m ys σ' H->((kF K p).stop i H/\Qp H)\/((kF K p).go i H/\∃m',m' < m/\∀x H',(kF K p).nu i H x H'->eA 0 x σ' H' λσ2 H2=>jc σ2 H2 λb H3 =>
  if b=true then ug (fZ (gw 0) (fZ (Fb) qw)) σ2 H3 248 else W (i+1) m' ys σ2 H3):=by
 refine bX (xs:=zs.map V.str) (λi ys σ2 H2=>∃(ts:z0o)(ps:z0f),ys=ts.map V.ref/\ts.length=i/\ps.map 56=zs.take i/\Paired (λt (p:Str×Addr)=>aZ K H2 t [.str p.1,.ref p.2]) ts ps /\
   (∀p∈ps,H2 p.2=some (.dK [])/\H p.2=none/\p.2≠D)/\(ps.map (·.2)).Nodup/\(∃y0,σ2=[y0])/\aE H H2/\H2 D=some (.lst ys))
  ⟨[],[],rfl,rfl,rfl,.nil,108,108,⟨none,rfl⟩,ah hD _,ae⟩ (λi ys σ2 H2 _ h=>?_) (λi x ys σ2 H2 ex h=>?_) (λys σ2 H2 h=>?_)
 .obtain⟨_,_,_,_,_,_,_,_,_,sm,_⟩:=h;exact sm.seq hp
 .obtain⟨ts,ps,rfl,ht,hm,xi,hl,hn,⟨y0,rfl⟩,sm,hd⟩:=h;rw [bB] at ex;obtain⟨z,ez,rfl⟩:=b9.mp ex;have li:=(bM.mp ez).1;refine goN (zF ?_);refine⟨_,rfl,λl mH=>⟨lX,λt iL=>?_⟩⟩;have M8:l≠D:=(aq hd mH).symm;have nt:t≠l:=λe=>by rw [e,ae] at iL;cases iL
  have QE:H2 t=none:=by rw [aj nt] at iL;exact iL
  have ntD:t≠D:=(aq hd QE).symm;have uc:aE H2 (upd (upd H2 l (.dK [])) t (.tup [.str z,.ref l])):=(ah mH _).trans (ah iL _);have ir:=uc _ _ hd;have el:upd (upd H2 l (.dK [])) t (.tup [.str z,.ref l]) l=some (.dK []):=by rw [aj nt.symm,ae]
  have et:aZ K (upd (upd H2 l (.dK [])) t (.tup [.str z,.ref l])) t [.str z,.ref l]:=aZ.of ae;generalize upd (upd H2 l (.dK [])) t (.tup [.str z,.ref l])=H4 at uc ir el et;refine⟨ir,210,ts++[t],ps++[(z,l)],by rw [bA];rfl,by rw [bO,ht];rfl,by rw [bA,hm,cM,ez];rfl,?_,?_,?_,159,?_,ae⟩
  .exact gA (Paired.ij xi λt' h' z=>aT ir (uc.tup z)) (aT ir et)
  .intro p' mF;rcases cK.mp mF with h | h
   .obtain⟨a1,a2,a3⟩:=hl p' h;exact⟨by rw [aj a3];exact uc _ _ a1,a2,a3⟩
   rw [bD.mp h];exact⟨by rw [aj M8];exact el,sm.free mH,M8⟩
  .rw [bA];refine nj.mpr ⟨hn,108,λa ha b hb e=>?_⟩;rw [oQ,bD] at hb;obtain⟨p',mF,rfl⟩:=cQ.mp ha;have:=(hl p' mF).1;rw [e,hb] at this;rw [show H2 l=none from mH] at this;cases this
  intro b o hb;rw [254];exact uc _ _ (sm b o hb)
 obtain⟨ts,ps,rfl,ht,hm,xi,hl,hn,_,sm,hd⟩:=h;rw [aC,dI] at hm;exact q ts ps H2 sm hd hm xi hl hn
def gZ {K:aV}{D a C dx:Addr}{xs:115}{fs:List (Str×V)}{o:HO}(hD:H D=some (.ins C dx fs))(h:aZ K H a xs):aZ K (upd H D o) a xs:=by
 rcases h with (h | ⟨u,h⟩) | h
 .exact .inl (.inl (by rw [aj (λz=>by rw [z,hD] at h;cases h)];exact h))
 .exact .inl (.inr ⟨u,by rw [aj (λz=>by rw [z,hD] at h;cases h)];exact h⟩)
 exact .inr h
def zd {K:aV}{H:Hp}{R D:Addr}{rs:z0o}{es:z0h}{σ:St}{x1 x2:Str}{Qp:Hp->Prop}(hR:aF K H R 162)(cT:Paired (λt (e:Str×Nat)=>aZ K H t [.str e.1,.int (e.2:Int)]) rs es)(bN:es.length<=1000)(hD:H D=none)
  (q:∀ts H2,aE H H2->H2 D=217->Paired (λt h=>aZ K H2 t [.str h,.bl true]) ts (es.map 56)->Qp H2) :
  ∃W:Nat->Nat->115->148,(∃m,W 0 m [] (eI [x1,x2] [] σ) (upd H D 128)) /\
 ∀i m ys σ' H,W i m ys σ' H->((kF K R).stop i H/\Qp H)\/((kF K R).go i H/\∃m',m' < m/\∀x H',(kF K R).nu i H x H'->DY K 2 (ky (eA 0) (ky (eA 1) Hr)) x σ' H' λσ2 H2=>jc σ2 H2 λb H3 =>
  if b=true then ug (fZ (gw 0) (fZ (tC (.bl true)) qw)) σ2 H3 248 else W (i+1) m' ys σ2 H3):=by
 have ll:=bT cT;refine bX (xs:=143) (λi ys σ2 H2=>∃ts:z0o,ys=ts.map V.ref/\ts.length=i/\Paired (λt h=>aZ K H2 t [.str h,.bl true]) ts ((es.take i).map 56)/\(∃y0 y1,σ2=[y0,y1])/\aE H H2/\H2 D=some (.lst ys))
  ⟨[],rfl,rfl,.nil,⟨none,none,rfl⟩,ah hD _,ae⟩ (λi ys σ2 H2 _ h=>?_) (λi x ys σ2 H2 ex h=>?_) (λys σ2 H2 h=>?_)
 .obtain⟨_,_,_,_,_,sm,_⟩:=h;exact sm.seq hR
 .obtain⟨ts,rfl,ht,hp,⟨y0,y1,rfl⟩,sm,hd⟩:=h;rw [bB] at ex;obtain⟨r,er,rfl⟩:=b9.mp ex;have lr:=(bM.mp er).1;obtain⟨ru,e1⟩:∃ru,es[i]?=some ru:=⟨es[i]'∅,cN ∅⟩;obtain⟨r',NX,v1⟩:=Paired.at_ cT i ru e1;rw [er] at NX;cases NX;have li:=(bM.mp e1).1;refine⟨r,_,rfl,sm.tup v1,rfl,_,_,rfl,_,_,rfl,rfl,?_⟩;refine zF ?_;refine⟨_,rfl,lX,λt iL=>⟨?_,210,ts++[t],?_,?_,?_,⟨_,_,rfl⟩,?_,ae⟩⟩
  .rw [aj (aq hd iL)];exact hd
  .rw [bA];rfl
  .rw [bO,ht];rfl
  .rw [cM,e1,bA];have ir:upd H2 t (.tup [.str ru.1,.bl true]) D=217:=by rw [aj (aq hd iL)];exact hd
   exact gA (Paired.ij hp λt' h' z=>aT ir ((ah iL _).tup z)) (aT ir (aZ.of ae))
  intro b o hb;rw [254];exact ah iL _ _ _ (sm b o hb)
 obtain⟨ts,rfl,ht,hp,_,sm,hd⟩:=h;rw [aC,ll,dI] at hp;exact q ts H2 sm hd hp
end L2
namespace M11
open PySem L2
def xT.sub {aa:113}{b:Str->Bool}(h:xT aa names b cP):∀q∈xM cP,q.1∈aa.map 56/\q.2∈aa.flatMap (·.2):=by
 induction h with
 | nil=>intro q hq;cases hq
 | @snoc cP k j ru z wd hb er ez _ hw _ ih =>
  intro q hq;unfold xM at hq;rw [bA] at hq;rcases cK.mp hq with hq | hq
  .exact ih q hq
  rw [oQ,bD] at hq;rw [hq];have hm:=cf er;refine⟨i7 hm,?_⟩;unfold qt at hw
  split at hw
  .exact(ih (z,wd) (Bm.mp hw)).2
  rw [bD.mp hw];exact oN.mpr ⟨ru,hm,cf ez⟩
def xT.nd {aa:113}{b:Str->Bool}(h:xT aa names b cP):(xM cP).Nodup:=by
 induction h with
 | nil=>exact jr
 | @snoc cP k j ru z wd hb er ez _ hw hn ih =>
  unfold xM;rw [bA];refine nj.mpr ⟨ih,108,λx hx y hy e=>?_⟩;rw [oQ,bD] at hy;rw [e,hy] at hx;exact hn hx
theorem yj (m:z0r):∀l:z0r,(l.flatMap λn=>m.map λwd=>(n,wd)).length=l.length * m.length
 | []=>108
 | n::l=>by
  rw [List.flatMap_cons,bO,yj m l,aC,c_,Nat.add_mul];omega
def xT.len {aa:113}{b:Str->Bool}{cP:List Be}(h:xT aa names b cP)(hl:aa.length<=100)(h8:∀ru∈aa,ru.2.length<=8):cP.length<=80000:=by
 have h1:=gL (xM cP) ((aa.map 56).flatMap λn=>(aa.flatMap (·.2)).map λwd=>(n,wd)) h.nd λq hq=>by
  obtain⟨a,c⟩:=h.sub q hq;exact oN.mpr ⟨q.1,a,cQ.mpr ⟨q.2,c,rfl⟩⟩
 rw [yj] at h1;have h2:=eZ.jl aa 100 hl h8;unfold xM at h1;rw [aC,aC] at h1;have h3:aa.length * (aa.flatMap (·.2)).length<=100 * 800:=Nat.mul_le_mul hl h2;omega
def KL (aa:113) (names:z0r)(b:Str->Bool) (n:Nat)(cP:List Be):Prop:=∀k ru,k < n->aa[k]?=some ru->∀j z,j < DZ b ru.2->ru.2[j]?=some z->∀wd∈qt names cP z,(ru.1,wd)∈xM cP
end M11
namespace eZ
open PySem L2 M11
section
def Cf (K:aV)(C:Addr):Sp:=λvs H Q _=>∃(H0:Hp)(a dx R:Addr)(rs:z0o)(aa:113),vs=[.ref a,.ref R]/\aE H0 H/\H0 a=none/\H a=some (.ins C dx [])/\aF K H0 R 162/\bj K H0 rs aa/\aa.length<=100/\250 /\
 ∀(e d bg:Addr)(kE:140)(bo:z0h)(ps:z0f)(cP:List Be)(H':Hp),uB K C H0 H' a e d bg kE bo ps cP->ps.map 56=hd aa->xI aa bo->zB aa aa.length bo->(∀z,(ba kE 145).isSome=decide (z∈bo.map 56)) ->
  xT aa (hd aa) 266 cP->KL aa (hd aa) 266 aa.length cP->Q .dq H'
def nI:aJ ["self","rules","number","many","rule"] ["self","rules"] (av Aw):=182
def Gy {C fF:Addr}(F:iu K "__init__" "BeginTable.__init__" Aw f fd)(T:Txt mg)(B:BC K C)(GE:aL P w K mg base 1 "found_empties" ["rules"] (oZ K))(GH:aL P w K mg base 1 "heads_of" ["rules"] (kJ K))
  (FF:bF P w K mg base fN 2 fF fdF ["self","number","rule"] (Fp K C))(MF:Meth K C "find_begins" fF)(BF:Binds K fdF ["self","number","rule"] []):bF P w K mg base fN 3 f fd ["self","rules"] (Cf K C):=by
 refine F.ok nI 186 195
 .obtain⟨H0,a,dx,R,rs,aa,rfl,_⟩:=h;rfl
 obtain⟨H0,a,dx,R,rs,aa,rfl,s0,f0,ea,hR,cT,bN,h8,q⟩:=h;refine⟨_,ao (gi (pv 0) (bU (GE.mono (by decide:1<=2)) hr rfl (af (pv 1) ak)) rfl)
  (ao (gi (pv 0) (bh (d5 rfl) rfl T.xO fk (af (bV ["name","number"] [] rfl (bq (eD (pv 0) rfl)) (bH rfl rfl) nofun rfl nofun
   (λ_ _ _ _ _=>iT (n:=2) K rfl (aI (ay (i:=0) (show (["name","number"]:z0r).Nodup by decide +kernel) rfl 116) (aI (ay (i:=1) (show (["name","number"]:z0r).Nodup by decide +kernel) rfl 116) cy))) (λ_ _ _ _ _=>cJ)
   (λ_ _ _ _ _=>bJ (af (pv 0) (af eO ak)))) ak)) rfl)
  (ao (gi (pv 0) (bu ak) rfl)
  (ao (gi (pv 0) (bh (d5 rfl) rfl T.xO fk (af (bV ["name"] [] rfl (bq (bU (GH.mono (by decide:1<=2)) hr rfl (af (pv 1) ak))) (bH rfl rfl) nofun rfl nofun
   (λ_ _ _ _ _=>ay (i:=0) (show (["name"]:z0r).Nodup by decide +kernel) rfl 116) (λ_ _ _ _ _=>cJ)
   (λ_ _ _ _ _=>bJ (af (pv 0) (af fg ak)))) ak)) rfl)
  (ao (aD (i:=3) nI.nd rfl 116 (yk rE au))
  (ar (iE cD (bf qi (pv 3) (aM cA rfl T.len h_ (af (eD (pv 0) rfl) ak)) (bz _))
   (ao (aD (i:=3) nI.nd rfl 116 (aM cA rfl T.len h_ (af (eD (pv 0) rfl) ak)))
   (ar (b_ cD rfl (nV rfl T.IB (af (pv 1) ak)) (e_ rfl (aI (ay (i:=2) nI.nd rfl 116) (aI (ay (i:=4) nI.nd rfl 116) cy)))
    (ar (cv (Cw (pv 0) B.cls MF FF hr BF .nil qh (af (pv 2) (af (pv 4) ak)))))))))))))),?_⟩
 nofun
 have ll:=bT cT;refine⟨_,rfl,R,rs,aa,rfl,s0.seq hR,cT.same s0,∅,h8,λD1 De bo H1 f1 s1 e1 w1 emp HB=>?_⟩;have W9:=s1 _ _ ea;refine⟨_,rfl,a,C,dx,[],rfl,W9,B.cls,B.a1,(by show 0 < 1000;decide),?_⟩;have e2:upd H1 a (.ins C dx (dN "empties" (.ref D1) [])) D1=some (.lst (De.map V.ref)):=by rw [aj (λz=>by rw [z,W9] at e1;cases e1)];exact e1
 have w2:pO K (upd H1 a (.ins C dx (dN "empties" (.ref D1) []))) De bo:=w1.keep λ_ _ z=>gZ W9 z;have MK:aE H0 (upd H1 a (.ins C dx (dN "empties" (.ref D1) []))):=λc o hc=>by rw [aj (λz=>by rw [z,f0] at hc;cases hc)];exact s1 _ _ (s0 c o hc)
 have Rx:upd H1 a (.ins C dx (dN "empties" (.ref D1) [])) a=some (.ins C dx (dN "empties" (.ref D1) [])):=ae;generalize upd H1 a (.ins C dx (dN "empties" (.ref D1) []))=H2 at e2 w2 MK Rx;have lets:=emp.len;refine⟨_,rfl,a,C,dx,_,_,rfl,Rx,B.cls,B.a1,rfl,D1,rfl,⟨_,aF.of e2⟩,λD2 mJ=>zd (aF.of e2) w2 ∅ mJ λxX H3 s3 e3 p3=>?_⟩;have kp:Paired (λt (kv:aR×V)=>aZ K H3 t [kV kv.1,kv.2]) xX ((bo.map 56).map λh=>((Sum.inr h:aR),V.bl true)):=cO p3 λ_ _ z=>z;refine⟨D2,xX,_,rfl,e3,kp,λe he=>?_⟩;have DG:∀z,(ba (cU ((bo.map 56).map λh=>((Sum.inr h:aR),V.bl true)) []) 145).isSome=decide (z∈bo.map 56):=λz=>by
  rw [rC];by_cases c:z∈bo.map 56
  .rw [aA c,ff c];rfl
  rw [az c,gB c];rfl
 generalize cU ((bo.map 56).map λh=>((Sum.inr h:aR),V.bl true)) []=kE at DG;have YB:=(MK.trans s3).trans (ah he (.dK kE));have N6:=ah he (.dK kE) _ _ (s3 _ _ Rx);have Tc:upd H3 e (.dK kE) e=some (.dK kE):=ae;have MH:aE H2 (upd H3 e (.dK kE)):=s3.trans (ah he (.dK kE));generalize upd H3 e (.dK kE)=H4 at YB N6 Tc MH;have Xj:=MH _ _ e2;have wE4:pO K H4 De bo:=w2.keep λ_ _ z=>MH.tup z;refine⟨_,rfl,a,C,dx,_,rfl,N6,B.cls,B.a2,(by show 1 < 1000;decide),?_⟩;generalize Wi:dN "empty" (.ref e) (dN "empties" (.ref D1) [])=Lz;have Ru:upd H4 a (.ins C dx Lz) e=some (.dK kE):=by rw [aj (λz=>by rw [z,N6] at Tc;cases Tc)];exact Tc
 have Uo:aE H0 (upd H4 a (.ins C dx Lz)):=λc o hc=>by rw [aj (λz=>by rw [z,f0] at hc;cases hc)];exact YB c o hc
 have Z1:upd H4 a (.ins C dx Lz) a=some (.ins C dx Lz):=ae;have Xi:upd H4 a (.ins C dx Lz) D1=some (.lst (De.map V.ref)):=by rw [aj (λz=>by rw [z,N6] at Xj;cases Xj)];exact Xj
 have Yh:pO K (upd H4 a (.ins C dx Lz)) De bo:=wE4.keep λ_ _ z=>gZ N6 z;generalize upd H4 a (.ins C dx Lz)=H5 at Ru Uo Z1 Xi Yh;refine⟨oU,λbg NG=>?_⟩;have fbg:H0 bg=none:=Uo.free NG;have Te:upd H5 bg 128 bg=some 128:=ae;have YA:=Uo.trans (ah NG 128);have N4:=ah NG 128 _ _ Ru;have OW:=ah NG 128 _ _ Z1;have U8:D1≠bg:=aq Xi NG;have Tj:=ah NG 128 _ _ Xi;have Yg:pO K (upd H5 bg 128) De bo:=Yh.keep λ_ _ z=>(ah NG 128).tup z;generalize upd H5 bg 128=H6 at Te YA N4 OW Tj Yg;refine⟨_,rfl,a,C,dx,_,rfl,OW,B.cls,B.a3,(by rw [<-Wi];show 2 < 1000;decide),?_⟩;generalize Zm:dN "begins" (.ref bg) Lz=Kk;have N3:upd H6 a (.ins C dx Kk) e=some (.dK kE):=by rw [aj (λz=>by rw [z,OW] at N4;cases N4)];exact N4
 have ZZ:upd H6 a (.ins C dx Kk) bg=some 128:=by rw [aj (λz=>by rw [z,OW] at Te;cases Te)];exact Te
 have MJ:aE H0 (upd H6 a (.ins C dx Kk)):=λc o hc=>by rw [aj (λz=>by rw [z,f0] at hc;cases hc)];exact YA c o hc
 have Z0:upd H6 a (.ins C dx Kk) a=some (.ins C dx Kk):=ae;have dE7:upd H6 a (.ins C dx Kk) D1=some (.lst (De.map V.ref)):=by rw [aj (λz=>by rw [z,OW] at Tj;cases Tj)];exact Tj
 have Ye:pO K (upd H6 a (.ins C dx Kk)) De bo:=Yg.keep λ_ _ z=>gZ OW z;generalize upd H6 a (.ins C dx Kk)=H7 at N3 ZZ MJ Z0 dE7 Ye;refine⟨_,rfl,R,rs,aa,rfl,MJ.seq hR,cT.same MJ,∅,λD4 H8 f8 s8 e8=>?_⟩;have EM:=fw (aa.map 56) [];simp only [ix,aC] at EM;refine⟨D4,rfl,⟨_,aF.of e8⟩,λD5 OO=>ze (aF.of e8) ∅ OO λts ps H9 s9 e9 m9 p9 l9 n9=>?_⟩;have n1:(ps.map 56).Nodup:=by rw [m9];exact pJ _ jr
 have Ir:Paired (λt (kv:aR×V)=>aZ K H9 t [kV kv.1,kv.2]) ts (ps.map jm):=cO p9 λ_ _ z=>z;refine⟨D5,ts,_,rfl,e9,Ir,λd qD=>?_⟩;have Rp:cU (ps.map jm) []=ps.map jm:=oi _ [] (by
  rw [mZ,nY];exact wW n1)
 rw [Rp];have OA:=s8.trans s9;have sd:=ah qD (.dK (ps.map jm));have Az:=OA.trans sd;have qH:upd H9 d (.dK (ps.map jm)) d=some (.dK (ps.map jm)):=ae;have Nc:∀p∈ps,upd H9 d (.dK (ps.map jm)) p.2=some (.dK [])/\p.2≠d:=λp hp=>⟨sd _ _ (l9 p hp).1,λz=>by have:=(l9 p hp).1;rw [z,qD] at this;cases this⟩;generalize upd H9 d (.dK (ps.map jm))=lN at Az qH Nc;have Bv:=Az _ _ Z0;have xu:=Az _ _ N3;have N5:=Az _ _ ZZ;have Up:=MJ.trans Az;have Ob:=Az _ _ dE7;have TR:pO K lN De bo:=Ye.keep λ_ _ z=>Az.tup z;refine⟨_,rfl,a,C,dx,_,rfl,Bv,B.cls,B.a4,(by rw [<-Zm,<-Wi];show 3 < 1000;decide),?_⟩;have fp:∀p∈ps,H0 p.2=none/\p.2≠e:=λp hp=>by
  have ZH:H8 p.2=none:=(l9 p hp).2.1;refine⟨(MJ.trans s8).free ZH,λz=>?_⟩;have:=s8 _ _ N3;rw [<-z,ZH] at this;cases this
 have hfs:∃fs,dN "firsts" (.ref d) Kk=fs/\fs.lookup ("empty":Str)=some (.ref e)/\fs.lookup ("begins":Str)=some (.ref bg)/\fs.lookup ("firsts":Str)=some (.ref d)/\fs.lookup ("find_begins":Str)=none/\fs.lookup ("words_of_part":Str)=none/\fs.lookup ("empties":Str)=some (.ref D1):=by
  refine⟨_,rfl,?_⟩;rw [<-Zm,<-Wi];refine⟨?_,?_,?_,?_,?_,?_⟩ <;> rfl
 obtain⟨fs,efs,k1,k2,k3,k4,k5,k6⟩:=hfs;rw [efs];have EW:uB K C H0 (upd lN a (.ins C dx fs)) a e d bg kE bo ps []:=by
  refine⟨λc o hc=>by rw [aj (λz=>by rw [z,f0] at hc;cases hc)];exact Up c o hc,⟨dx,fs,ae,k1,k2,k3,k4,k5⟩,?_,?_,n1,n9,λp hp=>⟨⟨[],?_,rfl⟩,(fp p hp).1,(fp p hp).2,(Nc p hp).2⟩,⟨[],?_,.nil⟩,fbg,⟨D1,De,⟨dx,fs,ae,k6⟩,by rw [aj (λz=>by rw [z,Bv] at Ob;cases Ob)];exact Ob,TR.keep λ_ _ z=>gZ Bv z,U8⟩⟩
  .rw [aj (λz=>by rw [z,Bv] at xu;cases xu)];exact xu
  .rw [aj (λz=>by rw [z,Bv] at qH;cases qH)];exact qH
  .have:=(Nc p hp).1;rw [aj (λz=>by rw [z,Bv] at this;cases this)];exact this
  rw [aj (λz=>by rw [z,Bv] at N5;cases N5)];exact N5
 generalize upd lN a (.ins C dx fs)=ue at EW;have eb:(λz=>(ba kE 145).isSome)=λz=>decide (z∈bo.map 56):=funext DG;refine⟨1,rfl,?_⟩;refine⟨λmm σ xS=>∃(cP:List Be) (many:Int)(y2 y4:Option V),σ=[bc a,bc R,y2,some (.int many),y4]/\uB K C H0 xS a e d bg kE bo ps cP/\xT aa (hd aa) 266 cP/\-1<=many/\many<=cP.length /\
  (many=cP.length->KL aa (hd aa) 266 aa.length cP)/\(mm:Int)=80001 - many,⟨80002,[],-1,none,none,rfl,EW,.nil,∅,108,108,∅⟩,?_⟩
 rintro mm σ xS ⟨cP,many,y2,y4,rfl,IG,Oe,b1,b2,cl,em⟩;obtain⟨LH,ur,q1,q2,q3,q4,q5,q6⟩:=IG.ia;obtain⟨tb,Zu,Kh⟩:=IG.lb;have lb:=bT Kh;have Nh:=Oe.len bN h8;refine⟨_,rfl,_,rfl,a,C,LH,ur,_,rfl,q1,B.cls,B.a3,q3,bg,_,rfl,.inl (aF.of Zu),_,_,rfl,rfl,_,rfl,?_⟩;refine cC (λc=>?_) (λc=>?_)
 .have c':=dJ c;rw [aC,lb] at c';refine⟨λσ BQ=>∃(dS:List Be)(y2 y4:Option V),σ=[bc a,bc R,y2,some (.int (cP.length:Int)),y4]/\uB K C H0 BQ a e d bg kE bo ps dS/\xT aa (hd aa) 266 dS/\cP.length<=dS.length /\
   (dS.length=cP.length->dS=cP/\KL aa (hd aa) 266 aa.length cP),?_,?_⟩
  .rintro σ BQ ⟨dS,y2,y4,rfl,HY,Ew,Qm,Ku⟩;have:=Ew.len bN h8;refine⟨(80001 - cP.length:Int).toNat,∅,dS,_,_,_,rfl,HY,Ew,∅,∅,λz=>?_,∅⟩;obtain⟨HE,Bx⟩:=Ku ∅;rw [HE];exact Bx
  refine⟨_,rfl,a,C,LH,ur,_,rfl,q1,B.cls,B.a3,q3,bg,_,rfl,.inl (aF.of Zu),?_⟩;rw [aC,lb];refine⟨_,rfl,R,_,rfl,IG.sm.seq hR,?_⟩;refine kC (xs:=143) (λi σ BQ=>∃(dS:List Be)(y2 y4:Option V),σ=[bc a,bc R,y2,some (.int (cP.length:Int)),y4]/\uB K C H0 BQ a e d bg kE bo ps dS/\xT aa (hd aa) 266 dS/\cP.length<=dS.length /\
   (dS.length=cP.length->dS=cP/\KL aa (hd aa) 266 i cP)) ⟨cP,_,_,rfl,IG,Oe,aG _,λ_=>⟨rfl,λk ru hk=>by omega⟩⟩ ?_ ?_ ?_
  .rintro i σ BQ _ ⟨dS,y2,y4,rfl,HY,_⟩;exact HY.sm.seq hR
  .rintro i x σ BQ t ex ⟨dS,y2,y4,rfl,HY,Ew,Qm,Ku⟩ ht
   ac_nf0
   rw [bB] at ex;obtain⟨r,er,rfl⟩:=b9.mp ex;obtain⟨ru,sZ,rv⟩:=cT.get er;have pF:=cf sZ;have RQ:=HY.same (ah ht (.tup [163,.ref r]));have QB:aZ K (upd BQ t (.tup [163,.ref r])) t [163,.ref r]:=aZ.of ae;generalize upd BQ t (.tup [163,.ref r])=H14 at RQ QB;obtain⟨dx4,OQ,r1,r2,r3,r4,r5,r6⟩:=RQ.ia;refine⟨t,_,rfl,QB,rfl,_,_,rfl,_,_,rfl,rfl,?_⟩;refine⟨_,rfl,a,dx4,OQ,rfl,r1,r5,_,rfl,_,rfl,H0,a,e,d,bg,r,kE,bo,ps,dS,i,ru,aa,rfl,RQ,rv,sZ,h8 ru pF,by rw [m9];exact(gT _ _ _).mpr (.inr (i7 pF)),?_,?_,?_⟩
   .intro xB sU;have:=sU.len bN h8;omega
   .rw [m9,eb];exact Ew
   rw [m9,eb];intro Xs H15 XX Xr l15 Xo;refine⟨Xs,_,_,rfl,XX,Xr,∅,λhl3=>?_⟩;obtain⟨x1,x2⟩:=Ku ∅;obtain⟨x3,x4⟩:=Xo ∅;refine⟨x3.trans x1,λk Cq hk WS j z hj ez wd hw=>?_⟩;by_cases ck:k < i
   .exact x2 k Cq ck WS j z hj ez wd hw
   have:k=i:=by omega
   subst this;rw [sZ] at WS;cases WS;rw [<-x1] at hw ⊢;exact x4 j z hj ez wd hw
  rintro σ BQ ⟨dS,y2,y4,rfl,HY,Ew,Qm,Ku⟩;rw [aC,ll] at Ku;exact⟨dS,_,_,rfl,HY,Ew,Qm,Ku⟩
 have c':=of_decide_eq_false (pS.mpr c);rw [aC,lb] at c';exact q e d bg kE bo ps cP xS IG m9 emp HB DG Oe (cl ∅)
end
end eZ
namespace L2
open PySem PySem.W
section
variable {X:Cx}{ai:z0e}{σ:St}{H:Hp}{s:Shared}{a:Addr}{kvs:140}{k:aR}{u:Value}{A:Around}{E:z0b}
def N_ {r:Value}(I:121)(e:H a=184)(hl:kvs.length < sizeLine)(ry:RelV (kV k) u)(rz:RelV z r)
  (h1:∀v w' s',ba kvs k=some v->Inv X ai σ H s'->RelV v w'->Q w' s')(h2:ba kvs k=none->∀s',Inv X ai σ (upd H a (.dK (bP kvs k z))) s'->Q r s') :
  wpAny 146 A (call (.builtin "dict.setdefault") [.ref a,u,r]) Q E s:=by
 obtain⟨zl,hd,vs,rel,dd⟩:=yV I.bw e;refine call_meetsIn PySem.F.slot_dict_setdefault dd.typeIs PySem.F.entry_dict_setdefault (PySem.F.args_dict_setdefault_3 _ _ _) (kt_meets_setdefault (aX X.prog X.w) a (lH ry) hd r)
  ⟨vs,dd,by rw [<-rel.length];exact zl,λv hv=>?_,λhn h' ID hs=>?_⟩
 .have rv:=rel.val k;rw [hv] at rv;cases e2:ba kvs k with
  | none=>rw [e2] at rv;cases rv
  | some x=>rw [e2] at rv;exact h1 x v _ e2 (I.tok _) rv
 have Lu:ba kvs k=none:=by
  have rv:=rel.val k;rw [hn] at rv;cases e2:ba kvs k with
  | none=>rfl
  | some x=>rw [e2] at rv;cases rv
 have he:∃q,h'.get? a=some q:=let ⟨q,_,_,hq,_⟩:=ID;⟨q,hq⟩;exact h2 Lu _ (qV I (by rw [e];exact True.intro) hs he (tE (by have:=dZ kvs k z;omega) hd (rel.put k rz) ID))
end
section
variable {X:Cx}{o e f:Expr}{apos fh:Pos}{td ty tx:TE}
def Mp (td ty tx:TE):TE:=λσ H Q=>td σ H λx H1=>∃a,x=.ref a/\Tv H1 a/\ty σ H1 λy H2=>tx σ H2 λz H3=>∃kvs k,H3 a=184/\y=kV k/\kvs.length < sizeLine /\
 (∀v,ba kvs k=some v->Q v H3)/\(ba kvs k=none->Q z (upd H3 a (.dK (bP kvs k z))))
def Gb (ho:PE X o td)(he:PE X e ty)(hf:PE X f tx)(m:M2 X o "setdefault" apos e f fh):PE X (.Call (.Attribute o "setdefault" apos) [e,f] [] fh) (Mp td ty tx):=by
 intro ai s σ H Q I h;refine wpAny_Call_method m.base m.SS m.line zM PySem.F.slot_dict_setdefault PySem.F.type_dict_setdefault (cE (ho ai s σ H _ I h) λu s1 aW=>?_);obtain⟨x,H1,I1,rx,a,ex,d,q1⟩:=aW;subst ex;obtain rfl:u=Value.ref a:=rx;obtain⟨t1,t2,_⟩:=Bd I1 d;refine⟨t1,t2,?_⟩;rw [m.trees];refine vQ rfl (vI (pV (cE (he ai s1 σ H1 _ I1 q1) λiv s2 ⟨y,H2,I2,ry,q2⟩ =>
  pV (cE (hf ai s2 σ H2 _ I2 q2) λfv s3 ⟨z,H3,I3,rz,kvs,k,ea,ey,hl,q3,q4⟩=>rh ?_))))
 subst ey;exact N_ I3 ea hl ry rz (λv w' s4 l I4 AB=>⟨v,_,I4,AB,q3 v l⟩) λl s4 I4=>⟨z,_,I4,rz,q4 l⟩
end
end L2
namespace eZ
open PySem L2 M11
section
def PU {ps:z0f}(n1:(ps.map 56).Nodup)(n2:(ps.map (·.2)).Nodup){p p':Str×Addr}(hp:p∈ps)(mF:p'∈ps)(z:p'≠p):p'.1≠p.1/\p'.2≠p.2:=by
 refine⟨λq=>z ?_,λq=>z ?_⟩
 .have w1:=gG ps n1 p' mF;have w2:=gG ps n1 p hp;rw [q,w2] at w1;injection w1 with w3;injection w3 with w4;exact Prod.ext q w4.symm
 obtain⟨i,hi,ei⟩:=pY.mp mF;obtain⟨j,hj,ej⟩:=pY.mp hp;have Iw:i=j:=by
  refine(rj (xs:=ps.map (·.2)) (h₀:=by simpa using hi) (h₁:=by simpa using hj) n2).mp ?_;rw [oM,oM,ei,ej];exact q
 subst Iw;exact ei.symm.trans ej
structure IH (ps:z0f)(st:Str->z0s)(H:Hp)(d:Addr):Prop where
 hd:H d=some (.dK (ps.map jm))
 n1:(ps.map 56).Nodup
 n2:(ps.map (·.2)).Nodup
 lst:∀p∈ps,H p.2=some (.lst ((st p.1).map V.int))
def IH.same {ps:z0f}{st:Str->z0s}{d:Addr}(h:IH ps st H d)(s:aE H H'):IH ps st H' d:=⟨s _ _ h.hd,h.n1,h.n2,λp hp=>s _ _ (h.lst p hp)⟩
def CW (st:Str->z0s)(n:Str) (k:Int):Str->z0s:=λz=>if z=n then st z++[k] else st z
def IH.more {ps:z0f}{st:Str->z0s}{d:Addr}(h:IH ps st H d){p:Str×Addr}(hp:p∈ps) (k:Int):IH ps (CW st p.1 k) (upd H p.2 (.lst ((st p.1).map V.int++[.int k]))) d:=by
 have a:=h.lst p hp;have nd:d≠p.2:=λz=>by have:=h.hd;rw [z,a] at this;cases this
 refine⟨by rw [aj nd];exact h.hd,h.n1,h.n2,λp' mF=>?_⟩;by_cases z:p'=p
 .rw [z,ae];have e1:CW st p.1 k p.1=st p.1++[k]:=aA rfl;rw [e1,bA];rfl
 obtain⟨a1,a2⟩:=PU h.n1 h.n2 hp mF z;have e1:CW st p.1 k p'.1=st p'.1:=az a1;rw [aj a2,e1];exact h.lst p' mF
def Fm (K:aV):Sp:=λvs H Q _=>∃(R:Addr)(rs:z0o)(aa:113),vs=[.ref R]/\aF K H R 162/\bj K H rs aa/\aa.length<=1000 /\
 ∀(d:Addr)(ps:z0f)(H':Hp),H d=none->aE H H'->IH ps (λn=>nums aa n aa.length) H' d->ps.map 56=hd aa->(∀p∈ps,H p.2=none)->Q (.ref d) H'
def wA:aJ ["rules","numbers","number","rule"] ["rules"] (av FA):=182
def JF (F:iu K "numbers_by_name" "numbers_by_name" FA f fd)(T:Txt mg)(GH:aL P w K mg base 1 "heads_of" ["rules"] (kJ K)):bF P w K mg base fN 2 f fd ["rules"] (Fm K):=by
 refine F.ok wA 186 195
 .obtain⟨R,rs,aa,rfl,_⟩:=h;rfl
 obtain⟨R,rs,aa,rfl,hR,cT,bN,q⟩:=h;have hu:=fU hr;refine⟨_,ao (aD (i:=1) wA.nd rfl 116 (bh (d5 rfl) rfl T.xO fk (af
   (bV ["name"] [] rfl (bq (bU GH hr rfl (af (pv 0) ak))) (bH rfl rfl) nofun rfl nofun
    (λ_ _ _ _ _=>ay (i:=0) (show (["name"]:z0r).Nodup by decide +kernel) rfl 116) (λ_ _ _ _ _=>cJ)
    (λ_ _ _ _ _=>bJ (af (pv 0) (af (bu ak) ak)))) ak)))
  (ao (b_ cD rfl (nV rfl T.IB (af (pv 0) ak)) (e_ rfl (aI (ay (i:=2) wA.nd rfl 116) (aI (ay (i:=3) wA.nd rfl 116) cy)))
   (ar (cv (dY fY gE gF bR (eG hu (pv 1) (aO cz (pv 3) au 144) 144) (af (pv 2) ak)))))
  (ar (br (pv 1)))),?_⟩
 nofun
 have ll:=bT cT;refine⟨_,rfl,R,rs,aa,rfl,hR,cT,bN,λD2 H3 f3 s3 e3=>?_⟩;have EM:=fw (aa.map 56) [];simp only [ix,aC] at EM;refine⟨D2,rfl,⟨_,aF.of e3⟩,λD3 Lx=>tI (aF.of e3) ∅ Lx λts ps H4 s4 e4 m4 p4 l4 n4=>?_⟩;have n1:(ps.map 56).Nodup:=by rw [m4];exact pJ _ jr
 have Ir:Paired (λt (kv:aR×V)=>aZ K H4 t [kV kv.1,kv.2]) ts (ps.map jm):=cO p4 λ_ _ z=>z;refine⟨D3,ts,_,rfl,e4,Ir,λd qD=>?_⟩;have Rp:cU (ps.map jm) []=ps.map jm:=oi _ [] (by
  rw [mZ,nY];exact wW n1)
 rw [Rp];have s5:=(s3.trans s4).trans (ah qD (.dK (ps.map jm)));have Dj:=ah qD (.dK (ps.map jm));have xN:H d=none:=(s3.trans s4).free qD;have S5:IH ps (λn=>nums aa n 0) (upd H4 d (.dK (ps.map jm))) d:=⟨ae,n1,n4,λp hp=>Dj _ _ (l4 p hp).1⟩;have OR:∀p∈ps,H p.2=none:=λp hp=>s3.free (l4 p hp).2.1;generalize upd H4 d (.dK (ps.map jm))=H5 at s5 S5;clear Dj;refine⟨_,rfl,R,_,rfl,s5.seq hR,?_⟩
 let BN:BO:=λi σ H6=>∃(y2 y3:Option V),σ=[bc R,bc d,y2,y3]/\aE H H6/\IH ps (λn=>nums aa n i) H6 d
 refine kC (xs:=143) BN ⟨none,none,rfl,s5,S5⟩ ?_ ?_ ?_
 .rintro i σ H6 _ ⟨y2,y3,rfl,s6,_⟩;exact s6.seq hR
 .rintro i x σ H6 t ex ⟨y2,y3,rfl,s6,S6⟩ ht
  ac_nf0
  rw [bB] at ex;obtain⟨r,er,rfl⟩:=b9.mp ex;obtain⟨ru,sZ,p,v1,v2⟩:=cT.get er;have pF:=cf sZ;have li:=(bM.mp sZ).1;have Ik:=ah ht (.tup [163,.ref r]);have Lp:aZ K (upd H6 t (.tup [163,.ref r])) t [163,.ref r]:=aZ.of ae;have s7:=s6.trans Ik;have S7:=S6.same Ik;generalize upd H6 t (.tup [163,.ref r])=H7 at Lp s7 S7;obtain⟨pn,yP,zI⟩:∃pn∈ps,pn.1=ru.1:=by
   have:ru.1∈ps.map 56:=by rw [m4];exact(gT _ _ _).mpr (.inr (i7 pF))
   obtain⟨pn,a,b⟩:=cQ.mp this;exact⟨pn,a,b⟩
  have an:=S7.lst pn yP;have vn:=gG ps n1 pn yP;rw [zI] at vn;have hg:cq H7 d (.str ru.1) (some (.ref pn.2)):=by
   have:=cq.k (k:=Sum.inr ru.1) S7.hd;rw [vn] at this;exact this
  have ln:=yu aa pn.1 i;refine⟨t,_,rfl,Lp,rfl,_,_,rfl,_,_,rfl,rfl,?_⟩;refine⟨_,rfl,_,rfl,r,_,_,_,rfl,rfl,s7.tup v1,rfl,d,_,rfl,hg,.inl ⟨rfl,_,aF.of an⟩,_,rfl,pn.2,_,_,rfl,rfl,an,210,?_⟩;have S8:=S7.more yP (i:Int);refine⟨_,_,rfl,λb o hb=>by rw [aj (λz=>by rw [z,OR pn yP] at hb;cases hb)];exact s7 b o hb,S8.hd,S8.n1,S8.n2,λp' mF=>?_⟩;have:=S8.lst p' mF;rw [this]
  congr 3
  unfold CW;rw [Dz];by_cases c:p'.1=pn.1
  .rw [aA c,aA];unfold OF;rw [sZ,c,zI];simp
  rw [az c,az,eE];unfold OF;rw [sZ];intro z;have z2:=dJ z;injection z2 with z3;exact c (by rw [zI];exact z3.symm)
 rintro σ H6 ⟨y2,y3,rfl,s6,S6⟩;rw [aC,ll] at S6;exact⟨_,rfl,q d ps H6 xN s6 S6 m4 OR⟩
def KZ (K:aV):Sp:=λvs H Q _=>∃(R:Addr)(rs:z0o)(aa:113),vs=[.ref R]/\aF K H R 162/\bj K H rs aa/\aa.length<=1000/\250 /\
 ∀(d:Addr)(H':Hp),H d=none->aE H H'->Q (.ref d) H'
structure EU (H0 H:Hp)(d:Addr)(kvs:140) (n:Nat):Prop where
 hd:H d=184
 ln:kvs.length<=n
 lst:∀kv∈kvs,∃a xs,kv.2=.ref a/\H a=some (.lst xs)/\H0 a=none/\xs.length<=n
def EU.same {d:Addr}{n:Nat}(h:EU H0 H d kvs n)(s:aE H H'):EU H0 H' d kvs n:=⟨s _ _ h.hd,h.ln,λkv hk=>let ⟨a,xs,e1,e2,e3,e4⟩:=h.lst kv hk;⟨a,xs,e1,s _ _ e2,e3,e4⟩⟩
def EU.more {d a:Addr}{n:Nat}{xs:115}{y:V}(h:EU H0 H d kvs (n+1))(ha:H a=some (.lst xs))(lx:xs.length<=n)(l2:∀kv∈kvs,∃a xs,kv.2=.ref a/\H a=some (.lst xs)/\H0 a=none/\xs.length<=n):EU H0 (upd H a (.lst (xs++[y]))) d kvs (n+1):=by
 have nd:d≠a:=λz=>by have:=h.hd;rw [z,ha] at this;cases this
 refine⟨by rw [aj nd];exact h.hd,h.ln,λkv hk=>?_⟩;obtain⟨b,ys,e1,e2,e3,e4⟩:=l2 kv hk;by_cases c:b=a
 .exact⟨b,xs++[y],e1,by rw [c,ae],e3,by rw [bO];simp;omega⟩
 exact⟨b,ys,e1,by rw [aj c];exact e2,e3,∅⟩
def Me {k:aR}{v:V}(h:ba kvs k=some v):∃kv∈kvs,kv.2=v:=by
 unfold ba at h;obtain⟨kv,e1,e2⟩:=b9.mp h;exact⟨kv,List.mem_of_find?_eq_some e1,e2⟩
def uQ:aJ ["rules","standings","number","rule","place","part"] ["rules"] (av MA):=182
def M3 (F:iu K "standings_by_part" "standings_by_part" MA f fd)(T:Txt mg):bF P w K mg base fN 1 f fd ["rules"] (KZ K):=by
 refine F.ok uQ 186 195
 .obtain⟨R,rs,aa,rfl,_⟩:=h;rfl
 obtain⟨R,rs,aa,rfl,hR,cT,bN,h8,q⟩:=h;have hu:=fU hr;refine⟨_,ao (aD (i:=1) uQ.nd rfl 116 fg)
  (ao (b_ cD rfl (nV rfl T.IB (af (pv 0) ak)) (e_ rfl (aI (ay (i:=2) uQ.nd rfl 116) (aI (ay (i:=3) uQ.nd rfl 116) cy)))
   (ar (b_ cD rfl (nU rfl T.IB (af (aO cz (pv 3) au 144) ak)) (e_ rfl (aI (ay (i:=4) uQ.nd rfl 116) (aI (ay (i:=5) uQ.nd rfl 116) cy)))
    (ar (cv (dY fY gE gF bR (Gb (pv 1) (pv 5) (bu ak) ⟨rfl,rfl,rfl,rfl⟩) (af (bJ (af (pv 2) (af (pv 4) ak))) ak)))))))
  (ar (br (pv 1)))),?_⟩
 nofun
 have ll:=bT cT;intro d qD;have s1:=ah qD (.dK []);have S1:EU H (upd H d (.dK [])) d [] (8 * 0):=⟨ae,aG _,λkv hk=>by cases hk⟩;generalize upd H d (.dK [])=H1 at s1 S1;refine⟨_,rfl,R,_,rfl,s1.seq hR,?_⟩
 let KG:BO:=λi σ H6=>∃(kvs:140)(y2 y3 y4 y5:Option V),σ=[bc R,bc d,y2,y3,y4,y5]/\aE H H6/\EU H H6 d kvs (8 * i)
 refine kC (xs:=143) KG ⟨[],none,none,none,none,rfl,s1,S1⟩ ?_ ?_ ?_
 .rintro i σ H6 _ ⟨kvs,y2,y3,y4,y5,rfl,s6,_⟩;exact s6.seq hR
 .rintro i x σ H6 t ex ⟨kvs,y2,y3,y4,y5,rfl,s6,S6⟩ ht
  ac_nf0
  rw [bB] at ex;obtain⟨r,er,rfl⟩:=b9.mp ex;obtain⟨ru,sZ,p,v1,v2⟩:=cT.get er;have pF:=cf sZ;have Ly:=h8 ru pF;have li:=(bM.mp sZ).1;have Ik:=ah ht (.tup [163,.ref r]);have Lp:aZ K (upd H6 t (.tup [163,.ref r])) t [163,.ref r]:=aZ.of ae;have s7:=s6.trans Ik;have S7:=S6.same Ik;generalize upd H6 t (.tup [163,.ref r])=H7 at Lp s7 S7;refine⟨t,_,rfl,Lp,rfl,_,_,rfl,_,_,rfl,rfl,?_⟩;refine⟨_,rfl,r,_,_,_,rfl,rfl,s7.tup v1,rfl,p,_,rfl,s7.tup v2,?_⟩
  let X4:BO:=λj σ H9=>∃(kvs:140)(y4 y5:Option V),σ=[bc R,bc d,some (163),bc r,y4,y5]/\aE H H9/\EU H H9 d kvs (8 * i+j)
  refine pH (xs:=ru.2.map V.str) X4 ⟨kvs,_,_,rfl,s7,S7⟩ ?_ ?_ ?_
  .rintro j σ H9 _ ⟨kvs,y4,y5,rfl,s9,_⟩;exact s9.tup v2
  .rintro j x σ H9 t2 Hy ⟨kvs,y4,y5,rfl,s9,S9⟩ iL
   ac_nf0
   rw [bB] at Hy;obtain⟨z,ez,rfl⟩:=b9.mp Hy;have lj:=(bM.mp ez).1;have ye:=ah iL (.tup [.int (j:Int),.str z]);have G7:aZ K (upd H9 t2 (.tup [.int (j:Int),.str z])) t2 [.int (j:Int),.str z]:=aZ.of ae;have oC:=s9.trans ye;have LU:=S9.same ye;generalize upd H9 t2 (.tup [.int (j:Int),.str z])=lN at G7 oC LU;refine⟨t2,_,rfl,G7,rfl,_,_,rfl,_,_,rfl,rfl,?_⟩;have lk:=LU.ln;refine⟨_,rfl,d,rfl,.inl ⟨kvs,.inl LU.hd⟩,_,rfl,oU,λl hl=>?_⟩;have wI:=ah hl 128;have vi:upd lN l 128 l=some 128:=ae;have fl:H l=none:=oC.free hl;have EW:=LU.same wI;have sA:=oC.trans wI;generalize upd lN l 128=ue at wI vi EW sA;have fin:∀(a:Addr)(xs:115)(mx:140)(xS:Hp),xS a=some (.lst xs)->H a=none->xs.length<=8 * i+j->EU H xS d mx (8 * i+j+1)->(∀kv∈mx,∃a xs,kv.2=.ref a/\xS a=some (.lst xs)/\H a=none/\xs.length<=8 * i+j)->aE H xS ->
     ∀t4,xS t4=none->xs.length < sizeLine/\∃(kvs:140)(y4 y5:Option V),[some (V.ref R),bc d,some (163),bc r,some (.int (j:Int)),some (.str z)]=[bc R,bc d,some (163),bc r,y4,y5]/\aE H (upd (upd xS t4 (.tup [163,.int (j:Int)])) a (.lst (xs++[.ref t4])))/\EU H (upd (upd xS t4 (.tup [163,.int (j:Int)])) a (.lst (xs++[.ref t4]))) d kvs (8 * i+(j+1)) :=
    λa xs mx xS ea fa lx IG Qn K3 t4 DR=>by
     have AA:=ah DR (.tup [163,.int (j:Int)]);refine⟨bx ∅,mx,_,_,rfl,λb o hb=>by rw [aj (λz=>by rw [z,fa] at hb;cases hb)];exact AA _ _ (K3 b o hb),?_⟩;exact(IG.same AA).more (AA _ _ ea) lx λkv hk=>let ⟨b,ys,e1,e2,e3,e4⟩:=Qn kv hk;⟨b,ys,e1,AA _ _ e2,e3,e4⟩
   refine⟨kvs,127,EW.hd,rfl,bx ∅,λv hv=>?_,λhn=>?_⟩
   .obtain⟨kv,hk,ek⟩:=Me hv;obtain⟨a,xs,e1,e2,e3,e4⟩:=EW.lst kv hk;rw [e1] at ek;subst ek;refine⟨.inl ⟨rfl,_,aF.of e2⟩,_,rfl,_,rfl,lX,λt4 DR=>?_⟩;obtain⟨g1,g2⟩:=fin a xs kvs ue e2 e3 e4 ⟨EW.hd,∅,λkv hk=>let ⟨b,ys,e1,e2,e3,e4⟩:=EW.lst kv hk;⟨b,ys,e1,e2,e3,∅⟩⟩ EW.lst sA t4 DR;exact⟨a,_,_,rfl,rfl,ah DR _ _ _ e2,g1,g2⟩
   have nd:d≠l:=λz=>by have:=EW.hd;rw [z,vi] at this;cases this
   have LG:upd ue d (.dK (bP kvs 145 (.ref l))) l=some 128:=by rw [aj nd.symm];exact vi
   have xN:H d=none:=qD;have K3:aE H (upd ue d (.dK (bP kvs 145 (.ref l)))):=λb o hb=>by rw [aj (λz=>by rw [z,xN] at hb;cases hb)];exact sA b o hb
   have Qn:∀kv∈bP kvs 145 (.ref l),∃a xs,kv.2=.ref a/\upd ue d (.dK (bP kvs 145 (.ref l))) a=some (.lst xs)/\H a=none/\xs.length<=8 * i+j:=λkv hk=>by
    rw [yi _ hn] at hk;rcases cK.mp hk with h | h
    .obtain⟨b,ys,e1,e2,e3,e4⟩:=EW.lst kv h;exact⟨b,ys,e1,by rw [aj (λz=>by rw [z,EW.hd] at e2;cases e2)];exact e2,e3,e4⟩
    rw [bD.mp h];exact⟨l,[],rfl,LG,fl,108⟩
   have lp:=dZ kvs (127:aR) (.ref l);have IG:EU H (upd ue d (.dK (bP kvs 145 (.ref l)))) d (bP kvs 145 (.ref l)) (8 * i+j+1):=⟨ae,∅,λkv hk=>let ⟨b,ys,e1,e2,e3,e4⟩:=Qn kv hk;⟨b,ys,e1,e2,e3,∅⟩⟩;generalize upd ue d (.dK (bP kvs 145 (.ref l)))=xS at LG K3 Qn IG;refine⟨.inl ⟨rfl,_,aF.of LG⟩,_,rfl,_,rfl,lX,λt4 DR=>?_⟩;obtain⟨g1,g2⟩:=fin l [] _ xS LG fl 125 IG Qn K3 t4 DR;exact⟨l,_,_,rfl,rfl,ah DR _ _ _ LG,g1,g2⟩
  rintro σ H9 ⟨kvs,y4,y5,rfl,s9,S9⟩;rw [aC] at S9;refine⟨kvs,_,_,_,_,rfl,s9,S9.hd,by have:=S9.ln;omega,λkv hk=>let ⟨b,ys,e1,e2,e3,e4⟩:=S9.lst kv hk;⟨b,ys,e1,e2,e3,∅⟩⟩
 rintro σ H6 ⟨kvs,y2,y3,y4,y5,rfl,s6,S6⟩;exact⟨_,rfl,q d H6 qD s6⟩
end
end eZ
namespace L2
open PySem PySem.W PyProof.Rows
section
variable {n:Nat}{lt:Nat->Nat->Bool}{cmp:Nat->Nat->(Bool->Shared->Prop)->Shared->Prop}{s:Shared}
end
open PySem PySem.Spec PyProof.Rows
def Inv.Ql {X:Cx}{σ:St}{s:Shared}{h':Heap}{a:Addr}{o:HO}(I:121)(k:∀b u,b≠X.env.locals->s.heap.get? b=some u->h'.get? b=some u)
  (ns:∀m,s.heap.Ns X.env.locals m->h'.Ns X.env.locals m)(hp:s.heap.get? a=none)(hn:H a=none)(new:b8 X.prog X.w (upd H a o) h' a o):Inv X ai σ (upd H a o) { s with heap:=h',toks:=t' }:=by
 have ne:∀b u,s.heap.get? b=some u->b≠a:=λb u q z=>by rw [z,hp] at q;cases q
 refine I.step (g':=s.gens) (d':=s.drawn) (ch:=[]) (λ_ z=>nomatch z) (λb u hb _ _ e _=>k b u hb e) (λb u hb _ _ e _=>⟨u.slots,k b u hb e⟩) (λb u _ e n=>by rw [aj (ne b u e)];exact n)
  (λb u _ e=>?_) (λb xs q=>by rw [aj (aq q hn)];exact q) (λb u xs q=>by rw [aj (aq q hn)];exact q) (λb ps q=>⟨#[],by rw [aj (aq q hn),q];simp⟩) ns (λb u e=>?_) I.bare
 .by_cases hb:b=X.env.locals
  .obtain⟨m,hm,_⟩:=I.loc;obtain⟨o',_,_,J0,_⟩:=ns m hm;exact⟨o',by rw [hb];exact J0⟩
  exact⟨u,k b u hb e⟩
 by_cases hb:b=a
 .subst hb;rw [ae] at e;cases e;exact new
 rw [aj hb] at e;refine(I.bw b u e).gH (λc v hc q=>k c v ?_ q) (λc q=>by rw [aj (aq q hn)];exact q) λc xs q=>by rw [aj (aq q hn)];exact q
 rintro rfl;rcases hc with rfl | hc
 .rw [I.free] at e;cases e
 rw [I.free] at hc;cases hc
def Gn {w:World}{h:Heap}{a:Addr}{o:HO}(x:b8 P w H h a o):∃u,h.get? a=some u:=by
 cases o with
 | lst xs=>obtain⟨_,_,_,_,e⟩:=x;exact⟨_,e⟩
 | tup xs=>obtain⟨_,_,_,ob,e,_⟩:=x;exact⟨_,e⟩
 | dK kvs=>obtain⟨_,_,_,_,o,_,_,e,_⟩:=x;exact⟨_,e⟩
 | dT kvs=>obtain⟨_,_,_,_,o,_,_,e,_⟩:=x;exact⟨_,e⟩
 | set S n=>obtain⟨o,_,_,_,e,_⟩:=x;exact⟨_,e⟩
 | ins C dx fs=>obtain⟨_,_,_,e,_⟩:=x;exact⟨_,e⟩
 | own y=>obtain⟨_,e⟩:=x;exact⟨_,e⟩
 | xd fs=>obtain⟨_,⟨_,_,_,e,_⟩,_⟩:=x;exact⟨_,e⟩
 | Im lo hi=>obtain⟨_,_,_,e⟩:=x;exact⟨_,e⟩
 | kT ob u=>obtain⟨e,_⟩:=x;exact⟨_,e⟩
 | ub ps=>exact⟨_,(show h.get? a=some _ from x)⟩
 | met f y=>exact⟨_,(show h.get? a=some _ from x)⟩
 | ext φ=>obtain⟨_,⟨_,e⟩,_⟩:=x;exact⟨_,e⟩
open PySem PySem.Spec PyProof.Rows PySem.W
section
variable {P:Program}{w:World}{A:Around}{E:z0b}{s:Shared}
def G3 {f c' c d:Addr}{scope:Scope}{cl:z0f}{xs xh:Str}{t:Tok}{u:Value}{oc:Obj}
  (QJ:A.depth < recursionLimit)(nl:s.heap.NoLimit)(hf:s.heap.get? f=some (kla_obj "<lambda>" q params (.Subscript (.Name xs p1) (.Name xh p2) p3) scope cl pm c' fV))(hc:s.heap.CodeRec (.ref c') q)
  (hb:∀us:z0m,us.length=1->bindArgs (kla_fn "<lambda>" q params (.Subscript (.Name xs p1) (.Name xh p2) p3) scope cl pm (.ref c') fV) ⟨us,[]⟩=pure ([xh].zip us))
  (hk:scope.kind=.function)(Wo:scope.isCoroutine=false)(NB:scope.isGenerator=false)(V4:∀x∈scope.names,x.2≠.cell)(hh:scope.names.lookup xh=some .local)(hs:scope.names.lookup xs=some .free)
  (pG:cl.lookup xs=some c)(ho:s.heap.get? c=some oc)(zE:oc.data=.cell (some (.ref d)))(dd:s.heap.DictOf (aX P w) d vs)(hv:valueAt vs 145=some u)
  (d1:(xs == ("__debug__":Str))=false)(d2:(xh == ("__debug__":Str))=false)(d3:(xs == ("__classdict__":Str))=false)
  (h:∀h' tk,(∀b o,178->h'.get? b=111)->Q u { s with heap:=h',toks:=tk }):wpAny (model P w) A (call (.ref f) [.str z t]) Q E s:=by
 refine fC (kla_callFunE QJ hf rfl Wo NB rfl hc ?_);rw [hb [.str z t] rfl];refine aK (wpAny_newFunctionEnv V4 (λx hx=>?_) (λh₁ qR Sy=>⟨nl.fresh _ Sy,?_⟩) hk)
 .have:x=(xh,Value.str z t):=by simpa using hx
  rw [this];exact hh
 show codeAny _ _ (.expr (.Subscript (.Name xs p1) (.Name xh p2) p3) (envX q scope s.heap.objs.size f (.ref c') cl)) _ _;have k1:∀b o,178->h₁.get? b=111:=λb o e=>Sy.extBut b o (bp (aP e)) (a_ _ e);refine kla_codeExpr (B5 PySem.F.slot_dict_getitem.lookup 144 ?_);refine wpAny_Name (wpAny_loadName_free hk hs pG ⟨oc,k1 _ _ ho,zE⟩ ?_ d3) d1;refine wpAny_Name (vL hk hh qR (show ([(xh,Value.str z t)]:z0d).reverse.lookup xh=some (.str z t) by simp [List.lookup]) ?_) d2;have dd1:h₁.DictOf (aX P w) d vs:=by
  obtain⟨o,es,ep,g,r⟩:=dd;exact⟨o,es,ep,k1 _ _ g,r⟩
 refine⟨dd1.typeIs,wpAny_getItem_of (lH (k:=127) ⟨t,rfl⟩) dd1.mapOf hv ?_⟩;exact h h₁ _ k1
end
section
variable {X:Cx}{params:Arguments}{body:Expr}{scope:Scope}{pos:Pos}{c T:Addr}
abbrev iV (X:Cx)(params:Arguments)(body:Expr)(scope:Scope)(cl:z0f)(c':Addr)(fV:Value):Obj:=kla_obj "<lambda>" (X.env.qual ++ "<lambda>") params body scope cl ((X.mg "__name__").getD .none) c' fV
def Pj (X:Cx)(params:Arguments)(body:Expr)(scope:Scope)(pos:Pos)(T:Addr):TE:=λσ H Q=>Tab T pos (X.env.qual ++ "<lambda>") H /\
 ∀f c' fV cl H',KH X.env scope cl->fq T H H'->Tab T pos (X.env.qual ++ "<lambda>") H'->H f=none->H' f=some (pB f (iV X params body scope cl c' fV))->H' c'=some (jQ c' (X.env.qual ++ "<lambda>"))->Q (.ref f) H'
def Jw (sQ:X.env.code=.ref c)(hC:codeHdIn X.K c T=true)(hB:t_ X.mg X.base)(n_:∀y,(y,NameKind.free)∈scope.names->X.env.scope.names.lookup y=some .cell)(Hh:defaultsOf params X.env=([],[]):=by rfl):PE X (.Lambda params body scope pos) (Pj X params body scope pos T):=by
 intro ai s σ H Q I h;obtain⟨⟨ps,hT,ht,Hi⟩,q⟩:=h;refine kla_eval Hh ?_;obtain⟨cl,pG⟩:=xy (env:=X.env) (scope:=scope) λy hy=>I.ok.has y (.inl (n_ y hy));have NI:s.heap.get? T=some (tabObj ps):=(show b8 X.prog X.w H s.heap T (.ub ps) from I.bw T _ hT);have hg:=I.mod.glob.keeps I.bk;have C:=codeHd_of_K I.kx hC;obtain⟨bm,ob,b1,b2,b3,b4,b5,b6,b7⟩:=hB;have XE:=I.bk _ _ b4;have U5:bm≠T:=λz=>by
  have:=(I.bs _ _ b4).2;rw [z,hT] at this;cases this
 have UZ:mainGlobals≠T:=λz=>by
  obtain⟨o,es,ep,e,d,_⟩:=hg;rw [z,NI] at e;cases e;cases d
 have Rh:s.heap.BuiltinsAt X.mg T:=⟨bm,ob,b1,b2,b3,U5,XE,b5,b6,b7⟩;have Ig:∀b v,H b=some v->b < s.heap.objs.size:=λb v e=>I.bw.lt e;rcases Hi with QS | ⟨c',hf,iK⟩
 .refine kla_makeFunction pG.eq I.ok.glob hg sQ C NI ht QS UZ Rh λc' fV h' tk hx J_ iM G8 QD=>?_;have hcr:∃oc,h'.get? c'=some oc:=by
   obtain⟨c2,oc,vs,t,e,zE,_⟩:=G8;cases e;exact⟨oc,zE⟩
  have sO:h'.objs.size > s.heap.objs.size:=oR J_ iM;have keep:∀b o,b≠T->178->(h'.push (iV X params body scope cl c' fV)).get? b=111:=λb o n e=>a_ _ (hx b o n e)
  let H':Hp:=upd (upd (upd H T (.ub (ps++#[rawInt pos.line,rawInt pos.col,.ref c']))) c' (jQ c' (X.env.qual ++ "<lambda>"))) h'.objs.size (pB h'.objs.size (iV X params body scope cl c' fV))
  have A5:∀b v,H b=some v->b≠c'/\b≠h'.objs.size:=λb v e=>⟨bp (dX (Ig b v e) J_),bp (lQ (Ig b v e) sO)⟩;have U4:c'≠h'.objs.size:=bp iM;have Qc:=A5 T _ hT;have eT:H' T=some (.ub (ps++#[rawInt pos.line,rawInt pos.col,.ref c'])):=by
   show upd (upd (upd H T _) c' _) h'.objs.size _ T=_;rw [aj Qc.2,aj Qc.1,ae]
  have ec:H' c'=some (jQ c' (X.env.qual ++ "<lambda>")):=by
   show upd (upd (upd H T _) c' _) h'.objs.size _ c'=_;rw [aj U4,ae]
  have ef:H' h'.objs.size=some (pB h'.objs.size (iV X params body scope cl c' fV)):=ae;have eo:∀b,b≠T->b≠c'->b≠h'.objs.size->H' b=H b:=λb n1 n2 n3=>by
   show upd (upd (upd H T _) c' _) h'.objs.size _ b=_;rw [aj n3,aj n2,aj n1]
  have sT:fq T H H':=λb o n e=>by rw [eo b n (A5 b o e).1 (A5 b o e).2];exact e
  have I2:Inv X ai σ H' { s with heap:=h'.push (iV X params body scope cl c' fV),toks:=tk }:=by
   refine I.call (g':=s.gens) (t':=tk) (d':=s.drawn) (ch:=[]) ⟨λb o e n _ _=>keep b o (λz=>by rw [z,hT] at n;cases n) e,λb o e n _ _=>⟨o.slots,keep b o (λz=>by rw [z,hT] at n;cases n) e⟩,λb o e n _=>?_,λb o e _=>?_,λb xs e=>?_,λb o u e=>?_,λb UA e=>?_⟩ (λb v e=>?_) I.bare (λb hb=>nomatch hb)
   .have lb:=aP e;rw [eo b (λz=>by rw [z,hT] at n;cases n) (bp (dX lb J_)) (bp (lQ lb sO))];exact n
   .by_cases z:b=T
    .exact⟨_,by rw [z];exact a_ _ QD⟩
    exact⟨o,keep b o z e⟩
   .exact sT b _ (λz=>by rw [z,hT] at e;cases e) e
   .exact sT b _ (λz=>by rw [z,hT] at e;cases e) e
   .by_cases z:b=T
    .subst z;rw [hT] at e;cases e;exact⟨_,eT⟩
    exact⟨#[],by rw [vH];exact sT b _ z e⟩
   by_cases z1:b=h'.objs.size
   .subst z1;rw [ef] at e;cases e;exact qQ (cu _ rfl)
   by_cases z2:b=c'
   .subst z2;rw [ec] at e;cases e;refine zh ?_;obtain⟨c2,oc,vs,t,e',zE,hd,hv⟩:=G8;cases e';exact⟨_,oc,vs,t,rfl,a_ _ zE,hd,hv⟩
   by_cases z3:b=T
   .subst z3;rw [eT] at e;cases e;exact a_ _ QD
   rw [eo b z3 z2 z1] at e;refine(I.bw b v e).gH (λd o DU e'=>?_) (λd e'=>sT d _ (λz=>by rw [z,hT] at e';cases e') e') λd ys e'=>sT d _ (λz=>by rw [z,hT] at e';cases e') e';rcases DU with rfl | DU
   .exact keep d o z3 e'
   exact keep d o (λz=>by rw [z,hT] at DU;cases DU) e'
  have fresh:H h'.objs.size=none:=I.bw.fresh (j3 sO);exact⟨.ref h'.objs.size,H',I2,rfl,q _ c' fV cl H' pG sT ⟨_,eT,by rw [rp];exact ju _ ht,.inr ⟨c',by rw [rp];exact codeAmong_snoc _ ht QS,ec⟩⟩ fresh ef ec⟩
 refine kla_makeFunctionHit pG.eq I.ok.glob hg sQ C NI ht hf Rh λfV h' tk hk hsz=>?_;have keep:∀b o,178->(h'.push (iV X params body scope cl c' fV)).get? b=111:=λb o e=>a_ _ (hk b o e);have fresh:H h'.objs.size=none:=I.bw.fresh hsz;refine⟨.ref h'.objs.size,_,I.laid (a:=h'.objs.size) (o:=pB h'.objs.size (iV X params body scope cl c' fV)) (t':=tk) keep hsz (qQ (cu _ rfl)),rfl,?_⟩;refine q _ c' fV cl _ pG (λb o _ e=>by rw [aj (aq e fresh)];exact e) ⟨ps,by rw [aj (aq hT fresh)];exact hT,ht,.inr ⟨c',hf,by rw [aj (aq iK fresh)];exact iK⟩⟩ fresh ae (by rw [aj (aq iK fresh)];exact iK)
end
theorem B6:∀{zs:z0r}{aN:z0m},aY (zs.map V.str) aN->∀(i:Nat)(v:Value),aN[i]?=some v->∃z t,zs[i]?=some z/\v=.str z t
 | [],[],_,i,v,h=>by simp at h
 | z::r,u::aN,h,i,v,hi=>by
  cases h with
  | cons a b =>
   cases i with
   | zero =>
    cases hi;obtain⟨t,e⟩:=(show ∃t,u=Value.str z t from a);exact⟨z,t,rfl,e⟩
   | succ i=>exact B6 b i v hi
theorem uH:∀(ps:List (Str×Tok)),aY ((ps.map 56).map V.str) (ps.map λp=>Value.str p.1 p.2)
 | []=>.nil
 | p::r=>.cons ⟨p.2,rfl⟩ (uH r)
theorem uI:∀{zs:z0r}{aN:z0m},aY (zs.map V.str) aN->∃ps:List (Str×Tok),ps.map 56=zs/\aN=ps.map λp=>Value.str p.1 p.2
 | [],[],_=>⟨[],rfl,rfl⟩
 | z::r,u::aN,h=>by
  cases h with
  | cons a b =>
   obtain⟨t,e⟩:=(show ∃t,u=Value.str z t from a);obtain⟨ps,e1,e2⟩:=uI b;exact⟨(z,t)::ps,by rw [bC,e1],by rw [bC,e2,e]⟩
def AH {α β:Type}{f:α->β}{l m:List β}(h:l.Perm m):∀ps:List α,m=ps.map f->∃qs:List α,l=qs.map f/\qs.Perm ps:=by
 induction h with
 | nil =>
  intro ps e;cases ps with
  | nil=>exact⟨[],rfl,.nil⟩
  | cons p r=>cases e
 | cons x h ih =>
  intro ps e;cases ps with
  | nil=>cases e
  | cons p r =>
   rw [bC] at e;injection e with e1 e2;obtain⟨qs,a,b⟩:=ih r e2;exact⟨p::qs,by rw [bC,a,e1],b.cons p⟩
 | swap x y l =>
  intro ps e
  match ps,e with
  | [],e=>cases e
  | [_],e=>cases e
  | p::p2::r,e =>
   rw [bC,bC] at e;injection e with e1 e2;injection e2 with e3 e4;exact⟨p2::p::r,by rw [bC,bC,e1,e3,e4],.swap p p2 r⟩
 | trans h1 h2 i1 i2 =>
  intro ps e;obtain⟨qs,a,b⟩:=i2 ps e;obtain⟨rs,c,d⟩:=i1 qs a;exact⟨rs,c,d.trans b⟩
def Gh {g:Str->Int}{ps:List (Str×Tok)}(h:KskOut false ((ps.map 56).map g) (ps.map λp=>Value.str p.1 p.2) out) :
  ∃qs:List (Str×Tok),out=qs.map (λp=>Value.str p.1 p.2)/\(qs.map 56).Perm (ps.map 56)/\(qs.map 56).Pairwise λx y=>g x<=g y:=by
 obtain⟨rs,h1,h2,h3⟩:=h;have ez:((ps.map 56).map g).zip (ps.map λp=>Value.str p.1 p.2)=ps.map λp=>(g p.1,Value.str p.1 p.2):=by
  rw [iN,List.zip_map,List.zip_eq_zipWith]
  induction ps with
  | nil=>rfl
  | cons p r ih=>simp_all
 rw [ez] at h1;obtain⟨qs,q1,q2⟩:∃qs:List (Str×Tok),rs=qs.map (λp=>(g p.1,Value.str p.1 p.2))/\qs.Perm ps:=by
  exact AH h1 ps rfl
 subst q1;refine⟨qs,by rw [h2,iN];rfl,q2.map _,?_⟩;rw [List.pairwise_map] at h3 ⊢;exact h3.imp λh=>by simpa using h
section
variable {X:Cx}{i:Nat}{xs xh:Str}{params:Arguments}{scope:Scope}{p pos A6 kp p1 p2 p3:Pos}{e:Expr}{ta:TA}{c T:Addr}{k:Nat}
abbrev CT (xs xh:Str)(p1 p2 p3:Pos):Expr:=.Subscript (.Name xs p1) (.Name xh p2) p3
def Ml (X:Cx) (i:Nat)(A6:Pos)(T:Addr)(ta:TA):TE:=λσ H Q=>ta σ H λvs H1=>Tab T A6 (X.env.qual ++ "<lambda>") H1/\∃(a:Addr) (zs:z0r)(d:Addr)(kvs:140)(g:Str->Int),vs=[.ref a]/\aF X.K H1 a (zs.map V.str)/\zs.length < 64/\σ[i]?=some (some (.ref d))/\Rd H1 d (.dK kvs) /\
 (∀z∈zs,ba kvs 145=some (.int (g z)))/\∀(l:Addr) (LX:z0r)(H':Hp),fq T H1 H'->Tab T A6 (X.env.qual ++ "<lambda>") H'->H1 l=none->LX.Perm zs->LX.Pairwise (λx y=>g x<=g y)->H' l=some (.lst (LX.map V.str))->Q (.ref l) H'
def F8 (hr:dG (k+1) X.A)(sQ:X.env.code=.ref c)(hC:codeHdIn X.K c T=true)(hB:t_ X.mg X.base)(hg:Gl X "sorted")(hm:X.mg "sorted"=none)(ha:PA X [e] ta)
  (hN:X.N[i]?=some xs)(hx:X.env.scope.names.lookup xs=some .cell)(n_:∀y,(y,NameKind.free)∈scope.names->X.env.scope.names.lookup y=some .cell)
  (hb:∀(q:Str)(cl:z0f)(pm fV:Value)(c':Addr)(us:z0m),us.length=1->bindArgs (kla_fn "<lambda>" q params (CT xs xh p1 p2 p3) scope cl pm (.ref c') fV) ⟨us,[]⟩=pure ([xh].zip us))
  (hk:scope.kind=.function)(Wo:scope.isCoroutine=false)(NB:scope.isGenerator=false)(V4:∀x∈scope.names,x.2≠.cell)(hh:scope.names.lookup xh=some .local)(hs:scope.names.lookup xs=some .free)
  (d1:(xs == ("__debug__":Str))=false:=by decide)(d2:(xh == ("__debug__":Str))=false:=by decide)(d3:(xs == ("__classdict__":Str))=false:=by decide)
  (Hh:defaultsOf params X.env=([],[]):=by rfl)
  (he:backTo pos (starEach [e] X.env)=(false,eval e X.env)::backTo pos (starEach [] X.env):=by rfl)(hp:(backTo pos (starEach [e] X.env)).any 56=false:=by rfl) :
  PE X (.Call (.Name "sorted" p) [e] [⟨some "key",.Lambda params (CT xs xh p1 p2 p3) scope A6,kp⟩] pos) (Ml X i A6 T ta):=by
 intro ai s σ H Q I h;refine jM (gM I hg hm boot_sorted ?_);refine callWith_kw 270 he hp rfl rfl;obtain⟨vs,H1,I1,r1,Ki,a,zs,d,kvs,g,ev,hq,WH,hσ,hd,hv,q1⟩:=aW;subst ev;have low:=Jw (X:=X) (params:=params) (body:=CT xs xh p1 p2 p3) (scope:=scope) (pos:=A6) (c:=c) (T:=T) sQ hC hB n_ Hh ai s1 σ H1
  (λfv H2=>∃f c' fV cl,fv=.ref f/\KH X.env scope cl/\fq T H1 H2/\Tab T A6 (X.env.qual ++ "<lambda>") H2/\H2 f=some (pB f (iV X params (CT xs xh p1 p2 p3) scope cl c' fV))/\H2 c'=some (jQ c' (X.env.qual ++ "<lambda>"))) I1
  ⟨Ki,λf c' fV cl H' a1 a2 a3 a4 a5 a6=>⟨f,c',fV,cl,rfl,a1,a2,a3,a5,a6⟩⟩
 refine kws_cons (cE low λu2 s2 aW=>?_);obtain⟨fv,H2,I2,r2,f,c',fV,cl,ef,pG,st,SN,hf,iK⟩:=aW;refine kws_nil ?_;subst ef;cases (show u2=Value.ref f from r2);obtain⟨u,rfl,rx⟩:=vals1 r1;cases (show u=Value.ref a from rx);obtain⟨pt,eT,_⟩:=id Ki;have hq2:aF X.K H2 a (zs.map V.str):=by
  rcases hq with (h | ⟨o,h⟩) | h
  .exact .inl (.inl (st _ _ (λz=>by rw [z,eT] at h;cases h) h))
  .exact .inl (.inr ⟨o,st _ _ (λz=>by rw [z,eT] at h;cases h) h⟩)
  exact .inr h
 have hd2:Rd H2 d (.dK kvs):=by
  rcases hd with h | ⟨o,h⟩
  .exact .inl (st _ _ (λz=>by rw [z,eT] at h;cases h) h)
  exact .inr ⟨o,st _ _ (λz=>by rw [z,eT] at h;cases h) h⟩
 obtain⟨aN,rv,pl,hz⟩:=I2.list hq2;obtain⟨pzs,ez,ei⟩:=uI rv;have AG:=pl.isList;obtain⟨oa,ga,ca,na,da⟩:=id AG;obtain⟨m,qR,lk⟩:=id I2.loc;have JN:∀b o,H2 b=111->b≠X.env.locals:=λb o hb z=>by rw [z,I2.free] at hb;cases hb
 have P7:d≠X.env.locals:=by
  rcases hd2 with h | ⟨o,h⟩
  .exact JN d _ h
  exact JN d _ h
 have neA:a≠X.env.locals:=λz=>by
  obtain⟨o,es,ep,ho,xl,_⟩:=qR;rw [<-z,ga] at ho;cases ho;rw [da] at xl;cases xl
 obtain⟨ud,rd,lkd⟩:=lk i xs (.ref d) hN hσ (.inr (.inl hx));cases (show ud=Value.ref d from rd);obtain⟨cc,ecc,oc,QQ,QP⟩:∃cc,X.env.cells.lookup xs=some cc/\s2.heap.IsCell cc (some (.ref d)):=by
  rcases lkd with ⟨l,_⟩ | ⟨_,c2,e2,h2⟩
  .have l':X.env.scope.names.lookup xs=some .local:=l;rw [hx] at l';cases l'
  exact⟨c2,e2,h2⟩
 obtain⟨cc',ZX⟩:=pG.all xs (wY hs);have e3:=pG.sub _ _ ZX;rw [ecc] at e3;cases e3;have OD:cc≠X.env.locals:=λz=>by
  obtain⟨o,es,ep,ho,xl,_⟩:=qR;rw [<-z,QQ] at ho;cases ho;rw [QP] at xl;cases xl
 obtain⟨gf,_⟩:=I2.bw f _ hf;obtain⟨gc,_⟩:=I2.bw c' _ iK;obtain⟨zl,Y_,dvs,rel,dd⟩:=om I2.bw hd2;obtain⟨m0,F0⟩:=I2.fr;refine ksk_sorted (kz:=zs.map g) (f:=.ref f) (b:=false) (vs:=aN) (h₀:=KN.sq s2.heap) (L:=X.env.locals) (m:=m) (news:=(a,oa)::KN.ledger s2.heap X.env.locals a) (KN.NQ qR) (KN.yz neA ga) AG (by rw [aC,<-rv.length,aC]) (by rw [<-rv.length,aC];exact WH)
  (ksk_s1 _ _) (λx=>ksk_l1 _ _) (λx=>ksk_t1 f x) (λj v kk hj Zi qm tk own F N=>?_) λD h' tk out cnt F' N' lt' ko=>?_
 .obtain⟨z,t,S_,rfl⟩:=B6 rv j v hj;rw [bB,S_] at Zi;cases Zi;have keep:∀b u,b≠X.env.locals->s2.heap.get? b=some u->qm.get? b=some u:=λb u nb hb=>by
   by_cases e:b=a
   .subst e;rw [ga] at hb;cases hb;exact(N (b,oa) 125).1
   exact(N (b,u) (jX _ (cw _ (KN.jA.mpr ⟨nb,e,hb⟩)))).1
  have hvz:=hv z (cf S_);obtain⟨w',hw,AB⟩:=iJ.some_of (v:=.int (g z)) (o:=valueAt dvs 145) (by rw [<-hvz];exact rel.val 145);obtain⟨tw,rfl⟩:=(show ∃t,w'=Value.int (g z) t from AB);have dd2:qm.DictOf (aX X.prog X.w) d dvs:=by
   obtain⟨o,es,ep,g1,r⟩:=dd;exact⟨o,es,ep,keep _ _ P7 g1,r⟩
  have gc2:qm.CodeRec (.ref c') (X.env.qual ++ "<lambda>"):=by
   obtain⟨c2,oc2,Yi,t2,e2,zE,ir,OG⟩:=gc;cases e2;exact⟨_,oc2,Yi,t2,rfl,keep _ _ (JN c' _ iK) zE,ir,OG⟩
  have nl:qm.NoLimit:=I2.mod.nolimit.keeps λb o e=>keep b o (bp (dX (aP e) F0.above)) (I2.bk b o e);exact G3 (s:={ s2 with heap:=qm,toks:=tk }) (A:=X.A.in1.in1) hr.depth nl (keep _ _ (JN f _ hf) gf) gc2 (λus hl=>hb _ _ _ _ _ us hl) hk Wo NB V4 hh hs ZX (keep _ _ OD QQ) QP dd2 hw d1 d2 d3
   λh3 tk3 Y3=>KskEnd.intro (F.kept Y3) (N.grown Y3) λp hp=>hp
 have keep:∀b u,b≠X.env.locals->s2.heap.get? b=some u->h'.get? b=some u:=λb u nb hb=>by
  by_cases e:b=a
  .subst e;rw [ga] at hb;cases hb;exact(N' (b,oa) 125).1
  exact(N' (b,u) (cw _ (cw _ (KN.jA.mpr ⟨nb,e,hb⟩)))).1
 have hD:s2.heap.get? D=none:=by
  cases e:s2.heap.get? D with
  | none=>rfl
  | some o =>
   exfalso;have nD:D≠X.env.locals:=(N' (D,_) cx).2.1;by_cases ea:D=a
   .have:=lt' (a,oa) cx;rw [ea] at this;exact absurd this (jS _)
   exact absurd (lt' (D,o) (cw _ (KN.jA.mpr ⟨nD,ea,e⟩))) (jS _)
 have fD:H2 D=none:=by
  cases e:H2 D with
  | none=>rfl
  | some u =>
   obtain⟨ob,g⟩:=Gn (I2.bw D u e);rw [hD] at g;cases g
 have fD1:H1 D=none:=by
  cases e:H1 D with
  | none=>rfl
  | some u =>
   by_cases z:D=T
   .obtain⟨pt2,eT2,_⟩:=SN;rw [z,eT2] at fD;cases fD
   rw [st _ _ z e] at fD;cases fD
 rw [ei,<-ez] at ko;obtain⟨qs,eo,pe,ps⟩:=Gh ko;rw [ez] at pe;have gD:=(N' (D,_) cx).1;have lq:qs.length=zs.length:=by have:=pe.length_eq;rw [aC] at this;exact this
 have sl:=ah fD (.lst ((qs.map 56).map V.str));refine⟨.ref D,_,I2.Ql (t':=tk) keep (λm' hm=>?_) hD fD (show b8 X.prog X.w _ _ _ (.lst ((qs.map 56).map V.str)) from ⟨by rw [aC,aC];exact fits ∅,qs.map (λp=>Value.str p.1 p.2),cnt,uH qs,by rw [<-eo];simpa using gD⟩),rfl,q1 D (qs.map 56) _ (λb o n hb=>sl _ _ (st b o n hb)) ?_ fD1 pe ps ae⟩
 .have:=F'.ns;have e:m'=m:=by
   obtain⟨o,es,ep,ho,xl,_,hf⟩:=hm;obtain⟨o2,es2,ep2,Zd,Q2,_,QZ⟩:=qR;rw [ho] at Zd;cases Zd;rw [xl] at Q2;cases Q2
   funext x
   rw [<-hf x,<-QZ x]
  rw [e];exact this
 obtain⟨Se,b1,b2,b3⟩:=SN;refine⟨Se,sl _ _ b1,b2,b3.imp id λaW=>?_⟩;obtain⟨c3,e3,g3⟩:=aW;exact⟨c3,e3,sl _ _ g3⟩
end
open PySem M11
def Bz {K:aV}{H:Hp}{p D d:Addr}{zs:z0r}{kvs:140}{g:G}{σ:St}{js:z0i}{Qp:Hp->Prop}(hσ:eI ["part"] js σ=[none,bc d])(hp:aZ K H p (zs.map V.str))(hz:zs.length<=1000)
  (hd:Rd H d (.dK kvs))(hv:∀z,ba kvs 145=(g z).map V.int)(ha:∀z∈zs,(g z).isSome=true)(hD:H D=none)(q:∀H2,aE H H2->H2 D=some (.lst ((zs.map λz=>(g z).getD 0).map V.int))->Qp H2) :
  ∃W:Nat->Nat->115->148,(∃m,W 0 m [] (eI ["part"] js σ) (upd H D 128)) /\
 ∀i m ys σ' H,W i m ys σ' H->((tV K p).stop i H/\Qp H)\/((tV K p).go i H/\∃m',m' < m/\∀x H',(tV K p).nu i H x H'->eA 0 x σ' H' λσ2 H2=>jc σ2 H2 λb H3 =>
  if b=true then B3 (gw 1) (gw 0) σ2 H3 248 else W (i+1) m' ys σ2 H3):=by
 refine gN (xs:=zs.map V.str) (λi ys σ2 H2=>ys=(((zs.take i).map λz=>(g z).getD 0).map V.int)/\(∃y0,σ2=[y0,bc d])/\aE H H2/\H2 D=some (.lst ys))
  ⟨rfl,⟨none,hσ⟩,ah hD _,ae⟩ (λi ys σ2 H2 _ h=>h.2.2.1.tup hp) (λi x ys σ2 H2 ex h=>?_) (λys σ2 H2 h=>?_)
 .obtain⟨rfl,⟨y0,rfl⟩,sm,hd2⟩:=h;rw [bB] at ex;obtain⟨z,ez,rfl⟩:=b9.mp ex;have li:=(bM.mp ez).1;obtain⟨n,en⟩:=i9.mp (ha z (cf ez));have hg:cq H2 d (.str z) (some (.int n)):=by
   have:=cq.r (k:=127) (eZ.Rd.same hd sm);rw [hv,en] at this;exact this
  refine goN (zF ?_);refine⟨_,rfl,_,rfl,d,_,rfl,hg,hd2,bx (by rw [aC,aC,d7];omega),?_,159,?_,ae⟩
  .rw [cM,ez,bA,bA];show _=_++[V.int ((g z).getD 0)];rw [en];rfl
  intro b o hb;rw [254];exact sm b o hb
 obtain⟨rfl,_,sm,hd2⟩:=h;rw [aC,dI] at hd2;exact q H2 sm hd2
end L2
namespace eZ
open PySem L2 M11
section
def rM (K:aV):Sp:=λvs H Q _=>∃(d r:Addr)(kvs:140)(g:G)(ru:aB),vs=[.ref d,.ref r]/\Rd H d (.dK kvs)/\(∀z,ba kvs 145=(g z).map V.int)/\iI K H r ru/\ru.2.length<=8/\(∀z∈ru.2,(g z).isSome=true)/\∀H',aE H H'->Q (.int (aH g ru)) H'
def Aj:aJ ["sizes","rule"] ["sizes","rule"] (av pd):=182
def yt (F:iu K "rule_size" "rule_size" pd f fd)(T:Txt mg):bF P w K mg base fN 1 f fd ["sizes","rule"] (rM K):=by
 refine F.ok Aj 186 195
 .obtain⟨d,r,kvs,g,ru,rfl,_⟩:=h;rfl
 obtain⟨d,r,kvs,g,ru,rfl,hd,hv,⟨p,v1,v2⟩,h8,al,q⟩:=h;have hu:=fU hr;refine⟨_,ar (br (aU dQ au (aM (pL rfl) rfl T.sum PyProof.Rows.boot_sum (af (bV ["part"] [(0,"sizes")] rfl (hV (aO cz (pv 1) au 144)) (bH rfl rfl) nofun rfl nofun
   (λ_ _ _ _ _=>ay (i:=0) (show (["part","sizes"]:z0r).Nodup by decide +kernel) rfl 116) (λ_ _ _ _ _=>cJ) (λ_ _ _ _ _=>eG hu (pv 1) (pv 0) 144)) ak)))),?_⟩
 dsimp only [pK];refine⟨_,rfl,r,_,_,_,rfl,rfl,v1,rfl,p,rfl,⟨_,v2⟩,λD hD=>Bz (g:=g) rfl v2 ∅ hd hv al hD λH2 s2 e2=>?_⟩;refine⟨D,_,rfl,aF.of e2,_,_,rfl,rfl,?_⟩;exact q H2 s2
end
end eZ
namespace M11
open PySem
def xI.at_ {aa:113}{bo:z0h}(h:xI aa bo):∀(i:Nat)(x:Str) (k:Nat),bo[i]?=some (x,k)->∃parts,aa[k]?=some (x,parts)/\∀p∈parts,p∈(bo.take i).map 56:=by
 induction h with
 | nil=>intro i x k e;simp at e
 | @snoc bo k2 ru h e n p ih =>
  intro i x k ei;by_cases hi:i < bo.length
  .rw [zP hi] at ei;obtain⟨parts,a,b⟩:=ih i x k ei;exact⟨parts,a,λq hq=>by rw [List.take_append_of_le_length (j3 hi)];exact b q hq⟩
  have li:=(bM.mp ei).1;rw [bO,vT] at li;have e2:i=bo.length:=by omega
  subst e2;rw [v_ (aG _),Nat.sub_self] at ei;cases ei;exact⟨ru.2,e,λq hq=>by rw [List.take_left'];exact p q hq;rfl⟩
end M11
namespace eZ
open PySem L2 M11
section
def tG {H:Hp}{p D d:Addr}{zs:z0r}{kvs:140}{σ:St}{js:z0i}{Qp:Hp->Prop}(hσ:eI ["part"] js σ=[none,bc d])(hp:aZ K H p (zs.map V.str))(hz:zs.length<=1000)
  (hd:H d=184)(ha:∀z∈zs,(127:aR)∈kvs.map 56)(hD:H D=none)(q:∀ys H2,ys.length=zs.length->aE H H2->H2 D=some (.lst ys)->Qp H2) :
  ∃W:Nat->Nat->115->148,(∃m,W 0 m [] (eI ["part"] js σ) (upd H D 128)) /\
 ∀i m ys σ' H,W i m ys σ' H->((tV K p).stop i H/\Qp H)\/((tV K p).go i H/\∃m',m' < m/\∀x H',(tV K p).nu i H x H'->eA 0 x σ' H' λσ2 H2=>jc σ2 H2 λb H3 =>
  if b=true then B3 (gw 1) (gw 0) σ2 H3 248 else W (i+1) m' ys σ2 H3):=by
 refine gN (xs:=zs.map V.str) (λi ys σ2 H2=>ys.length=i/\(∃y0,σ2=[y0,bc d])/\aE H H2/\H2 D=some (.lst ys))
  ⟨rfl,⟨none,hσ⟩,ah hD _,ae⟩ (λi ys σ2 H2 _ h=>h.2.2.1.tup hp) (λi x ys σ2 H2 ex h=>?_) (λys σ2 H2 h=>?_)
 .obtain⟨rfl,⟨y0,rfl⟩,sm,hd2⟩:=h;rw [bB] at ex;obtain⟨z,ez,rfl⟩:=b9.mp ex;have li:=(bM.mp ez).1;obtain⟨v,ev⟩:=i9.mp ((eF kvs 145).mpr (ha z (cf ez)));have hg:cq H2 d (.str z) (some v):=by
   have:=cq.k (k:=127) (sm _ _ hd);rw [ev] at this;exact this
  refine goN (zF ?_);refine⟨_,rfl,_,rfl,d,_,rfl,hg,hd2,bx ∅,by rw [bO];rfl,159,?_,ae⟩;intro b o hb;rw [254];exact sm b o hb
 obtain⟨e,_,sm,hd2⟩:=h;rw [aC] at e;exact q ys H2 e sm hd2
def uO (K:aV):Sp:=λvs H Q _=>∃(R D:Addr)(rs ts:z0o)(aa:113)(bo:z0h),vs=[.ref R,.ref D]/\aF K H R 162/\bj K H rs aa/\aa.length<=1000/\250/\aF K H D (ts.map V.ref)/\pO K H ts bo/\xI aa bo/\bo.length<=1000 /\
 ∀(d:Addr)(kvs:140)(H':Hp),H d=none->aE H H'->H' d=184->kvs.map 56=(bo.map 56).map Sum.inr->Q (.ref d) H'
def kN:aJ ["rules","empties","trees","name","number"] ["rules","empties"] (av rV):=182
def AV (F:iu K "empty_by_name" "empty_by_name" rV f fd)(T:Txt mg):bF P w K mg base fN 1 f fd ["rules","empties"] (uO K):=by
 refine F.ok kN 186 195
 .obtain⟨R,D,rs,ts,aa,bo,rfl,_⟩:=h;rfl
 obtain⟨R,D,rs,ts,aa,bo,rfl,hR,cT,bN,h8,hD,Zo,Hg,Zp,q⟩:=h;have hu:=fU hr;refine⟨_,ao (aD (i:=2) kN.nd rfl (Or.inr rfl) fg)
  (ao (b_ cD rfl (bq (pv 1)) (iT (n:=2) K rfl (aI (ay (i:=3) kN.nd rfl 116) (aI (ay (i:=4) kN.nd rfl 116) cy)))
   (ar (gP hu (pv 2) (pv 3) (bJ (af (pv 4) (af (bh fj rfl T.tup rB (af (bV ["part"] [(2,"trees")] rfl (hV (aO cz (aO aQ (pv 0) (pv 4) 144) au 144)) (bH rfl rfl) nofun rfl nofun
    (λ_ _ _ _ _=>ay (i:=0) (show (["part","trees"]:z0r).Nodup by decide +kernel) rfl 116) (λ_ _ _ _ _=>cJ) (λ_ _ _ _ _=>eG hu (pv 1) (pv 0) 144)) ak)) ak))) rfl)))
  (ar (br (pv 2)))),?_⟩
 nofun
 refine λd xN=>?_;have s1:=ah xN (.dK []);have e1:upd H d (.dK []) d=some (.dK []):=ae;generalize upd H d (.dK [])=H1 at s1 e1;refine goN ?_
 ac_rfl
 have lt:=bT Zo;have ll:=bT cT;have nd:=Hg.nd
 let BN:BO:=λi σ H3=>∃(kvs:140)(y3 y4:Option V),σ=[bc R,bc D,bc d,y3,y4]/\aE H H3/\H3 d=184/\kvs.map 56=((bo.take i).map 56).map Sum.inr
 refine⟨_,rfl,D,rfl,⟨_,s1.seq hD⟩,du (xs:=ts.map V.ref) BN ⟨[],_,_,rfl,s1,e1,rfl⟩ ?_ ?_ ?_⟩
 .rintro i σ H3 _ ⟨kvs,y3,y4,rfl,s3,_⟩;exact s3.seq hD
 .rintro i x σ H3 ex ⟨kvs,y3,y4,rfl,s3,ed,ek⟩
  ac_nf0
  rw [bB] at ex;obtain⟨t,et,rfl⟩:=b9.mp ex;have li:=(bM.mp et).1;obtain⟨e,ee⟩:∃e,bo[i]?=some e:=⟨bo[i]'∅,cN ∅⟩;obtain⟨t',ZM,vt⟩:=Paired.at_ Zo i e ee;rw [et] at ZM;cases ZM;obtain⟨x,k⟩:=e;obtain⟨parts,hk,n6⟩:=Hg.at_ i x k ee;obtain⟨r,er,p,v1,v2⟩:=Paired.at_ cT k _ hk;have RH:lK 162 (k:Int)=some (.ref r):=cS (by rw [bB,er];rfl);have Zc:parts.length<=8:=h8 _ (cf hk);refine⟨t,_,rfl,s3.tup vt,rfl,_,_,rfl,_,_,rfl,rfl,?_⟩;refine⟨_,rfl,_,rfl,_,rfl,R,_,_,_,rfl,rfl,s3.seq hR,RH,r,_,_,_,rfl,rfl,s3.tup v1,rfl,p,rfl,⟨_,s3.tup v2⟩,λD2 mJ=>tG (zs:=parts) rfl (s3.tup v2) ∅ ed (λz hz=>by rw [ek];exact cW.mpr (n6 z hz)) mJ λys H4 ly s4 e4=>?_⟩;refine⟨D2,ys,rfl,.inl ⟨aF.of e4,λt2 WJ=>⟨lX,λGO NU=>?_⟩⟩⟩;have k5:=(ah WJ (.tup ys)).trans (ah NU (.tup [.int (k:Int),.ref t2]));generalize upd (upd H4 t2 (.tup ys)) GO (.tup [.int (k:Int),.ref t2])=H5 at k5;have ed5:=k5 _ _ (s4 _ _ ed);have lkv:kvs.length=i:=by
   have:=congrArg List.length ek;rw [aC,aC,aC,d7] at this;omega
  have nx:x∉(bo.take i).map 56:=λz=>by
   obtain⟨e2,m2,q2⟩:=cQ.mp z;obtain⟨j,hj⟩:=nq m2;rw [List.getElem?_take] at hj
   split at hj
   .rename_i Zj
    have a1:(bo.map 56)[j]?=some x:=by rw [bB,hj];exact congrArg some q2
    have a2:(bo.map 56)[i]?=some x:=by rw [bB,ee];rfl
    have:=(List.getElem?_inj (by rw [aC];omega) nd).mp (a1.trans a2.symm);omega
   cases hj
  refine⟨_,rfl,_,rfl,d,_,rfl,.inl ⟨kvs,Sum.inr x,ed5,rfl,bx ∅,rfl⟩,?_⟩;refine⟨_,_,_,rfl,λb o hb=>?_,ae,?_⟩
  .rw [aj (λz=>by rw [z,xN] at hb;cases hb)];exact k5 _ _ (s4 _ _ (s3 b o hb))
  rw [iR (by rw [ek];exact λz=>nx (cW.mp z)),ek,cM,ee,bA,bA];rfl
 rintro σ H3 ⟨kvs,y3,y4,rfl,s3,ed,ek⟩;rw [aC,lt,dI] at ek;exact⟨_,rfl,q d kvs H3 xN s3 ed ek⟩
end
end eZ
namespace M11
open PySem
def Le (g' g:G):Prop:=∀z n,g z=some n->∃m,g' z=some m/\m<=n
def yT {g:G}{ru:aB}(f:bW bl g ru=true):iW g ru=true/\∀n,g ru.1=some n->aH g ru < n:=by
 unfold bW at f;rw [jK] at f;refine⟨f.1,λn e=>?_⟩;have:=f.2;rw [e] at this;have:(!(some n:z0n).isSome || bl (aH g ru) n)=true:=this
 simpa [bl] using this
def le_step {g:G}{ru:aB}(f:bW bl g ru=true):Le (bQ g ru.1 (aH g ru)) g:=λz n e=>by
 unfold bQ;by_cases c:z=ru.1
 .rw [aA c];subst c;exact⟨_,rfl,Int.le_of_lt ((yT f).2 n e)⟩
 rw [az c];exact⟨n,e,fX _⟩
theorem Ff {g g':G}(h:Le g' g):∀ps:z0r,(∀p∈ps,(g p).isSome=true)->(∀p∈ps,(g' p).isSome=true)/\(ps.map λp=>(g' p).getD 0).sum<=(ps.map 198).sum
 | [],_=>⟨λp hp=>(by cases hp),fX _⟩
 | p::r,a=>by
  obtain⟨h1,h2⟩:=Ff h r λq hq=>a q (cw _ hq);obtain⟨n,en⟩:=i9.mp (a p cx);obtain⟨m,em,lm⟩:=h p n en;refine⟨λq hq=>?_,?_⟩
  .rcases aS.mp hq with rfl | hq
   .rw [em];rfl
   exact h1 q hq
  rw [bC,bC,hZ,hZ,en,em];show m+_<=n+_;omega
def vx {g:G}{ru:aB}:iW g ru=true↔∀p∈ru.2,(g p).isSome=true:=by
 unfold iW;rw [dW]
def size_le {g g':G}(h:Le g' g)(a:iW g ru=true):iW g' ru=true/\aH g' ru<=aH g ru:=by
 obtain⟨h1,h2⟩:=Ff h ru.2 (vx.mp a);exact⟨vx.mpr h1,by unfold aH;omega⟩
def OZ (aa:113) (hs:z0r)(g:G):Prop:=∀h n,g h=some n->h∉hs\/∃ru∈aa,ru.1=h/\iW g ru=true/\aH g ru<=n
def E3 {aa:113}(g:G)(ru:aB)(j:OZ aa hs g)(m:ru∈aa)(f:bW bl g ru=true):OZ aa hs (bQ g ru.1 (aH g ru)):=λh n e=>by
 have le:=le_step f;by_cases c:h=ru.1
 .have e2:n=aH g ru:=by
   unfold bQ at e;rw [aA c] at e;exact(jJ e).symm
  obtain⟨a1,a2⟩:=size_le le (yT f).1;exact .inr ⟨ru,m,c.symm,a1,∅⟩
 have e2:g h=some n:=by
  unfold bQ at e;rw [az c] at e;exact e
 rcases j h n e2 with h1 | ⟨PM,m2,q2,a2,l2⟩
 .exact .inl h1
 obtain⟨b1,b2⟩:=size_le le a2;exact .inr ⟨PM,m2,q2,b1,∅⟩
def DJ {aa:113}{g0 g:G}(j0:OZ aa hs g0)(st:bE bl aa g0 g)(se:bS bl aa g){h:Str}{n:Int}(hh:h∈hs)(e:g h=some n):∃ru∈aa,ru.1=h/\iW g ru=true/\aH g ru=n:=by
 have j:OZ aa hs g:=bE.keep (J:=OZ aa hs) (λg ru j m f=>E3 g ru j m f) st j0;rcases j h n e with z | ⟨ru,m,q,a,l⟩
 .exact absurd hh z
 refine⟨ru,m,q,a,?_⟩;have f:=se ru m;unfold bW at f;rw [a,q,e] at f;have f:(true && (!(some n:z0n).isSome || bl (aH g ru) n))=false:=f
 have f2:¬aH g ru < n:=by simpa [bl] using f
 omega
theorem CA {g:G}(nn:NN g):∀(ps:z0r)(p:Str) (m:Int),p∈ps->g p=some m->m<=(ps.map 198).sum
 | q::r,p,m,hp,e=>by
  rw [bC,hZ];have h1:=jv g nn r;rcases aS.mp hp with rfl | hp
  .rw [e];show m<=m+_;omega
  have h2:=CA nn r p m hp e;have h3:0<=(g q).getD 0:=by
   cases eq:g q with
   | none=>exact fX _
   | some n=>exact nn q n eq
  omega
def Dq {g:G}(nn:NN g){ru:aB}{p:Str}{m:Int}(hp:p∈ru.2)(e:g p=some m):m < aH g ru:=by
 have:=CA nn ru.2 p m hp e;unfold aH;omega
theorem BU:∀(bY ps bG:z0r),(∀z∈bG,z∉bY)->∀z∈qa bY bG ps,z∉bY
 | _,[],bG,h=>h
 | bY,p::r,bG,h=>by
  show ∀z∈qa bY (addW bY bG p) r,z∉bY;refine BU bY r _ ?_;unfold addW
  split
  .exact h
  rename_i hp
  unfold gu
  split
  .exact h
  intro z hz;rcases cK.mp hz with hz | hz
  .exact h z hz
  rw [bD.mp hz];exact hp
def wu {g:Str->Int}{zs:z0r}(h:zs.Pairwise λx y=>g x<=g y){i:Nat}{x p:Str}(e:zs[i]?=some x)(hp:p∈zs)(l:g p < g x):p∈zs.take i:=by
 obtain⟨j,ej⟩:=nq hp;obtain⟨li,ei⟩:=bM.mp e;obtain⟨lj,ej2⟩:=bM.mp ej;have Zj:j < i:=by
  rcases Nat.lt_trichotomy j i with h1 | h1 | h1
  .exact h1
  .subst h1;rw [e] at ej;cases ej;omega
  have:=List.pairwise_iff_getElem.mp h i j li lj h1;rw [ei,ej2] at this;omega
 rw [List.mem_iff_getElem?];exact⟨j,by rw [List.getElem?_take,aA Zj];exact ej⟩
end M11
namespace eZ
open PySem L2 M11
def TQ (aa:113):OZ aa (hd aa) (jP aa):=λh n e=>by
 unfold jP at e;by_cases c:h∈qa (hd aa) [] (aa.flatMap (·.2))
 .exact .inl (BU _ _ [] (λz hz=>by cases hz) h c)
 rw [az c] at e;cases e
def YL (aa:113):NN (jP aa):=λh n e=>by
 unfold jP at e;by_cases c:h∈qa (hd aa) [] (aa.flatMap (·.2))
 .rw [aA c] at e;cases e;exact fX _
 rw [az c] at e;cases e
def M7 {aa:113}{g:G}(st:bE M11.bl aa (jP aa) g):NN g:=bE.keep (J:=NN) (λg ru j m f=>wU j ru) st (YL aa)
theorem BV (bY:z0r):∀(ps bG:z0r)(x:Str),(x∈bG\/(x∈ps/\x∉bY))->x∈qa bY bG ps
 | [],bG,x,h=>by
  rcases h with h | ⟨h,_⟩
  .exact h
  cases h
 | p::r,bG,x,h=>by
  show x∈qa bY (addW bY bG p) r;apply BV bY r;unfold addW;by_cases c:p∈bY
  .rw [aA c];rcases h with h | ⟨h,n⟩
   .exact .inl h
   rcases aS.mp h with z | z
   .exact absurd (z ▸ c) n
   exact .inr ⟨z,n⟩
  rw [az c];rcases h with h | ⟨h,n⟩
  .exact .inl ((iH _ _ _).mpr (.inl h))
  rcases aS.mp h with z | z
  .exact .inl ((iH _ _ _).mpr (.inr z))
  exact .inr ⟨z,n⟩
def PV:z0q->Pos
 | [_,_,_,.For _ (.Call _ _ [⟨_,.Lambda _ _ _ pos,_⟩] _) _ _ _,_]=>pos
 | _=>⟨0,0,0,0⟩
abbrev posB:Pos:=PV (bZ nK)
abbrev Iq:Str := "least_by_part" ++ ".<locals>." ++ "<lambda>"
section
def oY (K:aV)(T1 T3:Addr):Sp:=λvs H Q _=>∃(R:Addr)(rs:z0o)(aa:113),vs=[.ref R]/\aF K H R 162/\bj K H rs aa/\aa.length < 64/\250/\(∀g,bE M11.bl aa (jP aa) g->bS M11.bl aa g->∀h∈hd aa,∃n,g h=some n/\n<=60)/\Tab T1 sE.2.2.2 zC H/\Tab T3 posB Iq H/\T1≠T3 /\
 ∀(d:Addr)(kvs:140)(H':Hp),H d=none->lL T1 T3 H H'->Tab T1 sE.2.2.2 zC H'->Tab T3 posB Iq H'->H' d=184->(∀z,z∈hd aa->(127:aR)∈kvs.map 56)->Q (.ref d) H'
structure LB (K:aV)(rs:z0o)(aa:113)(um:140)(ps:z0f)(R dz dn T1 T3:Addr)(H5:Hp):Prop where
 hR:aF K H5 R 162
 cT:bj K H5 rs aa
 nm:IH ps (λn=>nums aa n aa.length) H5 dn
 rz:Rd H5 dz (.dK um)
 t1:Tab T1 sE.2.2.2 zC H5
 t3:Tab T3 posB Iq H5
theorem LB.same {aa:113}{ps:z0f}{R dz dn T1 T3:Addr}(h:LB K rs aa um ps R dz dn T1 T3 H5)(s:aE H5 H6):LB K rs aa um ps R dz dn T1 T3 H6 :=
 ⟨s.seq h.hR,h.cT.same s,h.nm.same s,eZ.Rd.same h.rz s,h.t1.same s,h.t3.same s⟩
def LB.Lk {aa:113}{ps:z0f}{R dz dn T1 T3 d:Addr}(h:LB K rs aa um ps R dz dn T1 T3 H5)(e:H5 d=some (.dK kv))(n1:dn≠d)(n2:dz≠d)(s:fq d H5 H6):LB K rs aa um ps R dz dn T1 T3 H6:=by
 have tk:∀a xs,aZ K H5 a xs->aZ K H6 a xs:=λa xs z=>by
  rcases z with (z | ⟨u,z⟩) | z
  .exact .inl (.inl (s _ _ (λy=>by rw [y,e] at z;cases z) z))
  .exact .inl (.inr ⟨u,s _ _ (λy=>by rw [y,e] at z;cases z) z⟩)
  exact .inr z
 have tb:∀{T':Addr}{pos':Pos}{Jm:Str},Tab T' pos' Jm H5->Tab T' pos' Jm H6:=λ{T' pos' Jm} ⟨p,a,b,cc⟩=>⟨p,s _ _ (λy=>by rw [y,e] at a;cases a) a,b,cc.imp id λ⟨c',e1,e2⟩=>⟨c',e1,s _ _ (λy=>by rw [y,e] at e2;cases e2) e2⟩⟩;refine⟨?_,h.cT.keep tk,⟨s _ _ n1 h.nm.hd,h.nm.n1,h.nm.n2,λp hp=>s _ _ (λy=>by have a:=h.nm.lst p hp;rw [y,e] at a;cases a) (h.nm.lst p hp)⟩,?_,tb h.t1,tb h.t3⟩
 .rcases h.hR with (z | ⟨u,z⟩) | z
  .exact .inl (.inl (s _ _ (λy=>by rw [y,e] at z;cases z) z))
  .exact .inl (.inr ⟨u,s _ _ (λy=>by rw [y,e] at z;cases z) z⟩)
  exact .inr z
 rcases h.rz with z | ⟨u,z⟩
 .exact .inl (s _ _ n2 z)
 exact .inr ⟨u,s _ _ n2 z⟩
def LB.Py {aa:113}{ps:z0f}{R dz dn T1 T3:Addr}(h:LB K rs aa um ps R dz dn T1 T3 H5)(nT:T1≠T3)(s:fq T3 H5 H6)(t:Tab T3 posB Iq H6):LB K rs aa um ps R dz dn T1 T3 H6:=by
 obtain⟨pt,eT,_⟩:=id h.t3;refine⟨Co s h.t3 h.hR,h.cT.keep λ_ _ z=>BX s h.t3 z,⟨s _ _ (λy=>by have a:=h.nm.hd;rw [y,eT] at a;cases a) h.nm.hd,h.nm.n1,h.nm.n2,λp hp=>s _ _ (λy=>by have a:=h.nm.lst p hp;rw [y,eT] at a;cases a) (h.nm.lst p hp)⟩,?_,BY s h.t3 h.t1 nT,t⟩;rcases h.rz with z | ⟨u,z⟩
 .exact .inl (s _ _ (λy=>by rw [y,eT] at z;cases z) z)
 exact .inr ⟨u,s _ _ (λy=>by rw [y,eT] at z;cases z) z⟩
theorem pE:∀(hs:z0r)(bG:140) (as:z0r),bG.map 56=as.map Sum.inr->(cU (hs.map λh=>((Sum.inr h:aR),V.str h)) bG).map 56=(M11.qU as hs).map Sum.inr
 | [],bG,as,e=>e
 | h::r,bG,as,e=>pE r (bP bG (Sum.inr h) (.str h)) (M11.gu as h) (eZ.ku e h)
def iq:aJ ["rules","numbers","trees","name","least","sizes"] ["rules"] (av nK):=182
def AU (F:zx K "least_by_part" "least_by_part" nK f fd T3)(T:Txt mg)(hB:t_ mg base)(hS:mg "sorted"=none)(GH:aL P w K mg base 3 "heads_of" ["rules"] (kJ K))(GL:aL P w K mg base 3 "least_sizes" ["rules"] (qN K T1))(GN:aL P w K mg base 3 "numbers_by_name" ["rules"] (Fm K))(GZ:aL P w K mg base 3 "rule_size" ["sizes","rule"] (rM K)):bF P w K mg base fN 4 f fd ["rules"] (oY K T1 T3):=by
 refine F.ok iq 186 (λc A outer s H vs Q E hC hr h=>?_)
 .obtain⟨R,rs,aa,rfl,_⟩:=h;rfl
 obtain⟨R,rs,aa,rfl,hR,cT,bN,h8,He,Ki,Wv,nT,q⟩:=h;have hu:=fU hr;refine⟨_,ao (aD (i:=5) iq.nd rfl (Or.inr rfl) (bU GL hr rfl (af (pv 0) ak)))
  (ao (aD (i:=1) iq.nd rfl (Or.inr rfl) (bU GN hr rfl (af (pv 0) ak)))
  (ao (aD (i:=2) iq.nd rfl (Or.inr rfl) (bh (d5 rfl) rfl T.xO fk (af (bV ["part"] [(1,"numbers")] rfl (Cu (pv 5)) (bH rfl rfl) nofun rfl nofun
    (λ_ _ _ _ _=>ay (i:=0) (show (["part","numbers"]:z0r).Nodup by decide +kernel) rfl 116) (λ_ _ _ _ _=>gR (eK (dP hu (pv 0) (pv 1)))) (λ_ _ _ _ _=>bJ (af (pv 0) (af (pv 0) ak)))) ak)))
  (ao (b_ cD rfl (bq (F8 (i:=5) (T:=T3) hr rfl hC hB rfl hS (af (bU GH hr rfl (af (pv 0) ak)) ak) rfl rfl (λy hy=>by
    rcases aS.mp hy with h | h
    .cases h
    rcases aS.mp h with h | h
    .cases h;rfl
    cases h) (λq cl pm fV c' us hl=>match us,hl with | [_],_=>rfl) rfl rfl rfl nofun rfl rfl)) (ay (i:=3) iq.nd rfl (Or.inr rfl))
   (ao (ig (iy:=4) ["number"] [(5,"sizes"),(0,"rules"),(3,"name")] iq.nd rfl rfl rfl (bq (eG hu (pv 1) (pv 3) 144)) (bH rfl rfl) nofun rfl nofun
    (λ_ _ _ _ _=>ay (i:=0) (show (["number","sizes","rules","name"]:z0r).Nodup by decide +kernel) rfl 116) (λ_ _ _ _ _=>gR (bf qj (bU GZ hr rfl (af (pv 1) (af (aO (G5 K) (pv 2) (pv 0) 144) ak))) (eG hu (pv 1) (pv 3) 144) (bz _))) (λ_ _ _ _ _=>pv 0))
   (ar (gP hu (pv 2) (pv 3) (bJ (af (aO aQ (pv 4) au 144) (af (bh fj rfl T.tup rB (af (bV ["part"] [(2,"trees")] rfl (hV (aO cz (aO aQ (pv 0) (aO aQ (pv 4) au 144) 144) au 144)) (bH rfl rfl) nofun rfl nofun
    (λ_ _ _ _ _=>ay (i:=0) (show (["part","trees"]:z0r).Nodup by decide +kernel) rfl 116) (λ_ _ _ _ _=>cJ) (λ_ _ _ _ _=>eG hu (pv 1) (pv 0) 144)) ak)) ak))) rfl))))
  (ar (br (pv 2)))))),?_⟩
 nofun
 refine⟨_,rfl,R,rs,aa,rfl,hR,cT,∅,h8,Ki,λdz um Lg g H1 fz s1 t1 ez kz vz KU Oy lz=>?_⟩;refine goN ?_
 ac_rfl
 have Zx:=Co s1 Ki hR;have QM:=cT.keep λ_ _ z=>BX s1 Ki z;have Yr:=BY s1 Ki Wv (dA nT);refine⟨_,rfl,R,rs,aa,rfl,Zx,QM,∅,λdn ps H2 fn s2 nm pk pf=>?_⟩;refine goN ?_
 ac_rfl
 have OS:=s2 _ _ ez;refine⟨_,rfl,dz,um,rfl,OS,λo D hD=>?_⟩;have UR:∀p∈ps,p.2≠dz:=λp hp z=>by
  have a:=nm.lst p hp;rw [z,OS] at a;cases a
 have ndz:dn≠dz:=λz=>by rw [z,ez] at fn;cases fn
 have nz1:T1≠dz:=λz=>by
  obtain⟨p,a,_⟩:=t1;rw [z,ez] at a;cases a
 have nz3:T3≠dz:=λz=>by
  obtain⟨p,a,_⟩:=Yr;rw [z,ez] at a;cases a
 have O_:∀{T':Addr}{pos':Pos}{Jm:Str},T'≠dz->Tab T' pos' Jm H2->Tab T' pos' Jm (upd H2 dz (.kT o (.dK um))):=λ{T' pos' Jm} n ⟨p,a,b,cc⟩=>⟨p,by rw [aj n];exact a,b,cc.imp id λ⟨c',e1,e2⟩=>⟨c',e1,by rw [aj (λz=>by rw [z,OS] at e2;cases e2)];exact e2⟩⟩;have L3:LB K rs aa um ps R dz dn T1 T3 (upd H2 dz (.kT o (.dK um))):=by
  refine⟨?_,(QM.same s2).keep λ_ _ z=>gY OS z,⟨by rw [aj ndz];exact nm.hd,nm.n1,nm.n2,λp hp=>by rw [aj (UR p hp)];exact nm.lst p hp⟩,.inr ⟨o,ae⟩,O_ nz1 (t1.same s2),O_ nz3 (Yr.same s2)⟩;rcases s2.seq Zx with (h | ⟨u,h⟩) | h
  .exact .inl (.inl (by rw [aj (λz=>by rw [z,OS] at h;cases h)];exact h))
  .exact .inl (.inr ⟨u,by rw [aj (λz=>by rw [z,OS] at h;cases h)];exact h⟩)
  exact .inr h
 have e3:upd H2 dz (.kT o (.dK um)) dz=some (.kT o (.dK um)):=ae;have FJ:lL T1 T3 H (upd H2 dz (.kT o (.dK um))):=λb u n1 n3 hb=>by
  rw [aj (λz=>by rw [z,fz] at hb;cases hb)];exact s2 _ _ (s1 b u n1 hb)
 generalize upd H2 dz (.kT o (.dK um))=H3 at hD L3 e3 FJ ⊢;have lkz:um.length=Lg.length:=by
  have:=congrArg List.length kz;rwa [aC,aC] at this
 refine tJ (λi ys σ2 H4=>∃ts:z0o,ys=ts.map V.ref/\(∃y0,σ2=[y0,bc dn])/\aE H3 H4/\H4 D=some (.lst ys)/\ts.length<=i/\Paired (λt h=>aZ K H4 t [.str h,.str h]) ts ((Lg.take i).filter λz=>!decide (z∈hd aa)))
  ⟨[],rfl,⟨none,rfl⟩,ah hD _,ae,aG _,.nil⟩ (λi ys σ2 H4 _ h=>?_) (λi kv ys σ2 H4 ex h=>?_) (λys σ2 H4 h=>?_)
 .obtain⟨_,_,_,sm,_⟩:=h;exact sm _ _ e3
 .obtain⟨ts,rfl,⟨y0,rfl⟩,sm,e4,lts,pt⟩:=h;obtain⟨z,Rl,ekz⟩:∃z,Lg[i]?=some z/\kv.1=127:=by
   have a1:(um.map 56)[i]?=some kv.1:=by rw [bB,ex];rfl
   rw [kz,bB] at a1;obtain⟨z,a2,a3⟩:=b9.mp a1;exact⟨z,a2,a3.symm⟩
  rw [ekz];have L4:=L3.same sm;have Iv:(ba (ps.map jm) 145).isSome=decide (z∈hd aa):=by
   rw [ib,eF,decide_eq_true_iff,<-pk];rw [iN];constructor
   .intro h;obtain⟨p,hp,e⟩:=cQ.mp h;exact cQ.mpr ⟨p,hp,lO e⟩
   intro h;obtain⟨p,hp,e⟩:=cQ.mp h;exact cQ.mpr ⟨p,hp,congrArg Sum.inr e⟩
  refine goN ?_;refine⟨_,rfl,_,rfl,dn,_,rfl,cq.k (k:=127) L4.nm.hd,_,rfl,?_⟩;rw [Iv];have Rn:((Lg.take (i+1)).filter λz=>!decide (z∈hd aa))=((Lg.take i).filter λz=>!decide (z∈hd aa))++(if (!decide (z∈hd aa))=true then [z] else []):=by
   rw [cM,Rl,i6]
   congr 1
   by_cases c:z∈hd aa <;> simp [c]
  refine cC (λcc=>?_) (λcc=>?_)
  .refine⟨_,rfl,_,rfl,lX,λt ht=>?_⟩;have k5:=ah ht (.tup [kV 145,kV 145]);have v5:aZ K (upd H4 t (.tup [kV 145,kV 145])) t [.str z,.str z]:=aZ.of ae;generalize upd H4 t (.tup [kV 145,kV 145])=H5 at k5 v5;have li:=(bM.mp ex).1;have e5:=k5 _ _ e4;refine⟨e5,210,ts++[t],by rw [bA];rfl,159,λb u hb=>?_,ae,by rw [bO,vT];omega,?_⟩
   .rw [254];exact k5 _ _ (sm b u hb)
   rw [Rn,aA cc];exact gA (Paired.ij pt λ_ _ z=>aT e5 (k5.tup z)) (aT e5 v5)
  refine⟨ts,rfl,159,sm,e4,∅,?_⟩;rw [Rn,az cc,eE];exact pt
 obtain⟨ts,rfl,_,s4,e4,lts,pt⟩:=h;rw [lkz,dI] at pt;have Y5:∀z,z∉hd aa->(g z).isSome=true->z∈Lg.filter λz=>!decide (z∈hd aa):=λz hz gz=>by
  refine gU.mpr ⟨?_,by simpa using hz⟩;have a1:(ba um 145).isSome=true:=by rw [vz,pU];exact gz
  rw [eF,kz] at a1;exact cW.mp a1
 have lws:(Lg.filter λz=>!decide (z∈hd aa)).length<=20000:=cI (i8 _ _) ∅;generalize Lg.filter (λz=>!decide (z∈hd aa))=ws at pt Y5 lws;have kp:Paired (λt (kv:aR×V)=>aZ K H4 t [kV kv.1,kv.2]) ts (ws.map λh=>((Sum.inr h:aR),V.str h)):=cO pt λ_ _ z=>z;refine⟨D,ts,_,rfl,e4,kp,λdt xl=>?_⟩;have kt:∀z∈ws,(127:aR)∈(cU (ws.map λh=>((Sum.inr h:aR),V.str h)) []).map 56:=λz hz=>by
  rw [pE ws [] [] rfl];exact cW.mpr ((gT ws [] z).mpr (.inr hz))
 have lkt:(cU (ws.map λh=>((Sum.inr h:aR),V.str h)) []).length<=20000:=by
  have a:=congrArg List.length (pE ws [] [] rfl);rw [aC,aC] at a;have:=fw ws [];simp only [ix] at this;omega
 generalize cU (ws.map λh=>((Sum.inr h:aR),V.str h)) []=Qq at kt lkt;have s5:=s4.trans (ah xl (.dK Qq));have e5:upd H4 dt (.dK Qq) dt=some (.dK Qq):=ae;have LD:H3 dt=none:=s4.free xl;generalize upd H4 dt (.dK Qq)=H5 at s5 e5;have L5:=L3.same s5;refine goN ?_
 ac_rfl
 refine⟨_,rfl,R,rs,aa,rfl,L5.hR,L5.cT,∅,λDH H6 fH s6 eH=>?_⟩;have L6:=L5.same s6;have EM:=fw (aa.map 56) [];simp only [ix,aC] at EM;have gz:∀z∈hd aa,∃n,g z=some n:=λz hz=>by
  obtain⟨n,e,_⟩:=He g KU Oy z hz;exact⟨n,e⟩
 refine⟨L6.t3,DH,hd aa,dz,um,λz=>(g z).getD 0,rfl,aF.of eH,by unfold hd;omega,rfl,L6.rz,λz hz=>by obtain⟨n,e⟩:=gz z hz;rw [vz,e];show _=some (V.int ((g z).getD 0));rw [e];rfl,λl LX H7 s7 t37 fl pe pw el=>?_⟩;have L7:=L6.Py nT s7 t37;have U3:dt≠T3:=λz=>by
  obtain⟨p,a,_⟩:=L5.t3;rw [<-z,e5] at a;cases a
 have e7:=s7 _ _ U3 (s6 _ _ e5);have YO:dn≠dt:=λz=>by have a:=L3.nm.hd;rw [z,LD] at a;cases a
 have YH:dz≠dt:=λz=>by rw [<-z,e3] at LD;cases LD
 have MJ:lL T1 T3 H H7:=λb u n1 n3 hb=>s7 _ _ n3 (s6 _ _ (s5 _ _ (FJ b u n1 n3 hb)));have UX:l≠dt:=λz=>by rw [z,s6 _ _ e5] at fl;cases fl
 have nn:=M7 KU;have hlz:LX.length < 64:=by rw [pe.length_eq];unfold hd;omega
 have RK:∀ru∈aa,∀p∈ru.2,(g p).isSome=true:=λru mD p hp=>by
  by_cases hh:p∈hd aa
  .obtain⟨n,e⟩:=gz p hh;rw [e];rfl
  have j0:∃n,jP aa p=some n:=⟨0,aA (BV _ _ [] p (.inr ⟨oN.mpr ⟨ru,mD,hp⟩,hh⟩))⟩;have:∃n,g p=some n:=bE.keep (J:=λg=>∃n,g p=some n) (λg ru ⟨n,e⟩ m f=>by obtain⟨k,a,_⟩:=le_step f p n e;exact⟨k,a⟩) KU j0;obtain⟨n,e⟩:=this;rw [e];rfl
 have ll:=bT cT
 let BN:BO:=λi σ H8=>∃(kvs:140)(y3 y4:Option V),σ=[bc R,bc dn,bc dt,y3,y4,bc dz]/\fq dt H7 H8/\H8 dt=184/\kvs.length<=20000+i/\(∀z∈ws,(127:aR)∈kvs.map 56)/\(∀z∈LX.take i,(127:aR)∈kvs.map 56)
 refine⟨l,rfl,⟨_,aF.of el⟩,du (xs:=LX.map V.str) BN ⟨Qq,_,_,rfl,λ_ _ _ h=>h,e7,∅,kt,λz hz=>by cases hz⟩ ?_ ?_ ?_⟩
 .rintro i σ H8 _ ⟨kvs,y3,y4,rfl,s8,_⟩;exact aF.of (s8 _ _ UX el)
 .rintro i x σ H8 ex ⟨kvs,y3,y4,rfl,s8,e8,Vi,Vo,Qo⟩
  ac_nf0
  rw [bB] at ex;obtain⟨z,SU,rfl⟩:=b9.mp ex;have li:=(bM.mp SU).1;have hz:z∈hd aa:=pe.mem_iff.mp (cf SU);obtain⟨n,WX⟩:=gz z hz;have L8:=L7.Lk e7 YO YH s8;obtain⟨p,hp,VU⟩:=cQ.mp (show z∈ps.map 56 by rw [pk];exact hz);refine goN ?_
  ac_rfl
  have hgn:cq H8 dn (.str z) (some (.ref p.2)):=by
   have:=cq.k (k:=127) L8.nm.hd;rw [<-VU,gG ps L8.nm.n1 p hp] at this;rw [VU] at this;exact this
  have SD:=L8.nm.lst p hp;have SD:H8 p.2=some (.lst ((nums aa z aa.length).map V.int)):=by rw [<-VU];exact SD
  have numOf:∀(m:Nat) (v:Int),(nums aa z aa.length)[m]?=some v->∃(j:Nat)(ru:aB),v=(j:Int)/\aa[j]?=some ru/\ru.1=z:=λm v e=>by
   unfold nums at e;rw [bB] at e;obtain⟨j,e1,rfl⟩:=b9.mp e;have hj:=(gU.mp (cf e1)).2;have hj:(aa[j]?.map 56)=some z:=dJ hj;obtain⟨ru,e2,e3⟩:=b9.mp hj;exact⟨j,ru,rfl,e2,e3⟩
  have aab:=yu aa z aa.length
  let good:Int->Bool:=λv=>match aa[v.toNat]? with | some ru=>decide (aH g ru=n) | none=>false
  have wit:∃v∈nums aa z aa.length,good v=true:=by
   obtain⟨ru,mD,q1,_,q3⟩:=DJ (TQ aa) KU Oy hz WX;obtain⟨j,ej⟩:=nq mD;have lj:=(bM.mp ej).1;refine⟨(j:Int),cQ.mpr ⟨j,gU.mpr ⟨jq.mpr lj,ff (by rw [ej];exact congrArg some q1)⟩,rfl⟩,?_⟩;show (match aa[(j:Int).toNat]? with | some ru=>decide (aH g ru=n) | none=>false)=true
   rw [pT,ej];exact ff q3
  refine⟨_,rfl,_,rfl,dn,_,rfl,hgn,p.2,rfl,⟨_,aF.of SD⟩,λD9 Lw=>bX (xs:=(nums aa z aa.length).map V.int) (λm ys σ2 H9=>ys=(((nums aa z aa.length).take m).filter good).map V.int/\(∃y0,σ2=[y0,bc dz,bc R,some (.str z)])/\aE H8 H9/\H9 D9=some (.lst ys))
   ⟨rfl,⟨none,rfl⟩,ah Lw _,ae⟩ (λm ys σ2 H9 _ h=>?_) (λm x ys σ2 H9 em h=>?_) (λys σ2 H9 h=>?_)⟩
  .obtain⟨_,_,sm,_⟩:=h;exact aF.of (sm _ _ SD)
  .obtain⟨rfl,⟨y0,rfl⟩,sm,e9⟩:=h;rw [bB] at em;obtain⟨v,ev,rfl⟩:=b9.mp em;have lm:=(bM.mp ev).1;obtain⟨j,ru,rfl,ej,S_⟩:=numOf m v ev;have L9:=L8.same sm;obtain⟨r,er,rv⟩:=Paired.at_ L9.cT j ru ej;have RH:lK 162 (j:Int)=some (.ref r):=cS (by rw [bB,er];rfl);have gj:good (j:Int)=decide (V.int (aH g ru)=V.int n):=by
    show (match aa[(j:Int).toNat]? with | some ru=>decide (aH g ru=n) | none=>false)=_
    rw [pT,ej];show decide (aH g ru=n)=_;by_cases c:aH g ru=n
    .rw [ff c,ff (congrArg V.int c)]
    rw [gB c,gB (λy=>c (by injection y))]
   refine goN ?_;refine⟨_,rfl,_,rfl,_,rfl,R,_,_,_,rfl,rfl,L9.hR,RH,dz,r,um,g,ru,rfl,L9.rz,vz,rv,h8 ru (cf ej),RK ru (cf ej),λlN oC=>?_⟩;have hgz:cq lN dz (.str z) (some (.int n)):=by
    have:=cq.r (k:=127) (L9.same oC).rz;rw [vz,WX] at this;exact this
   refine⟨_,rfl,_,rfl,dz,_,rfl,hgz,rfl,_,rfl,?_⟩;rw [<-gj];have Rn:((nums aa z aa.length).take (m+1)).filter good=((nums aa z aa.length).take m).filter good++(if good (j:Int)=true then [(j:Int)] else []):=by
    rw [cM,ev,i6]
    congr 1
    show List.filter good [(j:Int)]=_;by_cases c:good (j:Int)=true
    .rw [aA c,m_,aA c,List.filter_nil]
    rw [az c,m_,az c,List.filter_nil]
   have lf:(((nums aa z aa.length).take m).filter good).length<=1000:=cI (i8 _ _) (by rw [d7];omega);refine cC (λcc=>?_) (λcc=>?_)
   .refine⟨_,rfl,oC _ _ e9,210,by rw [Rn,aA cc,bA];rfl,159,λb u hb=>?_,ae⟩;rw [aj (λz=>by rw [z,Lw] at hb;cases hb)];exact oC _ _ (sm b u hb)
   exact⟨by rw [Rn,az cc,eE],159,sm.trans oC,oC _ _ e9⟩
  obtain⟨rfl,_,s9,e9⟩:=h;rw [aC,dI] at e9;refine goN ?_
  ac_rfl
  have L9:=L8.same s9;cases hf:(nums aa z aa.length).filter good with
  | nil =>
   obtain⟨v,hv,gv⟩:=wit;have:v∈(nums aa z aa.length).filter good:=gU.mpr ⟨hv,gv⟩;rw [hf] at this;cases this
  | cons v0 vr =>
   rw [hf] at e9;have hm0:v0∈(nums aa z aa.length).filter good:=by rw [hf];exact cx
   obtain⟨V6,SG⟩:=gU.mp hm0;obtain⟨m0,em0⟩:=nq V6;obtain⟨j,ru,rfl,ej,S_⟩:=numOf m0 v0 em0;have hsz:aH g ru=n:=by
    have SG:(match aa[(j:Int).toNat]? with | some ru=>decide (aH g ru=n) | none=>false)=true:=SG
    rw [pT,ej] at SG;exact dJ SG
   have mD:=cf ej;obtain⟨r,er,pp,v1,v2⟩:=Paired.at_ L9.cT j ru ej;have RH:lK 162 (j:Int)=some (.ref r):=cS (by rw [bB,er];rfl);have qr:lK (V.int (j:Int)::vr.map V.int) 0=some (.int (j:Int)):=cS (j:=0) rfl;have e9:H9 D9=some (.lst (V.int (j:Int)::vr.map V.int)):=e9;have e89:=s9 _ _ e8;have r8:=h8 ru mD;have Vr:∀p∈ru.2,(Sum.inr p:aR)∈kvs.map 56:=λy hy=>by
    obtain⟨my,ey⟩:=i9.mp (RK ru mD y hy);by_cases hh:y∈hd aa
    .refine Qo y (wu pw SU (pe.mem_iff.mpr hh) ?_);show (g y).getD 0 < (g z).getD 0;rw [ey,WX];show my < n;rw [<-hsz];exact Dq nn hy ey
    exact Vo y (Y5 y hh (by rw [ey];rfl))
   refine⟨_,rfl,D9,_,_,_,rfl,rfl,aF.of e9,qr,_,rfl,_,rfl,D9,_,_,_,rfl,rfl,aF.of e9,qr,R,_,_,_,rfl,rfl,L9.hR,RH,r,_,_,_,rfl,rfl,v1,rfl,pp,rfl,⟨_,v2⟩,λYb WE=>tG (zs:=ru.2) rfl v2 ∅ e89 Vr WE λys lN ly oC ER=>?_⟩;refine⟨Yb,ys,rfl,.inl ⟨aF.of ER,λt2 WJ=>⟨lX,λGO NU=>?_⟩⟩⟩;have A_:=(ah WJ (.tup ys)).trans (ah NU (.tup [.int (j:Int),.ref t2]));generalize upd (upd lN t2 (.tup ys)) GO (.tup [.int (j:Int),.ref t2])=ue at A_;have PJ:=(s9.trans oC).trans A_;have vi:=PJ _ _ e8;refine⟨_,rfl,_,rfl,dt,_,rfl,.inl ⟨kvs,127,vi,rfl,bx ∅,rfl⟩,?_⟩;have Ir:∀y:aR,(y∈kvs.map 56\/y=127)->y∈(bP kvs 145 (.ref GO)).map 56:=λy hy=>by
    by_cases hk:(127:aR)∈kvs.map 56
    .rw [AF hk];rcases hy with hy | rfl
     .exact hy
     exact hk
    rw [iR hk];rcases hy with hy | rfl
    .exact jX _ hy
    exact fO _ cx
   have aad:(bP kvs 145 (.ref GO)).length<=kvs.length+1:=by
    have a:=congrArg List.length (Eq.refl ((bP kvs 145 (.ref GO)).map 56));by_cases hk:(127:aR)∈kvs.map 56
    .have b:=congrArg List.length (AF (v:=.ref GO) hk);rw [aC,aC] at b;omega
    have b:=congrArg List.length (iR (v:=.ref GO) hk);rw [aC,bO,aC,vT] at b;omega
   refine⟨_,_,_,rfl,λb u nb hb=>?_,ae,∅,λy hy=>Ir _ (.inl (Vo y hy)),λy hy=>?_⟩
   .rw [aj nb];exact PJ _ _ (s8 b u nb hb)
   rw [cM,SU] at hy;rcases cK.mp hy with hy | hy
   .exact Ir _ (.inl (Qo y hy))
   exact Ir _ (.inr (by rw [bD.mp (show y∈[z] from hy)]))
 rintro σ H8 ⟨kvs,y3,y4,rfl,s8,e8,Vi,Vo,Qo⟩;rw [aC,dI] at Qo;have L8:=L7.Lk e7 YO YH s8;refine⟨_,rfl,q dt kvs H8 ?_ (λb u n1 n3 hb=>?_) L8.t1 L8.t3 e8 λz hz=>Qo z (pe.mem_iff.mpr hz)⟩
 .cases c:H dt with
  | none=>rfl
  | some u =>
   by_cases h1:dt=T1
   .obtain⟨pp,a,_⟩:=L3.t1;rw [<-h1,LD] at a;cases a
   rw [FJ dt u h1 U3 c] at LD;cases LD
 refine s8 _ _ (λz=>?_) (MJ b u n1 n3 hb);rw [z] at hb;rw [FJ dt u (λy=>n1 (z.trans y)) U3 hb] at LD;cases LD
end
end eZ
namespace L2
open PySem PySem.Spec PyProof.Rows
section
variable {prog:Program}{w:World}{A:Around}{E:z0b}
def wg {h h':Heap}{ks:List aR}{a:Addr}(p:(tupleKind (aX prog w)).is h ks a)(k:∀b o,o.cls=185 -> h.get? b=111->h'.get? b=111):(tupleKind (aX prog w)).is h' ks a :=
 let ⟨o,aN,n,h1,h2,h3,h4⟩:=p;⟨o,aN,n,k a o h2 h1,h2,h3,h4⟩
def xx {h h':Heap}{d:Addr}{xs:List (List aR×Addr×Value)}(hd:h.DictOfH (tupleKind (aX prog w)) d xs)(kd:∀o,h.get? d=111->h'.get? d=111)(k:∀b o,o.cls=185 -> h.get? b=111->h'.get? b=111) :
  h'.DictOfH (tupleKind (aX prog w)) d xs :=
 let ⟨o,es,ep,q,c,dd,e,is,n⟩:=hd;⟨o,es,ep,kd o q,c,dd,e,λx hx=>wg (is x hx) k,n⟩
def kW (prog:Program)(w:World)(h:Heap)(u:Value)(kv:List aR×Addr×Value):Prop :=
 ∃t n o,u=.ref t/\(tupleKind (aX prog w)).is h kv.1 kv.2.1/\h.get? t=111/\o.cls=185 /\ o.data=.seq #[.ref kv.2.1,kv.2.2] n
def kW.keep {h h':Heap}{u:Value}(p:kW prog w h u kv)(k:∀b o,o.cls=185 -> h.get? b=111->h'.get? b=111):kW prog w h' u kv :=
 let ⟨t,n,o,a,b,c,d,e⟩:=p;⟨t,n,o,a,wg b k,k t o d c,d,e⟩
def CK (more xs:List (List aR×Addr×Value)):List (List aR×Addr×Value):=more.foldl (λa p=>storedH a p.1 p.2.1 p.2.2) xs
def Kr {R:Result->Shared->Prop}{d it l:Addr}{items:z0k}(hh:A.handled=none)(hu:A.units+1 < cLine):∀(more:List (List aR×Addr×Value)) (i:Nat)(s:Shared)(kvs:List (List aR×Addr×Value)) (j:Int)(tk:Tok),items.size=i+more.length ->
  s.heap.DictOfH (tupleKind (aX prog w)) d kvs->s.heap.IsListIter it l i->s.heap.IsList l items->(∀m kv,more[m]?=some kv->∃u,items[i+m]?=some u/\kW prog w s.heap u kv)->kvs.length+more.length<=sizeLine ->
  (∀h' t',h'.DictOfH (tupleKind (aX prog w)) d (CK more kvs)->(∀b o,b≠d->b≠it->178->h'.get? b=111)->R (.ok (.ret .none)) { s with heap:=h',toks:=t' }) ->
  codeAny 147 A (.builtin "dict.update.loop" ⟨[.ref d,.ref it,.int j tk,.none],[]⟩) R s:=by
 intro more
 induction more with
 | nil =>
  intro i s kvs j tk hi hd hit hl hp hz hR;refine oH kU ?_;rw [ro eW _];unfold Builtin.«dict.update.loop»;have hs:items[i]?=none:=Array.getElem?_eq_none (by rw [hi];exact aG _);refine ax (vP hh hit hl hs λh1 eb=>?_);have nd:d≠it:=λz=>by
   obtain⟨o,_,_,q,_,c,_⟩:=hd;obtain⟨o',q',_,c'⟩:=hit;rw [z,q'] at q;cases q;rw [c'] at c;cases c
  have nt:∀b o,o.cls=185 -> 178->b≠it:=λb o c q z=>by
   obtain⟨o',q',c',_⟩:=hit;rw [z,q'] at q;cases q;rw [c'] at c;exact absurd c nofun
  show wpAny _ _ (Builtin.Dict.addKeywords d [] >>= _) _ _ _;exact ax (aK (aK (hR h1 s.toks (xx hd (λo q=>eb d o nd q) λb o c q=>eb b o (nt b o c q) q) λb o n1 n2 q=>eb b o n2 q)))
 | cons kv more ih =>
  intro i s kvs j tk hi hd hit hl hp hz hR;refine oH kU ?_;rw [ro eW _];unfold Builtin.«dict.update.loop»;obtain⟨u,hu1,t,n,o,rfl,hk,ho,hc,xl⟩:=hp 0 kv rfl;refine ax (wpAny_pyNext_list_item hit hl hu1 λh1 Vt sb=>?_);have nd:d≠it:=λz=>by
   obtain⟨o,_,_,q,_,c,_⟩:=hd;obtain⟨o',q',_,c'⟩:=hit;rw [z,q'] at q;cases q;rw [c'] at c;cases c
  have n2:∀b o,(o.cls=185 \/ o.cls=.type "list")->178->b≠d/\b≠it:=by
   intro b o c q;constructor
   .intro z;obtain⟨o',q',c'⟩:=hd.typeIs;rw [z,q'] at q;cases q;rw [c'] at c;rcases c with c | c <;> exact absurd c nofun
   intro z;obtain⟨o',q',c',_⟩:=hit;rw [z,q'] at q;cases q;rw [c'] at c;rcases c with c | c <;> exact absurd c nofun
  have nt:∀b o,o.cls=185 -> 178->b≠d/\b≠it:=λb o c q=>n2 b o (.inl c) q;have nl:l≠d/\l≠it:=by
   obtain⟨o,q,c,_⟩:=hl;exact n2 l o (.inr c) q
  have Vq:∀b o,o.cls=185 -> 178->h1.get? b=111:=λb o c q=>(sb.2 b (nt b o c q).2).trans q;have QR:h1.get? t=111:=Vq t o hc ho;have Q9:h1.DictOfH (tupleKind (aX prog w)) d kvs:=xx hd (λo q=>(sb.2 d nd).trans q) Vq;refine ax (jI (ax (wpAny_tryCatch ?_)));unfold Builtin.Dict.pairItems;refine ax (lP (T := "tuple") ⟨o,QR,hc⟩ ?_);rw [aA nofun];refine ax (jU QR xl (aK ?_));show wpAny _ _ (holding [.ref kv.2.1,kv.2.2] (dictSet d (.ref kv.2.1) kv.2.2)) _ _ _;rw [c_] at hz hi;refine jI (wpAny_dictSet_heap (s:={ s with heap:=h1 }) (oO hu) (wg hk Vq) Q9 (λh2 hd2 PF=>?_) ∅);have kk:∀b o,b≠d->b≠it->178->h2.get? b=111:=λb o n1 n2 q=>(PF.2 b n1).trans ((sb.2 b n2).trans q);have ln:(storedH kvs kv.1 kv.2.1 kv.2.2).length<=kvs.length+1:=by
   unfold storedH
   split
   .simp
   simp
  refine aK ⟨oE eW _,ih (i+1) _ _ _ _ ∅ hd2 (Vt.at λo q=>(PF.2 it (dA nd)).trans q) (hl.at λo q=>kk l o nl.1 nl.2 q) (λm Vp e=>?_) ∅ λh3 t3 ir k3=>?_⟩
  .obtain⟨u',e1,e2⟩:=hp (m+1) Vp e;exact⟨u',by rw [<-e1];congr 1;omega,e2.keep λb o c q=>kk b o (nt b o c q).1 (nt b o c q).2 q⟩
  exact hR h3 t3 ir λb o n1 n2 q=>k3 b o n1 n2 (kk b o n1 n2 q)
def qI {s:Shared}{items:z0k}{n:Nat}{more:List (List aR×Addr×Value)}(hh:A.handled=none)(hu:A.units+2 < cLine)(hx:s.heap.get? l=some { cls:=.type "list",data:=.seq items n })
  (hi:items.size=more.length)(hp:∀(m:Nat) kv,more[m]?=some kv->∃u,items[m]?=some u/\kW prog w s.heap u kv)(hz:more.length<=sizeLine)
  (h:∀h' t',h'.DictOfH (tupleKind (aX prog w)) s.heap.objs.size (CK more [])->(∀b o,178->h'.get? b=111)->Q (197) { s with heap:=h',toks:=t' }) :
  wpAny 147 A (call (.type "dict") [.ref l]) Q E s:=by
 refine callType_codes (Q₁:=λobj s₁=>obj=197/\s₁={ s with heap:=s.heap.push 285 }) F.kt_called_dict (F.kt_typeCall_dict_1 _) F.entry_dict_init (kt_code_dict_new _ ⟨rfl,rfl⟩) ?_;rintro obj s₁ ⟨rfl,rfl⟩;have A2:(s.heap.push 285).DictOfH (tupleKind (aX prog w)) s.heap.objs.size []:=Heap.DictOfH.new s.heap;have l0:=a_ 285 hx;refine⟨A2.typeIs,F.args_dict_init_2 _ _,?_⟩;unfold Builtin.«dict.__init__» Builtin.Dict.selfAndRest;refine ax (ax (wpAny_notOrdered_dict A2.typeIs (aK ?_)));show wpAny _ _ (Builtin.Dict.updateFrom "dict.__init__" s.heap.objs.size (.ref l) [] .none) _ _ _;unfold Builtin.Dict.updateFrom;refine ax (lP (T := "list") ⟨_,l0,rfl⟩ ?_);rw [aA Ac];refine ax (pD l0 hh λh1 t1 k1=>?_);refine ax (jo ?_);have l1:=k1 _ _ l0;refine ax (jV ⟨_,l1,rfl,_,rfl⟩ ?_);have k2:∀b o,178->(h1.push 302).get? b=111:=λb o q=>a_ _ (k1 _ _ (a_ _ q));refine aK ⟨oE eW _,Kr (A:=A.in1) (l:=l) (items:=items) (show A.in1.handled=none from hh) (show A.in1.units+1 < cLine by rw [Around.in1_units];omega) more 0 _ [] _ _ (by rw [hi,lR]) ?_ ⟨_,cu _ rfl,rfl,rfl⟩ ⟨_,k2 _ _ hx,rfl,n,rfl⟩ (λm kv e=>?_) (by simpa using hz) λh' t' hd k3=>?_⟩
 .exact xx A2 (λo q=>a_ _ (k1 _ _ q)) λb o _ q=>a_ _ (k1 _ _ q)
 .obtain⟨u,e1,e2⟩:=hp m kv e;exact⟨u,by rw [lR];exact e1,e2.keep λb o _ q=>k2 b o q⟩
 refine⟨rfl,h h' t' hd λb o q=>k3 b o (bp (aP q)) ?_ (k2 b o q)⟩;have:=aP (k1 _ _ (a_ 285 q));exact bp this
end
def oj (kvs bG:List (List aR×V)):List (List aR×V):=kvs.foldl (λa p=>bP a p.1 p.2) bG
theorem vd:∀{kvs:List (List aR×V)}{vs:List (List aR×Addr×Value)}{bG:List (List aR×V)}{HN:List (List aR×Addr×Value)},KT H kvs vs->KT H bG HN->KT H (oj kvs bG) (CK vs HN)
 | _,_,_,_,.nil,h=>h
 | _,_,_,_,.cons (a:=p) (b:=q) r t,h=>by
  obtain⟨e,hb,rv⟩:=r;show KT H (oj _ (bP _ p.1 p.2)) (CK _ (storedH _ q.1 q.2.1 q.2.2));rw [<-e];exact vd t (h.put p.1 hb rv)
theorem ve:∀(kvs bG:List (List aR×V)),(oj kvs bG).length<=bG.length+kvs.length
 | [],bG=>by simp [oj]
 | p::r,bG=>by
  have:=ve r (bP bG p.1 p.2);have:=dZ bG p.1 p.2;show (oj r (bP bG p.1 p.2)).length<=_;rw [c_];omega
section
variable {X:Cx}{ai:z0e}{σ:St}{H:Hp}{s:Shared}
abbrev O0 (K:aV)(H:Hp)(t:Addr)(kv:List aR×V):Prop:=∃b,aZ K H t [.ref b,kv.2]/\H b=some (.tup (kv.1.map kV))
theorem uU (I:121):∀{ts:z0o}{kvs:List (List aR×V)}{aN:z0m},Paired (O0 X.K H) ts kvs->aY (ts.map V.ref) aN ->
  ∃vs:List (List aR×Addr×Value),KT H kvs vs/\Paired (λu kv=>kW X.prog X.w s.heap u kv) aN vs
 | [],_,_,.nil,r=>by
  rw [jZ] at r;cases r;exact⟨[],.nil,.nil⟩
 | t::ts,kv::kvs,_,.cons h p,r=>by
  rw [bC] at r;cases r with
  | cons r1 r2 =>
   obtain⟨vs,e1,e2⟩:=uU I p r2;obtain⟨b,h0,hb⟩:=h;obtain⟨aN,rv,⟨o,h1,h2,n,h3⟩,_⟩:=I.tuple h0;obtain⟨u1,u2,rfl,q1,q2⟩:=vals2 rv;cases (show u1=Value.ref b from q1);exact⟨(kv.1,b,u2)::vs,.cons ⟨rfl,hb,q2⟩ e1,.cons ⟨t,n,o,r1,mz I.bw hb,h1,h2,h3⟩ e2⟩
def zm (hc:X.calm=true)(hu:X.A.units+2 < cLine):fu X (.type "dict") (λxs H Q=>∃a ts kvs,xs=[.ref a]/\H a=217/\Paired (O0 X.K H) ts kvs/\∀d,H d=none->Q (.ref d) (upd H d (.dT (oj kvs [])))):=by
 intro ai s σ H xs us Q I r h;obtain⟨a,ts,kvs,rfl,e,p,q⟩:=h;obtain⟨u,rfl,rx⟩:=vals1 r;cases (show u=Value.ref a from rx);obtain⟨z,aN,n,rv,ho⟩:=(show b8 X.prog X.w H s.heap a (.lst _) from I.bw a _ e);obtain⟨vs,r1,r2⟩:=uU I p rv;have l1:=bT r2;have l2:=bT r1;have l3:=bT p;rw [aC] at z;refine qI (I.ok.hd hc) hu ho (by simpa using l1) (λm kv em=>?_) ∅ λh' t' hd kk=>?_
 .obtain⟨u,e1,e2⟩:=Paired.at_ r2 m kv em;exact⟨u,by simpa using e1,e2⟩
 have fr:=I.bw.fresh (aG s.heap.objs.size);have new:b8 X.prog X.w (upd H s.heap.objs.size (.dT (oj kvs []))) h' s.heap.objs.size (.dT (oj kvs [])):=by
  obtain⟨o,es,ep,hq,h2,h3,h4,_,h5⟩:=hd;refine⟨?_,?_,_,(vd r1 .nil).keeps λc ys ec=>?_,o,es,ep,hq,h2,h3,h4,h5⟩
  .have:=ve kvs [];simp at this;omega
  .have:=I.big;exact jW.mpr (iw this)
  rw [aj (aq ec fr)];exact ec
 exact⟨197,_,I.laid (t':=t') kk (aG _) new,rfl,q _ fr⟩
end
open PySem M11
def Ej {K:aV}{H:Hp}{bg D:Addr}{ts:z0o}{cP:List Be}{σ:St}{x1 x2 x3 x4:Str}{Qp:Hp->Prop}(hb:aF K H bg (ts.map V.ref))(OM:Paired (λt (b:Be)=>aZ K H t [.str b.1,.str b.2.1,.int (b.2.2.1:Int),.int (b.2.2.2:Int)]) ts cP)(bN:cP.length<=900000)(hD:H D=none)
  (q:∀us H2,aE H H2->H2 D=some (.lst (us.map V.ref))->Paired (λu (b:Be)=>∃v,O0 K H2 u ([Sum.inr b.1,Sum.inr b.2.1],.ref v)) us cP->Qp H2) :
  ∃W:Nat->Nat->115->148,(∃m,W 0 m [] (eI [x1,x2,x3,x4] [] σ) (upd H D 128)) /\
 ∀i m ys σ' H,W i m ys σ' H->((kF K bg).stop i H/\Qp H)\/((kF K bg).go i H/\∃m',m' < m/\∀x H',(kF K bg).nu i H x H'->DY K 4 (ky (eA 0) (ky (eA 1) (ky (eA 2) (ky (eA 3) Hr)))) x σ' H' λσ2 H2=>jc σ2 H2 λb H3 =>
  if b=true then ug (fZ (ug (fZ (gw 0) (fZ (gw 1) qw))) (fZ (ug (fZ (gw 2) (fZ (gw 3) qw))) qw)) σ2 H3 248 else W (i+1) m' ys σ2 H3):=by
 have ll:=bT OM;refine bX (xs:=ts.map V.ref) (λi ys σ2 H2=>∃us:z0o,ys=us.map V.ref/\us.length=i/\Paired (λu (b:Be)=>∃v,O0 K H2 u ([Sum.inr b.1,Sum.inr b.2.1],.ref v)) us (cP.take i)/\(∃y0 y1 y2 y3,σ2=[y0,y1,y2,y3])/\aE H H2/\H2 D=some (.lst ys))
  ⟨[],rfl,rfl,.nil,⟨none,none,none,none,rfl⟩,ah hD _,ae⟩ (λi ys σ2 H2 _ h=>?_) (λi x ys σ2 H2 ex h=>?_) (λys σ2 H2 h=>?_)
 .obtain⟨_,_,_,_,_,sm,_⟩:=h;exact sm.seq hb
 .obtain⟨us,rfl,hu,hp,⟨y0,y1,y2,y3,rfl⟩,sm,hd⟩:=h;rw [bB] at ex;obtain⟨r,er,rfl⟩:=b9.mp ex;have lr:=(bM.mp er).1;obtain⟨b,e1⟩:∃b,cP[i]?=some b:=⟨cP[i]'∅,cN ∅⟩;obtain⟨r',NX,v1⟩:=Paired.at_ OM i b e1;rw [er] at NX;cases NX;have li:=(bM.mp e1).1;refine⟨r,_,rfl,sm.tup v1,rfl,_,_,rfl,_,_,rfl,_,_,rfl,_,_,rfl,rfl,?_⟩;refine zF ?_;refine⟨_,rfl,_,rfl,lX,λk hk=>⟨_,rfl,_,rfl,lX,λv hv=>⟨lX,λu Y7=>?_⟩⟩⟩;have s3:=(ah hk (.tup [V.str b.1,V.str b.2.1])).trans ((ah hv (.tup [V.int (b.2.2.1:Int),V.int (b.2.2.2:Int)])).trans (ah Y7 (.tup [.ref k,.ref v])));have ek:=((ah hv (.tup [V.int (b.2.2.1:Int),V.int (b.2.2.2:Int)])).trans (ah Y7 (.tup [.ref k,.ref v]))) k _ ae;have eu:aZ K (upd (upd (upd H2 k (.tup [V.str b.1,V.str b.2.1])) v (.tup [V.int (b.2.2.1:Int),V.int (b.2.2.2:Int)])) u (.tup [.ref k,.ref v])) u [.ref k,.ref v]:=aZ.of ae;generalize upd (upd (upd H2 k (.tup [V.str b.1,V.str b.2.1])) v (.tup [V.int (b.2.2.1:Int),V.int (b.2.2.2:Int)])) u (.tup [.ref k,.ref v])=H4 at s3 ek eu;have EO:=s3 _ _ hd;refine⟨EO,210,us++[u],by rw [bA];rfl,by rw [bO,hu];rfl,?_,⟨_,_,_,_,rfl⟩,?_,ae⟩
  .rw [cM,e1];have kD:k≠D:=λz=>by rw [z,EO] at ek;cases ek
   refine gA (Paired.ij hp λu' b' aW=>?_) ⟨v,k,aT EO eu,by rw [aj kD];exact ek⟩;obtain⟨v',bb,p1,p2⟩:=aW;exact⟨v',bb,aT EO (s3.tup p1),by rw [aj (λz=>by rw [z,hd] at p2;cases p2)];exact s3 _ _ p2⟩
  intro c o hc;rw [aj (λz=>by rw [z,hD] at hc;cases hc)];exact s3 _ _ (sm c o hc)
 obtain⟨us,rfl,hu,hp,_,sm,hd⟩:=h;rw [aC,ll,dI] at hp;exact q us H2 sm hd hp
theorem F4 {K:aV}:∀{us:z0o}{cP:List Be},Paired (λu (b:Be)=>∃v,O0 K H u ([Sum.inr b.1,Sum.inr b.2.1],.ref v)) us cP->∃kvs,Paired (O0 K H) us kvs
 | _,_,.nil=>⟨[],.nil⟩
 | _,_,.cons ⟨v,h⟩ t=>let ⟨kvs,p⟩:=F4 t;⟨_::kvs,.cons h p⟩
end L2
namespace eZ
open PySem L2 M11
def Tab.s2 {T T1 T2:Addr}(h:Tab T p q H)(s:lL T1 T2 H H')(t1:Tab T1 p1 q1 H)(t2:Tab T2 p2 q2 H)(n1:T≠T1)(n2:T≠T2):Tab T p q H':=by
 obtain⟨ps,a,b,c⟩:=h;obtain⟨Se,b1,_⟩:=t1;obtain⟨YF,b2,_⟩:=t2;refine⟨ps,s _ _ n1 n2 a,b,c.imp id ?_⟩;rintro⟨c',e,g⟩;exact⟨c',e,s _ _ (λz=>by rw [z,b1] at g;cases g) (λz=>by rw [z,b2] at g;cases g) g⟩
def kb {T a C dx:Addr}{fs:List (Str×V)}{o:HO}(h:Tab T pos qu H)(ha:H a=some (.ins C dx fs)):Tab T pos qu (upd H a o):=by
 obtain⟨ps,p,r,c⟩:=h;refine⟨ps,by rw [aj (λz=>by rw [z,ha] at p;cases p)];exact p,r,c.imp id ?_⟩;rintro⟨c',e,g⟩;exact⟨c',e,by rw [aj (λz=>by rw [z,ha] at g;cases g)];exact g⟩
def Kp (H H':Hp):Prop:=∀b o,H b=111->(∀ps,o≠.ub ps)->H' b=111
def Kp.trans (a:Kp H H1)(b:Kp H1 H2):Kp H H2:=λc o h n=>b c o (a c o h n) n
def Kp.of (s:aE H H'):Kp H H':=λb o h _=>s b o h
def Kp.of2 (s:lL T1 T2 H H')(t1:Tab T1 p1 q1 H)(t2:Tab T2 p2 q2 H):Kp H H':=λc o hc hn=>by
 obtain⟨Se,b1,_⟩:=t1;obtain⟨YF,b2,_⟩:=t2;exact s c o (λz=>by rw [z,b1] at hc;cases hc;exact hn _ rfl) (λz=>by rw [z,b2] at hc;cases hc;exact hn _ rfl) hc
section
theorem Kp.lst (k:Kp H H'){a:Addr}{xs:115}(h:H a=some (.lst xs)):H' a=some (.lst xs):=k a _ h (λ_ z=>by cases z)
def Kp.tup (k:Kp H H'){a:Addr}{xs:115}(h:aZ K H a xs):aZ K H' a xs:=by
 rcases h with (h | ⟨u,h⟩) | h
 .exact .inl (.inl (k _ _ h (λ_ z=>by cases z)))
 .exact .inl (.inr ⟨u,k _ _ h (λ_ z=>by cases z)⟩)
 exact .inr h
def Kp.seq (k:Kp H H'){a:Addr}{xs:115}(h:aF K H a xs):aF K H' a xs:=by
 rcases h with (h | ⟨u,h⟩) | h
 .exact .inl (.inl (k _ _ h (λ_ z=>by cases z)))
 .exact .inl (.inr ⟨u,k _ _ h (λ_ z=>by cases z)⟩)
 exact .inr h
theorem Kp.aa (k:Kp H H'){aa:113}(h:bj K H rs aa):bj K H' rs aa:=h.keep λ_ _ z=>k.tup z
abbrev As:Stmt:=Ld sLT 0
structure LC (K:aV)(C:Addr):Prop where
 cls:C4 K C
 a1:de K C "rules"
 a2:de K C "empty"
 a3:de K C "least"
 a4:de K C "hollow"
 a5:de K C "beginnings"
structure EX (C3 T1 T3:Addr)(H0 H:Hp)(a dx:Addr)(fs:List (Str×V)):Prop where
 sm:lL T1 T3 H0 H
 ia:H a=some (.ins C3 dx fs)
 fa:H0 a=none
 t1:Tab T1 sE.2.2.2 zC H
 t3:Tab T3 posB Iq H
 o1:Tab T1 sE.2.2.2 zC H0
 o3:Tab T3 posB Iq H0
def EX.kp {C3 T1 T3 a dx:Addr}{fs:List (Str×V)}(h:EX C3 T1 T3 H0 H a dx fs):Kp H0 H:=Kp.of2 h.sm h.o1 h.o3
def EX.set {C3 T1 T3 a dx:Addr}{fs:List (Str×V)}(h:EX C3 T1 T3 H0 H a dx fs)(LA:List (Str×V)):EX C3 T1 T3 H0 (upd H a (.ins C3 dx LA)) a dx LA :=
 ⟨λb o n1 n3 hb=>by rw [aj (λz=>by rw [z,h.fa] at hb;cases hb)];exact h.sm b o n1 n3 hb,ae,h.fa,kb h.t1 h.ia,kb h.t3 h.ia,h.o1,h.o3⟩
def EX.next {C3 T1 T3 a dx:Addr}{fs:List (Str×V)}(h:EX C3 T1 T3 H0 H a dx fs)(s:aE H H'):EX C3 T1 T3 H0 H' a dx fs :=
 ⟨λb o n1 n3 hb=>s _ _ (h.sm b o n1 n3 hb),s _ _ h.ia,h.fa,h.t1.same s,h.t3.same s,h.o1,h.o3⟩
def EX.P8 {C3 T1 T3 a dx:Addr}{fs:List (Str×V)}(h:EX C3 T1 T3 H0 H a dx fs)(s:lL T1 T3 H H')(t1:Tab T1 sE.2.2.2 zC H')(t3:Tab T3 posB Iq H'):EX C3 T1 T3 H0 H' a dx fs :=
 ⟨λb o n1 n3 hb=>s _ _ n1 n3 (h.sm b o n1 n3 hb),Kp.of2 s h.t1 h.t3 _ _ h.ia (λ_ z=>by cases z),h.fa,t1,t3,h.o1,h.o3⟩
def Ce (K:aV)(C C3 T1 T3:Addr):Sp:=λvs H Q _=>∃(H0 Hb:Hp)(a dx R x e d bg:Addr)(rs:z0o)(aa:113)(kE:140)(bo:z0h)(ps:z0f)(cP:List Be),vs=[.ref a,.ref R,.ref x]/\aE H0 H/\H0 a=none/\H a=some (.ins C3 dx [])/\aF K H0 R 162/\bj K H0 rs aa /\
 aa.length < 64/\250/\(∀g,bE M11.bl aa (jP aa) g->bS M11.bl aa g->∀h∈hd aa,∃n,g h=some n/\n<=60)/\uB K C Hb H0 x e d bg kE bo ps cP/\xI aa bo/\cP.length<=80000/\Tab T1 sE.2.2.2 zC H0/\Tab T3 posB Iq H0/\T1≠T3 /\
 ∀H',lL T1 T3 H0 H'->Tab T1 sE.2.2.2 zC H'->Tab T3 posB Iq H'->Q .dq H'
def I_:aJ ["self","rules","begin_table"] ["self","rules","begin_table"] (av As):=182
def Gu (F:iu K "__init__" "LeastTrees.__init__" As f fd)(T:Txt mg)(B:BC K C)(L:LC K C3)(GL:aL P w K mg base 4 "least_by_part" ["rules"] (oY K T1 T3))(GE:aL P w K mg base 4 "empty_by_name" ["rules","empties"] (uO K)) :
  bF P w K mg base fN 5 f fd ["self","rules","begin_table"] (Ce K C C3 T1 T3):=by
 refine F.ok I_ 186 195
 .obtain⟨H0,Hb,a,dx,R,x,e,d,bg,rs,aa,kE,bo,ps,cP,rfl,_⟩:=h;rfl
 obtain⟨H0,Hb,a,dx,R,x,e,d,bg,rs,aa,kE,bo,ps,cP,rfl,s0,f0,ea,hR,cT,bN,h8,He,S,emp,Nh,t1,t3,nT,q⟩:=h;have hu:=oR (Nat.add_le_add_left (by decide:2<=64) _) hr.units;refine⟨_,ao (gi (pv 0) (pv 1) rfl)
  (ao (gi (pv 0) (eD (pv 2) rfl) rfl)
  (ao (gi (pv 0) (bU GL hr rfl (af (pv 1) ak)) rfl)
  (ao (gi (pv 0) (bU GE hr rfl (af (pv 1) (af (eD (pv 2) rfl) ak))) rfl)
  (ar (gi (pv 0) (bh (zm rfl hu) rfl T.xO fk (af (bV ["name","word","number","place"] [] rfl (bq (eD (pv 2) rfl)) (bH rfl rfl) nofun rfl nofun
   (λ_ _ _ _ _=>iT (n:=4) K rfl (aI (ay (i:=0) (show (["name","word","number","place"]:z0r).Nodup by decide +kernel) rfl 116) (aI (ay (i:=1) (show (["name","word","number","place"]:z0r).Nodup by decide +kernel) rfl 116) (aI (ay (i:=2) (show (["name","word","number","place"]:z0r).Nodup by decide +kernel) rfl 116) (aI (ay (i:=3) (show (["name","word","number","place"]:z0r).Nodup by decide +kernel) rfl 116) cy))))) (λ_ _ _ _ _=>cJ)
   (λ_ _ _ _ _=>bJ (af (bJ (af (pv 0) (af (pv 1) ak))) (af (bJ (af (pv 2) (af (pv 3) ak))) ak)))) ak)) rfl))))),?_⟩
 nofun
 have S0:EX C3 T1 T3 H0 H a dx []:=⟨λb o _ _ hb=>s0 b o hb,ea,f0,t1.same s0,t3.same s0,t1,t3⟩;obtain⟨e1,te,⟨OY,OP,SV,leb⟩,ee1,evb,_⟩:=S.em;obtain⟨aau,aao,Rm,l1,l2,_⟩:=S.ia;rw [SV] at Rm;cases Rm;obtain⟨tb,ebg,OM⟩:=S.lb;have lets:=emp.len;refine⟨_,rfl,_,rfl,a,C3,dx,[],rfl,S0.ia,L.cls,L.a1,(by show 0 < 1000;decide),?_⟩;have S1:=S0.set (dN "rules" (.ref R) []);generalize SI:dN "rules" (.ref R) []=SR at S1;generalize upd H a (.ins C3 dx SR)=H1 at S1;have x1:H1 x=some (.ins C OY OP):=S1.kp _ _ SV (λ_ z=>by cases z);refine⟨_,rfl,x,C,OY,OP,_,rfl,x1,B.cls,B.a2,l1,_,rfl,a,C3,dx,SR,rfl,S1.ia,L.cls,L.a2,(by rw [<-SI];show 1 < 1000;decide),?_⟩;have S2:=S1.set (dN "empty" (.ref e) SR);generalize QZ:dN "empty" (.ref e) SR=ur at S2;generalize upd H1 a (.ins C3 dx ur)=H2 at S2;refine⟨_,rfl,R,rs,aa,rfl,S2.kp.seq hR,S2.kp.aa cT,bN,h8,He,S2.t1,S2.t3,nT,λdl kl H3 fdl s3 kX t33 Td kdl=>?_⟩;have S3:=S2.P8 s3 kX t33;refine⟨_,rfl,a,C3,dx,ur,rfl,S3.ia,L.cls,L.a3,(by rw [<-QZ,<-SI];show 2 < 1000;decide),?_⟩;have S4:=S3.set (dN "least" (.ref dl) ur);generalize Zn:dN "least" (.ref dl) ur=OQ at S4;generalize upd H3 a (.ins C3 dx OQ)=H4 at S4;have x4:H4 x=some (.ins C OY OP):=S4.kp _ _ SV (λ_ z=>by cases z);refine⟨_,rfl,_,rfl,x,C,OY,OP,_,rfl,x4,B.cls,B.a1,leb,R,e1,rs,te,aa,bo,rfl,S4.kp.seq hR,S4.kp.aa cT,∅,h8,aF.of (S4.kp.lst ee1),evb.keep λ_ _ z=>S4.kp.tup z,emp,∅,λdh kh H5 fdh s5 edh kdh=>?_⟩;have S5:=S4.next s5;refine⟨_,rfl,a,C3,dx,OQ,rfl,S5.ia,L.cls,L.a4,(by rw [<-Zn,<-QZ,<-SI];show 3 < 1000;decide),?_⟩;have S6:=S5.set (dN "hollow" (.ref dh) OQ);generalize hf6:dN "hollow" (.ref dh) OQ=zG at S6;generalize upd H5 a (.ins C3 dx zG)=H6 at S6;have x6:H6 x=some (.ins C OY OP):=S6.kp _ _ SV (λ_ z=>by cases z);have b6:=S6.kp.lst ebg;have v6:Paired (λt (b:Be)=>aZ K H6 t [.str b.1,.str b.2.1,.int (b.2.2.1:Int),.int (b.2.2.2:Int)]) tb cP:=Paired.ij OM λ_ _ z=>S6.kp.tup z;refine⟨_,rfl,x,C,OY,OP,_,rfl,x6,B.cls,B.a3,l2,bg,rfl,⟨_,aF.of b6⟩,λD7 WB=>Ej (aF.of b6) v6 ∅ WB λus H7 s7 e7 p7=>?_⟩;obtain⟨kvs,pk⟩:=F4 p7;refine⟨D7,us,kvs,rfl,e7,pk,λdb qC=>?_⟩;have S8:=(S6.next s7).next (ah qC (.dT (oj kvs [])));refine⟨_,rfl,a,C3,dx,zG,rfl,S8.ia,L.cls,L.a5,(by rw [<-hf6,<-Zn,<-QZ,<-SI];show 4 < 1000;decide),?_⟩;have S9:=S8.set (dN "beginnings" (.ref db) zG);exact q _ S9.sm S9.t1 S9.t3
structure zu (K:aV)(x qual:Str)(st:Stmt)(f:Addr)(fd:FuncData):Prop where
 ex:∃(oc:Value)(od:z0l)(kV doc pm:Value)(an:z0l)(dB ct:Value)(wO:z0a)(T:Addr)(o:Obj) (n:Nat),
  fd=PySem.W.fnOf x qual (di st) (bZ st) (av st) (.ref T) kV doc pm an dB ct/\K.lookup f=some ⟨oc,od,.func fd,wO⟩/\PySem.W.codeIn K dB qual=true/\K.lookup T=111/\o.data=.seq #[.none] n
 kp:PySem.W.keepIn K (.ref f)=true
def zu.ok {x qual:Str}{f:Addr}{N ps:z0r}{k:Nat}{sp:Sp}(F:zu K x qual st f fd)(S:aJ N ps (av st))(len:∀vs H Q E,sp vs H Q E->vs.length=ps.length)
  (g_:∀(dB:Value)(A:Around)(outer:List Env)(s:Shared)(H:Hp)(vs:115)(Q:VK)(E:XK),dG k (A.deeper (PyProof.Rows.envOfC qual (av st) s.heap.objs.size f dB))->sp vs H Q E ->
   ∃t,vC (eY fN P w K mg base N qual (av st) f dB A outer s H E).JM (bZ st) t/\t { nx:=λ_ H'=>Q .dq H',rt:=Q } (start N vs) H):bF P w K mg base fN (k+1) f fd ps sp:=by
 obtain⟨oc,od,kV,doc,pm,an,dB,ct,wO,T,o,n,rfl,lk,sR,_⟩:=F.ex;refine yR lk sR S len λA outer s H vs Q E hr zD=>?_;obtain⟨t,h,q⟩:=g_ dB A outer s H vs Q E hr zD;exact⟨t,h.JM,q⟩
def Hm {f:Addr}(F:zu K "__init__" "Grammar.__init__" rT f fd):Binds K fd ["self","rules","strengths"] []:=by
 obtain⟨oc,od,kV,doc,pm,an,dB,ct,wO,T,o,n,rfl,lk,sR,lT,dT⟩:=F.ex;intro s us KI hl
 match us,hl with
 | [u1,u2,u3],_=>exact BindsTo.of_defaults rfl (KI T o lT) dT rfl rfl
def Hl {f:Addr}(F:zu K "__init__" "Grammar.__init__" rT f fd):Binds K fd ["self","rules","strengths"] [.none]:=by
 obtain⟨oc,od,kV,doc,pm,an,dB,ct,wO,T,o,n,rfl,lk,sR,lT,dT⟩:=F.ex;intro s us KI hl;have mH:us.length=2:=by
  have:(us++[Value.none]).length=3:=hl;rw [bO] at this;exact Nat.succ.inj this
 match us,mH with
 | [u1,u2],_=>exact BindsTo.of_defaults rfl (KI T o lT) dT rfl rfl
structure GC (K:aV)(C:Addr):Prop where
 cls:C4 K C
 a1:de K C "rules"
 a2:de K C "strengths"
 a3:de K C "begin_table"
 a4:de K C "standings"
 a5:de K C "small_trees"
def StrIn (K:aV)(H:Hp)(sv:V)(ss:z0o)(str:113):Prop:=(sv=.dq/\ss=[]/\str=[])\/∃S,sv=.ref S/\aF K H S (ss.map V.ref)/\bj K H ss str
def X5 (H0 H:Hp)(Cg g:Addr)(rs ss:z0o)(bt:Addr):Prop:=∃gx fs R2 S2,H g=some (.ins Cg gx fs)/\fs.lookup ("rules":Str)=some (.ref R2)/\fs.lookup ("strengths":Str)=some (.ref S2)/\fs.lookup ("begin_table":Str)=some (.ref bt)/\fs.lookup ("start":Str)=none /\
 H R2=some 235/\H S2=some (.lst (ss.map V.ref))/\H0 R2=none/\H0 S2=none
def ou (T1 T2 T3:Addr)(H H':Hp):Prop:=∀b o,b≠T1->b≠T2->b≠T3->H b=111->H' b=111
structure xQ (T1 T2 T3:Addr)(H:Hp):Prop where
 t1:Tab T1 sE.2.2.2 zC H
 t2:Tab T2 A7.2.2.2 Lf H
 t3:Tab T3 posB Iq H
 JQ:T1≠T2
 Ip:T1≠T3
 Io:T2≠T3
theorem xQ.same (h:xQ T1 T2 T3 H)(s:aE H H'):xQ T1 T2 T3 H':=⟨h.t1.same s,h.t2.same s,h.t3.same s,h.JQ,h.Ip,h.Io⟩
def xQ.E7 {T1 T2 T3 a C dx:Addr}{fs:List (Str×V)}{o:HO}(h:xQ T1 T2 T3 H)(ha:H a=some (.ins C dx fs)):xQ T1 T2 T3 (upd H a o):=⟨kb h.t1 ha,kb h.t2 ha,kb h.t3 ha,h.JQ,h.Ip,h.Io⟩
def Kp.Sh (s:ou T1 T2 T3 H H')(t:xQ T1 T2 T3 H):Kp H H':=λc o hc hn=>by
 obtain⟨Se,b1,_⟩:=t.t1;obtain⟨YF,b2,_⟩:=t.t2;obtain⟨ps3,b3,_⟩:=t.t3;exact s c o (λz=>by rw [z,b1] at hc;cases hc;exact hn _ rfl) (λz=>by rw [z,b2] at hc;cases hc;exact hn _ rfl) (λz=>by rw [z,b3] at hc;cases hc;exact hn _ rfl) hc
def uB.E7 {a e d bg:Addr}{ps:z0f}{g Cg gx:Addr}{fs LA:List (Str×V)}(h:uB K C H0 H a e d bg kE bo ps cP)(hg:H0 g=some (.ins Cg gx fs))(na:a≠g) :
  uB K C (upd H0 g (.ins Cg gx LA)) (upd H g (.ins Cg gx LA)) a e d bg kE bo ps cP:=by
 have Ka:=h.sm _ _ hg;have up:∀c o,c≠g->H c=111->upd H g (.ins Cg gx LA) c=111:=λc o n q=>by rw [aj n];exact q
 refine⟨λc o hc=>?_,?_,up _ _ (λz=>by have:=h.he;rw [z,Ka] at this;cases this) h.he,up _ _ (λz=>by have:=h.hd;rw [z,Ka] at this;cases this) h.hd,h.n1,h.n2,λp hp=>?_,?_,?_,?_⟩
 .by_cases z:c=g
  .rw [z,ae] at hc ⊢;exact hc
  rw [aj z] at hc ⊢;exact h.sm _ _ hc
 .obtain⟨dx,fs,q,r⟩:=h.ia;exact⟨dx,fs,up _ _ na q,r⟩
 .obtain⟨⟨kvs,q,r⟩,t1,t2⟩:=h.dk p hp;exact⟨⟨kvs,up _ _ (λz=>by rw [z,Ka] at q;cases q) q,r⟩,by rw [aj (λz=>by rw [z,hg] at t1;cases t1)];exact t1,t2⟩
 .obtain⟨ts,q,r⟩:=h.lb;exact⟨ts,up _ _ (λz=>by rw [z,Ka] at q;cases q) q,Paired.ij r λ_ _ z=>gZ Ka z⟩
 .have t1:=h.fb;rw [aj (λz=>by rw [z,hg] at t1;cases t1)];exact t1
 obtain⟨e1,ts,⟨dx,fs,q1,q2⟩,q3,q4,q5⟩:=h.em;exact⟨e1,ts,⟨dx,fs,up _ _ na q1,q2⟩,up _ _ (λz=>by rw [z,Ka] at q3;cases q3) q3,q4.keep λ_ _ z=>gZ Ka z,q5⟩
def Jc:aJ ["self","rules","strengths"] ["self","rules","strengths"] (av rT):=182
def Cb (K:aV)(Cg:Addr):Sp:=λvs H Q _=>∃(H0:Hp)(g bt:Addr)(rs ss:z0o)(aa:113)(jx:aB),vs=[.ref g]/\X5 H0 H Cg g rs ss bt/\bj K H rs aa/\aa[0]?=some jx/\Q (.str jx.1) H
def I0:aJ ["self"] ["self"] (av Ap):=182
def Gr (F:iu K "start" "Grammar.start" Ap f fd)(G:GC K Cg):bF P w K mg base fN 1 f fd ["self"] (Cb K Cg):=by
 refine F.ok I0 186 195
 .obtain⟨H0,g,bt,rs,ss,aa,jx,rfl,_⟩:=h;rfl
 obtain⟨H0,g,bt,rs,ss,aa,jx,rfl,⟨gx,fs,R2,S2,eg,l1,l2,l3,l4,e1,e2,_⟩,cT,yO,q⟩:=h;refine⟨_,ar (br (aO cz (aO aQ (eD (pv 0) rfl) au 144) au 144)),?_⟩;dsimp only [pK];have ll:=bT cT;have l0:=(bM.mp yO).1;obtain⟨r0,SX,p,v1,v2⟩:=Paired.at_ cT 0 jx yO;have qr:lK 162 ((0:Nat):Int)=some (.ref r0):=cS (by rw [bB,SX];rfl);exact⟨_,rfl,g,Cg,gx,fs,_,rfl,eg,G.cls,G.a1,l1,R2,_,_,_,rfl,rfl,aF.of e1,qr,r0,_,_,_,rfl,rfl,v1,rfl,q⟩
end
end eZ
namespace L2
open PySem PySem.Spec PyProof.Rows
def Ed (o:Obj)(f:z0k->z0k):(o.mapFields f).dict=o.dict:=by
 obtain⟨c,d,dt,sl⟩:=o;cases dt <;> rfl
def tY (h:Heap)(e:Addr)(cls:Value)(dx:z0l)(T:Addr)(fl:Value):Prop :=
 ∃oe vs oT ts,h.get? e=some oe/\oe.cls=cls/\oe.dict=dx/\oe.data=.fields vs/\vs[1]?=some (.ref T)/\T≠e/\h.get? T=some oT/\oT.data=.fields ts/\ts[3]?=some fl
structure Moved (fs as:z0o)(h h':Heap):Prop where
 keep:∀b o,b∉as->b∉fs->h.get? b=111->h'.get? b=111
 slot:∀b o,b∉as->h.get? b=111->∃sl,h'.get? b=some { o with slots:=sl }
def Moved.trans {fs as:z0o}(a:Moved fs as h h1)(b:Moved fs as h1 h2):Moved fs as h h2 :=
 ⟨λc o n f e=>b.keep c o n f (a.keep c o n f e),λc o n e=>by
  obtain⟨s1,e1⟩:=a.slot c o n e;obtain⟨s2,e2⟩:=b.slot c _ n e1;exact⟨s2,e2⟩⟩
def Moved.mono {fs as as':z0o}(a:Moved fs as h h1)(s:∀b∈as,b∈as'):Moved fs as' h h1 :=
 ⟨λc o n f e=>a.keep c o (λz=>n (s c z)) f e,λc o n e=>a.slot c o (λz=>n (s c z)) e⟩
section
variable {M:Model}{A:Around}{E:z0b}{s:Shared}{base:Heap}{env:Env}{outer:List Env}{L e:Addr}
def mP {dx:z0l}{T:Addr}{fs:z0o}{Q:Unit->Shared->Prop}(F:tY s.heap e cls dx T fl)
  (hq:∀h',Moved fs [T] s.heap h'->tY h' e cls dx T .none->Q () 216):wpAny M A (setFlight (.ref e) none) Q E s:=by
 obtain⟨oe,vs,oT,ts,he,hc,hx,hd,h1,ne,hT,NF,h3⟩:=F;have sz:3 < ts.size:=(v9.mp h3).1;unfold setFlight;refine ax (dU he hd h1 ?_);rw [aA 125];refine lS hT NF sz (hq _ ⟨λb o n _ q=>?_,λb o n q=>⟨o.slots,?_⟩⟩ ⟨oe,vs,_,_,?_,hc,hx,hd,h1,ne,qZ _ hT (vN (lW NF _)),lW NF _,?_⟩)
 .rw [jY _ _ (λz:T=b=>n (by simp [z]))];exact q
 .rw [jY _ _ (λz:T=b=>n (by simp [z]))];exact q
 .rw [jY _ _ ne];exact he
 simp [sz]
def yw {oe:Obj}{vs:z0k}{Q:Unit->Shared->Prop}(Kb:A.frames=some (env::outer))(hl:s.heap.FunFrames base (env::outer))(hf:env.frame=some L)
  (he:s.heap.get? e=some oe)(hd:oe.data=.fields vs)(sz:1 < vs.size)
  (hq:∀h' T,Moved (qG (env::outer)) [e] s.heap h'->s.heap.objs.size<=T->tY h' e oe.cls oe.dict T (rawInt L)->Q () 216) :
  wpAny M A (do
   let a <-frameOf env
   let pl <-entryPlaceOf L hn
   let b <-EntryCells.newEntry qD a .none (rawInt L) .none pl
   setField (.ref e) 1 b) Q E s:=by
 have efr:e∉qG (env::outer):=λz=>by
  obtain⟨_,o,ho,nf⟩:=hl.mem z;rw [he] at ho;cases ho;exact nf vs hd
 refine ax (wpAny_frameOf_fun Kb hl hf λh1 x1=>ax (wpAny_entryPlaceOf λpl mE=>?_));unfold EntryCells.newEntry newFields;refine ax (j8 ?_ (mE.sizeOk5 _ _ _ _ _));have e1:h1.get? e=some oe:=(x1.2.1 e efr).trans he;have ne:h1.objs.size≠e:=iw (aP e1);have Sz:h1.objs.size=s.heap.objs.size:=x1.1;have dF:=lW hd (·.setIfInBounds 1 (Value.ref h1.objs.size));have old:∀(o₂:Obj)(b:Addr)(o:Obj),b≠e->h1.get? b=111->((h1.push o₂).update e (Obj.mapFields (·.setIfInBounds 1 (Value.ref h1.objs.size)))).get? b=111:=λo₂ b o nb q=>by
  rw [jY _ _ (dA nb)];exact a_ _ q
 have tb:∀o₂:Obj,o₂.isFreed=false->((h1.push o₂).update e (Obj.mapFields (·.setIfInBounds 1 (Value.ref h1.objs.size)))).get? h1.objs.size=some o₂:=λo₂ nf=>by
  rw [jY _ _ (dA ne)];exact cu h1 nf
 refine lS (a_ _ e1) hd sz (hq _ h1.objs.size ⟨λb o n f q=>?_,λb o n q=>?_⟩ ?_ ⟨_,_,_,_,qZ _ (a_ _ e1) (vN dF),Obj.cls_mapFields _ _,Ed _ _,dF,by simp [sz],ne,tb _ rfl,rfl,?_⟩)
 .exact old _ b o (λz=>n (by simp [z])) ((x1.2.1 b f).trans q)
 .obtain⟨sl,q1⟩:=x1.2.2 b o q;exact⟨sl,old _ b _ (λz=>n (by simp [z])) q1⟩
 .exact Nat.le_of_eq Sz.symm
 first
  | (simp;done)
  | (rcases mE with rfl | ⟨_,_,_,_,_,_,_,rfl⟩ <;> simp)
def AZ {oe:Obj}{Q:Unit->Shared->Prop}(Kb:A.frames=some (env::outer))(hl:s.heap.FunFrames base (env::outer))(hf:env.frame=some L)
  (he:s.heap.get? e=some oe)(hd:oe.data=.fields vs)(h1:vs[1]?=some .none)
  (hq:∀h' T,Moved (qG (env::outer)) [e] s.heap h'->s.heap.objs.size<=T->tY h' e oe.cls oe.dict T (rawInt L)->Q () 216):wpAny M A (noteFrame (.ref e) env) Q E s:=by
 unfold noteFrame;simp only [hf];refine ax (dU he hd h1 ?_);rw [az nofun];exact yw Kb hl hf he hd (v9.mp h1).1 hq
def uZ {dx:z0l}{Q:Unit->Shared->Prop}(Kb:A.frames=some (env::outer))(hl:s.heap.FunFrames base (env::outer))(hf:env.frame=some L)
  (F:tY s.heap e cls dx T0 .none)
  (hq:∀h' T,Moved (qG (env::outer)) [e,T0] s.heap h'->s.heap.objs.size<=T->tY h' e cls dx T (rawInt L)->Q () 216):wpAny M A (noteFrame (.ref e) env) Q E s:=by
 obtain⟨oe,vs,oT,ts,he,hc,hx,hd,h1,ne,hT,NF,h3⟩:=F;subst hc hx;unfold noteFrame;simp only [hf];refine ax (dU he hd h1 ?_);rw [aA 125];refine ax (dU hT NF h3 ?_);rw [az (by simp [rawInt])];refine ax (lS hT NF (v9.mp h3).1 ?_);have Sf:∀b,b≠T0->(s.heap.update T0 (Obj.mapFields (·.setIfInBounds 3 Value.none))).get? b=s.heap.get? b:=λb n=>jY _ _ (dA n);have nT:∀b o,178->(∀vs,o.data≠.fields vs)->b≠T0:=λb o q nf z=>by
  rw [z,hT] at q;cases q;exact nf ts NF
 refine yw Kb (hl.of_keeps λb o q nf=>⟨o,(Sf b (nT b o q nf)).trans q,rfl⟩) hf ((Sf e (dA ne)).trans he) hd (v9.mp h1).1 λh' T m nw fd=>?_;refine hq h' T ⟨λb o n f q=>m.keep b o (λz=>n (by simp at z;simp [z])) f ((Sf b λz=>n (by simp [z])).trans q),λb o n q=>m.slot b o (λz=>n (by simp at z;simp [z])) ((Sf b λz=>n (by simp [z])).trans q)⟩ ?_ fd;rw [Heap.size_after_update] at nw;exact nw
end
def uu (ea:Addr)(cls:Value)(dx:z0l):HO:=.ext λh=>∃oe vs,h.get? ea=some oe/\oe.cls=cls/\oe.dict=dx/\oe.data=.fields vs
def CL {w:World}{h:Heap}{dx:z0l}{oe:Obj}(e:h.get? ea=some oe)(c:oe.cls=cls)(d:oe.dict=dx)(f:oe.data=.fields vs) :
  b8 P w H h ea (uu ea cls dx) :=
 ⟨⟨oe,vs,e,c,d,f⟩,⟨oe,e⟩,λ_ _ ⟨o,ws,q,r⟩ k=>⟨o,ws,k o q,r⟩⟩
def tY.ok {w:World}{ea T:Addr}{dx:z0l}(F:tY h ea cls dx T fl):b8 P w H h ea (uu ea cls dx):=by
 obtain⟨oe,vs,_,_,he,hc,hx,hd,_⟩:=F;exact CL he hc hx hd
def LV (h0:Heap)(H:Hp)(h:Heap)(ea:Addr)(cls:Value)(dx:z0l):Prop :=
 ∃T,tY h ea cls dx T .none/\H T=none/\H ea=some (uu ea cls dx)/\h0.objs.size<=T/\h0.objs.size<=ea
def jR (P:Program)(w:World):EY:=λouter H s E e s' =>
 ∃ea cls dx H',e=.ref ea/\s'.os=s.os/\AllBare s'.gens/\Un (qG outer) [] H H' s.heap s'.heap/\lM P w H' s'.heap/\LV s.heap H' s'.heap ea cls dx/\E cls dx H'
section
variable {X:Cx}{ai:z0e}{σ:St}{H:Hp}{s:Shared}{M:Model}{A:Around}{E':z0b}{E:XK}{ea:Addr}{cls:Value}{dx:z0l}
def u5 {as:z0o}(J:121)(lI:X.stack=X.env::X.outer)(hex:X.ex=[])
  (hn:∀Q:Unit->Shared->Prop,(∀h' T,Moved (qG X.stack) as s.heap h'->s.heap.objs.size<=T->tY h' ea cls dx T (rawInt X.env.locals)->Q () 216)->wpAny M A (noteFrame (.ref ea) X.env) Q E' s)
  (has:∀b∈as,(H b=none\/b=ea)/\X.s₀.heap.objs.size<=b)(Bi:H ea=some (uu ea cls dx)/\X.s₀.heap.objs.size<=ea)(hE:E cls dx H) :
  wpAny M A (leaving X.env (.ref ea)) (λ_ FK=>jR X.prog X.w X.outer X.H₀ X.s₀ E (.ref ea) FK) E' s:=by
 unfold leaving;refine ax (hn _ λh1 T m1 lT F1=>mP (fs:=qG X.stack) F1 λh2 m2 F2=>?_);have nT:s.heap.get? T=none:=vJ lT;have ZJ:H T=none:=J.bw.fresh lT;have mm:Moved (qG X.stack) (T::as) s.heap h2:=(m1.mono λb hb=>cw _ hb).trans (m2.mono λb hb=>by simp at hb;simp [hb]);have Yz:X.s₀.heap.objs.size<=T:=cI J.sz lT;have old:∀b o,X.s₀.heap.get? b=111->b∉T::as:=λb o q z=>by
  rcases aS.mp z with z | z
  .rw [z,vJ Yz] at q;cases q
  rw [vJ (has b z).2] at q;cases q
 have base:Un X.fs [] X.H₀ H X.s₀.heap s.heap:=by have u:=J.base;rw [hex] at u;exact u
 refine⟨ea,cls,dx,H,rfl,J.os,J.bare,⟨?_,?_,base.free,?_,base.rH,base.qF,base.qv⟩,?_,⟨T,F2,ZJ,Bi.1,Yz,Bi.2⟩,hE⟩
 .intro b o q n f x;refine mm.keep b o (old b o q) (λz=>?_) (base.keep b o q n f x);rcases aS.mp (J.wk b z) with z | z
  .exact absurd (dX (aP q) (z ▸ J.ok.above)) (jS _)
  exact f z
 .intro b o q n f x;obtain⟨sl,q1⟩:=base.slot b o q n f x;obtain⟨s2,q2⟩:=mm.slot b _ (old b o q) q1;exact⟨s2,q2⟩
 .intro b o q x;obtain⟨o',q1⟩:=base.there b o q x;obtain⟨s2,q2⟩:=mm.slot b _ (old b o q) q1;exact⟨_,q2⟩
 intro a o q;by_cases ha:a=ea
 .subst ha;rw [Bi.1] at q;cases q;exact F2.ok
 have tr:∀b,H b≠none->b≠ea->b∉T::as/\b∉qG X.stack:=λb n ne=>⟨λz=>by
  rcases aS.mp z with z | z
  .exact n (z ▸ ZJ)
  rcases (has b z).1 with y | y
  .exact n y
  exact ne y,λz=>n (J.qK b z)⟩
 refine(J.bw a o q).gH (λb u hb e=>?_) (λ_ z=>z) λ_ _ z=>z;have sU:H b≠none/\b≠ea:=by
  rcases hb with rfl | hb
  .exact⟨by rw [q];exact vO _,ha⟩
  refine⟨by rw [hb];exact vO _,λz=>?_⟩;rw [z,Bi.1] at hb;cases hb
 exact mm.keep b u (tr b sU.1 sU.2).1 (tr b sU.1 sU.2).2 e
def DI (J:121)(Kb:A.frames=some (X.env::X.outer))(lI:X.stack=X.env::X.outer)(hf:X.env.frame=some X.env.locals)(hex:X.ex=[])(F:LV X.s₀.heap H s.heap ea cls dx)(hE:E cls dx H) :
  wpAny M A (leaving X.env (.ref ea)) (λ_ FK=>jR X.prog X.w X.outer X.H₀ X.s₀ E (.ref ea) FK) E' s:=by
 obtain⟨T,fd,t1,t2,t3,t4⟩:=F;refine u5 (as:=[ea,T]) J lI hex (λQ k=>?_) (λb hb=>?_) ⟨t2,t4⟩ hE
 .have hl:=J.stack;rw [lI] at hl k;exact uZ Kb hl hf fd k
 rcases aS.mp hb with rfl | hb
 .exact⟨.inr rfl,t4⟩
 obtain rfl:b=T:=215
 exact⟨.inl t1,t3⟩
def w6 {oe:Obj}(J:121)(Kb:A.frames=some (X.env::X.outer))(lI:X.stack=X.env::X.outer)(hf:X.env.frame=some X.env.locals)(hex:X.ex=[])
  (he:s.heap.get? ea=some oe)(hd:oe.data=.fields vs)(h1:vs[1]?=some .none)(Bi:H ea=some (uu ea oe.cls oe.dict)/\X.s₀.heap.objs.size<=ea)(hE:E oe.cls oe.dict H) :
  wpAny M A (leaving X.env (.ref ea)) (λ_ FK=>jR X.prog X.w X.outer X.H₀ X.s₀ E (.ref ea) FK) E' s:=by
 refine u5 (as:=[ea]) J lI hex (λQ k=>?_) (λb hb=>?_) Bi hE
 .have hl:=J.stack;rw [lI] at hl k;exact AZ Kb hl hf he hd h1 k
 obtain rfl:b=ea:=215
 exact⟨.inr rfl,Bi.2⟩
end
section
variable {P:Program}{w:World}{K:aV}{mg:z0c}{base:Heap}{N:z0r}{qual:Str}{scope:Scope}{f:Addr}{cd:Value}{A:Around}{outer:List Env}{s:Shared}{H:Hp}{E E':XK}
def K8 (hE:∀c d H',E' c d H'->E c d H'):Passes (jR P w) (eY (jR P w) P w K mg base N qual scope f cd A outer s H E) E':=by
 rintro ai σ H1 s1 e s' I ⟨ea,cls,dx,H',rfl,os,bare,un,bw,⟨T,fd,t1,t2,t3,t4⟩,q⟩;have J:=I.CQ (ch:=[]) os un bw bare (λb z=>absurd z 125);have up:s.heap.objs.size<=s1.heap.objs.size:=I.sz;refine cH (DI (E:=E) J I.ok.frames rfl rfl rfl ⟨T,fd,t1,t2,cI up t3,cI up t4⟩ (hE _ _ _ q)) (λ_ _ z=>z) λ_ _ z=>z
end
open PySem PySem.Spec PyProof.Rows PySem.W PySem.Builtin PySem.Builtin.ObjectAttr
section
variable {prog:Program}{w:World}{A:Around}{E:z0b}{K:Frag}{C x:Addr}{s:Shared}{cd:ClassData}
structure XC (K:Frag)(C:Addr)(cd:ClassData):Prop where
 cls:clsIn K C=some cd
 sa:findIn K (.ref C) "__setattr__"=some (some (.builtin "object.__setattr__"))
 pass:∀self:Value,refuseLoop self "__setattr__" cd.mro=pure ()
 obj:cd.mro.contains (.type "object")=true
 dict:cd.hasDict=true
def TN {v:Value}{Q:Unit->Shared->Prop}(X:K.In s.heap)(c:XC K C cd)(ht:takerIn K C name=some none)
  (hx:s.heap.get? x=some ⟨.ref C,none,.fields vs,sl⟩)
  (h:∀h',(∀b o,b≠x->178->h'.get? b=111)->h'.get? x=some ⟨.ref C,some s.heap.objs.size,.fields vs,sl⟩->h'.Ns1 s.heap.objs.size (λy=>if y=name then some v else none) ->
   Q () { s with heap:=h',toks:=s.toks+2 }):wpAny 147 A (setAttr (.ref x) name v) Q E s:=by
 have I:InstAt s.heap x ⟨.ref C,none,.fields vs,sl⟩ C none:=⟨hx,rfl,rfl,trivial⟩;have SF:=PySem.F.store_object;have ne:cd.mro.isEmpty=false:=by
  cases q:cd.mro with
  | nil=>have:=c.obj;rw [q] at this;cases this
  | cons _ _=>rfl
 have sub:Looks 147 s.heap (isInstance (.ref x) (.type "object")) true:=I.type.andThen (looks_mroIn X (by unfold mroIn;rw [c.cls,Option.bind_some,az (by rw [ne];decide),c.obj]));refine set_plain X I c.sa ?_;refine pX SF.slot.plain SF.entry (@check_slot 147 _ _ 247 _ "object" "__setattr__" (.ref x) [.str name s.toks,v] [] _ SF.kind SF.split sub (SF.args (.ref x) _ v) ?_);obtain⟨attr,ha,hr⟩:=Option.bind_eq_some_iff.mp ht;have mro:Looks 147 s.heap (mroOf (.ref C)) cd.mro:=(looks_clsIn X c.cls).andThen .now;have tk:Looks 147 s.heap (storeTaker? attr) none:=by
  cases attr with
  | none=>exact .now
  | some a =>
   obtain⟨b,hb,z⟩:=b9.mp hr;refine(looks_takesIn X hb).andThen ?_;cases b with
   | true=>cases z
   | false=>exact .now
 rw [osa_eq,refuse_eq];refine ax (ax (Looks.here (s:=247) I.type (ax (Looks.here (s:=247) mro ?_))));rw [c.pass];refine aK (ax (Looks.here (s:=247) I.type (ax (Looks.here (s:=247) (looks_findIn X ha) (ax (Looks.here (s:=247) tk ?_))))));have e1:=a_ (h:=s.heap) 285 hx;have nx:x≠s.heap.objs.size:=bp (aP hx);have e2:=qZ (λo:Obj=>{ o with dict:=some s.heap.objs.size }) e1 rfl;have e3:((s.heap.push 285).update x (λo:Obj=>{ o with dict:=some s.heap.objs.size })).get? s.heap.objs.size=some 285:=by
  rw [jY _ _ nx];exact cu _ rfl
 have n0:((s.heap.push 285).update x (λo:Obj=>{ o with dict:=some s.heap.objs.size })).Ns s.heap.objs.size (λ_=>none):=⟨_,#[],_,e3,rfl,λe he=>absurd he 125,λ_=>rfl⟩;dsimp only;unfold storeInOwnDict;refine ax (aK (ax ?_));unfold ownDictForStores instanceDict;refine ax (wpAny_loadPart hx (ax (Looks.here (s:=247) (looks_clsIn X c.cls) ?_)));rw [c.dict];refine ax (wpAny_alloc (ax (wpAny_update e1 (aK ?_))));show wpAny _ _ (storeInDict s.heap.objs.size (.str name s.toks) name v) _ _ _;unfold storeInDict newKeyGuard;refine ax (aK (ax (wpAny_nsSet1 (Heap.Ns1.of_empty n0) λh' n1 sb=>?_)));obtain⟨oD,es,ep,V1,Wl,Wr⟩:=n1.count (Within.cons name v Within.nil);refine ax (wpAny_lookBehind V1 (by rw [Wl];exact pastItsLine_dict (cI Wr (by rw [iA];show (1:Nat)<=_;decide))) ?_);refine aK (h h' (λb o nb q=>?_) ((sb.2 x nx).trans e2) n1);refine(sb.2 b (bp (aP q))).trans ?_;rw [jY _ _ (dA nb)];exact a_ _ q
end
open PySem PySem.Spec PyProof.Rows PySem.W
abbrev newObj (C:Addr)(dx:z0l)(a0:Value):Obj:={ cls:=.ref C,dict:=dx,data:=.fields #[a0,.none,.none,.none,.bool false,.none] }
abbrev jE (rest:z0m):Obj:={ cls:=185,data:=.seq rest.toArray }
section
variable {prog:Program}{w:World}{A:Around}{E:z0b}{h:Heap}{g:Array GenState}{d:Drawn}{t:Nat}{os:OsState}
variable {nm qn:Str}{C N:Addr}{bs bm vo:z0m}{qB:Bool}{sn:z0r}{sub:z0m}{ab:Bool}{col:Option Bool}{dd:z0l}{k0 k1 k2 k3 k5:z0j}{B newId jC:String}
 {mN:z0c}{rest:z0m}{fI:Addr}{oI:Obj}
def JR (F:ExcBaseFacts B newId jC vo)(T:OwnTail h vo bm){Q:Fin->Shared->Prop}(hC:h.get? C=some (excClassObj nm qn C N bs bm qB sn sub ab col dd k0 k1 k2 k3 k5 newId))(hn:h.Ns N mN)
  (hi:mN "__init__"=some (.ref fI))(hf:h.get? fI=some oI)(Kc:oI.cls=.type "function")(hz:rest.length<=sizeLine)
  (hq:wpAny 147 A (call (.ref fI) (.ref (h.objs.size+1)::rest)) (λr s'=>r=.none/\Q (.done (.ret (.ref (h.objs.size+1)))) s') E ⟨(h.push (jE rest)).push (newObj C none (.ref h.objs.size)),g,d,t,os⟩) :
  wpAny 147 A (Builtin.«type.__call__» ⟨.ref C::rest,[]⟩) Q E ⟨h,g,d,t,os⟩:=by
 repeat (first
  | with_reducible refine ri hC ?_
  | with_reducible refine wpAny_madeBy_exc hC ?_
  | wp_step)
 refine codeAny_call_builtin_code (Code.quiet_builtin _ F.quiet) (wpAny_check_new_subT F T hC (codeAny_exc_new_subT F T hC ?_ hz));show wpAny _ _ _ _ _ _;have up:∀b o,h.get? b=111->((h.push (jE rest)).push (newObj C none (.ref h.objs.size))).get? b=111:=λb o e=>a_ _ (a_ _ e);have c1:=up _ _ hC;have f1:=up _ _ hf;have n1:=hn.keeps up;have g1:((h.push (jE rest)).push (newObj C none (.ref h.objs.size))).get? (h.objs.size+1)=some (newObj C none (.ref h.objs.size)):=by heap_get
 have me:(Value.ref C::bm).contains (.ref C)=true:=108
 unfold isInstance
 repeat (first
  | with_reducible refine ri g1 ?_
  | (with_reducible refine wpAny_isSubtype_exc c1 ?_;rw [me])
  | wp_step)
 show wpAny _ _ (typeLookup (.ref C) _) _ _ _;refine wpAny_typeLookup_tail c1 n1 (T.keeps up) F.mroIs F.init.lookup ?_;rw [hi];refine jI (ax ?_);unfold bindSpecial;refine ax (lP (T := "function") ⟨_,f1,Kc⟩ ?_);rw [aA nofun];refine aK (ax (cH hq (λr s' z=>?_) λ_ _ z=>z));obtain⟨rfl,z⟩:=z
 wp_walk
 exact z
def Nb (F:ExcBaseFacts B newId jC vo)(T:OwnTail h vo bm)(hC:h.get? C=some (excClassObj nm qn C N bs bm qB sn sub ab col dd k0 k1 k2 k3 k5 newId))(hn:h.Ns N mN)
  (hi:mN "__init__"=some (.ref fI))(hf:h.get? fI=some oI)(Kc:oI.cls=.type "function")(hz:rest.length<=sizeLine)
  (hq:wpAny 147 (A.under (.builtin "type.__call__" ⟨.ref C::rest,[]⟩)) (call (.ref fI) (.ref (h.objs.size+1)::rest)) (λr s'=>r=.none/\Q (.ref (h.objs.size+1)) s') E
   ⟨(h.push (jE rest)).push (newObj C none (.ref h.objs.size)),g,d,t,os⟩) :
  wpAny 147 A (call (.ref C) rest) Q E ⟨h,g,d,t,os⟩:=by
 have a1:=tc_lookup;have a2:=tc_bind (.ref C);have a3:(⟨h,g,d,t,os⟩:Shared).TypeIs (.ref C) "type" := ⟨_,hC,rfl⟩;refine fC (codeAny_of_tree ?_);show wpAny _ _ (callAny (.ref C) _) _ _ _
 repeat (any_goals (first
  | assumption
  | with_reducible refine ri hC ?_
  | wp_step))
 exact⟨rfl,codeAny_call_builtin_at (Code.quiet_builtin _ nofun) entry_typeCall (wpAny_check_type_call_sub hC (JR F T hC hn hi hf Kc hz hq))⟩
end
def IP (K:Frag)(C fI:Addr)(vo:z0m)(newId:String):Bool:=match K.lookup C with
 | some ⟨.type "type",_,.cls c,sl⟩=>(match c.mro,sl.toList with
  | .ref D::bm,[_,_,_,_,some (.builtin n),_]=>D == C && n == newId && !c.hasDel && tailIn K vo bm && nsOkIn K c.ns && (nsIn K c.ns "__init__" == some (some (.ref fI)))
  | _,_=>false)
 | _=>false
def AY {K:Frag}{h:Heap}{N:Addr}{m:z0c}{n:Str}{v:Value}(X:K.In h)(G:h.Ns N m)(e:nsIn K N n=some (some v)):m n=some v:=by
 obtain⟨o,es,ep,ho,hd,_,hf⟩:=G;unfold nsIn at e
 split at e
 .rename_i c d SW n' sl q
  have:=X _ _ q;rw [ho] at this;cases this;cases hd
  split at e
  .rename_i en he
   cases e;rw [<-hf];unfold nsFind findBy;rw [<-Array.find?_toList,he];rfl
  split at e <;> cases e
 cases e
def Mb {K:Frag}{h:Heap}(X:K.In h)(q:IP K C fI vo newId=true) :
  ∃nm qn N bs bm qB sn sub ab col dd k0 k1 k2 k3 k5 mN,h.get? C=some (excClassObj nm qn C N bs bm qB sn sub ab col dd k0 k1 k2 k3 k5 newId)/\h.Ns N mN/\mN "__init__"=some (.ref fI)/\OwnTail h vo bm:=by
 unfold IP at q
 split at q
 .rename_i dd c sl ho
  split at q
  .rename_i D bm k0 k1 k2 k3 n k5 hm hs
   simp only [jK,beq_iff_eq,Bool.not_eq_true'] at q;obtain⟨⟨⟨⟨⟨rfl,rfl⟩,Q5⟩,ht⟩,bw⟩,Iv⟩:=q;obtain⟨nm,bs,mro,ns,qn,hd,sn,sub,ab,col,del⟩:=c;dsimp only at hm Q5 bw Iv;subst hm Q5;have yM:sl=#[k0,k1,k2,k3,some (.builtin n),k5]:=by
    obtain⟨l⟩:=sl;simp only at hs;rw [hs]
   subst yM;have hN:h.Ns ns (h.nsMap ns):=.of_isNs (isNs_of_in X bw);exact⟨nm,qn,ns,bs,bm,hd,sn,sub,ab,col,dd,k0,k1,k2,k3,k5,_,X _ _ ho,hN,AY X hN Iv,tail_of_in X ht⟩
  cases q
 cases q
def newX (ea C:Addr)(dx:z0l):HO:=.ext λh=>∃a0:Addr,h.get? ea=some (newObj C dx (.ref a0))
def wV {w:World}{h:Heap}{dx:z0l}(e:h.get? ea=some (newObj C dx (.ref a0))):b8 P w H h ea (newX ea C dx) :=
 ⟨⟨a0,e⟩,⟨_,e⟩,λ_ _ ⟨a,q⟩ k=>⟨a,k _ q⟩⟩
section
variable {X:Cx}{ai:z0e}{σ:St}{H:Hp}{s:Shared}{h':Heap}{ea C:Addr}{dx:z0l}
theorem Inv.newX (I:121)(e:H ea=some (newX ea C dx)):∃a0:Addr,s.heap.get? ea=some (newObj C dx (.ref a0)):=(I.bw ea _ e).1
def Inv.NW {o:HO}{n:Option HO}(I:121)(e:H ea=some (.ext φ))(k:∀b u,b≠ea->s.heap.get? b=some u->h'.get? b=some u)(hz:∃u,h'.get? ea=some u)
  (qS:ea≠s.heap.objs.size)
  (UI:∀H',b8 X.prog X.w H' h' ea o)(UH:∀m,n=some m->∀H',b8 X.prog X.w H' h' s.heap.objs.size m) :
  Inv X ai σ (upd (match n with | some m=>upd H s.heap.objs.size m | none=>H) ea o) { s with heap:=h',toks:=t' }:=by
 have fr:H s.heap.objs.size=none:=I.bw.fresh (aG _);have other:∀b,b≠ea->b≠s.heap.objs.size->upd (match n with | some m=>upd H s.heap.objs.size m | none=>H) ea o b=H b:=λb n1 n2=>by
  rw [aj n1];cases n with
  | none=>rfl
  | some m=>exact aj n2
 have La:∀b u,H b=some u->(∀ψ,u≠.ext ψ)->b≠ea:=λb u q d z=>by
  rw [z,e] at q;cases q;exact d _ rfl
 have P5:∀b u,H b=some u->b≠s.heap.objs.size:=λb u q z=>by
  rw [z,fr] at q;cases q
 refine I.un ⟨λb u q n1 _ _=>?_,λb u q n1 _ _=>⟨u.slots,?_⟩,λb u q n1 _=>?_,λb u q _=>?_,λb xs q=>?_,λb u v q=>?_,λb ps q=>⟨#[],?_⟩⟩ λa u q=>?_
 .exact k b u (λz=>by rw [z,e] at n1;cases n1) q
 .exact k b u (λz=>by rw [z,e] at n1;cases n1) q
 .rw [other b (λz=>by rw [z,e] at n1;cases n1) (bp (aP q))];exact n1
 .by_cases z:b=ea
  .rw [z];exact hz
  exact⟨u,k b u z q⟩
 .rw [other b (La b _ q (λ_ z=>by cases z)) (P5 b _ q)];exact q
 .rw [other b (La b _ q (λ_ z=>by cases z)) (P5 b _ q)];exact q
 .rw [other b (La b _ q (λ_ z=>by cases z)) (P5 b _ q),vH];exact q
 by_cases z:a=ea
 .subst z;rw [ae] at q;cases q;exact UI _
 by_cases z2:a=s.heap.objs.size
 .subst z2;rw [aj z] at q;cases n with
  | none=>dsimp only at q;rw [fr] at q;cases q
  | some m =>
   dsimp only at q;rw [ae] at q;cases q;exact UH _ rfl _
 rw [other a z z2] at q;refine(I.bw a u q).gH (λb v hb r=>k b v ?_ r) (λb r=>?_) λb xs r=>?_
 .rcases hb with rfl | hb
  .exact z
  exact La b _ hb (λ_ y=>by cases y)
 .rw [other b (La b _ r (λ_ y=>by cases y)) (P5 b _ r)];exact r
 rw [other b (La b _ r (λ_ y=>by cases y)) (P5 b _ r)];exact r
end
section
variable {X:Cx}
end
def Mf {a:Addr}{o:HO}(h:H a=111):upd H a o=H:=by
 funext b
 by_cases z:b=a
 .rw [z,ae,h]
 exact aj z
section
variable {X:Cx}
def sXF (K:Frag)(ta tv:TE)(f:Str):TS:=λD σ H=>tv σ H λy H1=>ta σ H1 λv H2=>∃ea C cd,v=.ref ea/\H2 ea=some (newX ea C none)/\XC K C cd/\takerIn K C f=some none /\
 ∀dx,H2 dx=none->dx≠ea->D.nx σ (upd (upd H2 dx (.xd [(f,y)])) ea (newX ea C (some dx)))
def Jn {o value:Expr}{f:Str}{pos pos':Pos}{ta tv:TE}(ha:PE X o ta)(hv:PE X value tv)(hs:swapsWith value (some (.Attribute o f pos')) pos.line X.env=pure false):PS X (.Assign [.Attribute o f pos'] value pos) (sXF X.K ta tv f):=by
 intro ai s σ H D I h;refine plainObj_wpAny_Assign_Attribute (cE (hv ai s σ H _ I h) λu s1 aW=>?_) hs;obtain⟨y,H1,I1,ry,q⟩:=aW;refine cE (ha ai s1 σ H1 _ I1 q) λov s2 aW=>?_;obtain⟨v,H2,I2,rx,ea,C,cd,ev,eH,c,t,q2⟩:=aW;subst ev;obtain rfl:ov=Value.ref ea:=rx;obtain⟨a0,e0⟩:=I2.newX eH;have lt:ea≠s2.heap.objs.size:=bp (aP e0);refine TN I2.kx c t e0 λh' k e1 n1=>⟨σ,_,?_,q2 s2.heap.objs.size (I2.bw.fresh (aG _)) (dA lt)⟩;refine I2.NW (n:=some (.xd [(f,y)])) (o:=newX ea C (some s2.heap.objs.size)) eH k ⟨_,e1⟩ lt (λH'=>wV e1) λm em H'=>?_;cases em;refine⟨_,n1,λg=>?_⟩;by_cases z:g=f
 .subst z;show iJ (List.lookup g [(g,y)]) (if g=g then some u else none);rw [aA rfl];simp only [List.lookup,lV];exact ry
 show iJ (List.lookup g [(f,y)]) (if g=f then some u else none);rw [az z];have zb:(g == f)=false:=by simpa using z
 simp only [List.lookup,zb];trivial
structure BI (K:Frag)(W:Addr)(jC:String):Prop where
 ga:specialIn K (.ref W) "__getattribute__"=some (some (.builtin "type.__getattribute__"))
 rd:∃mc,readsIn K W mc=true/\findCls K (.ref W) mc "__init__"=some (.val (.builtin jC))
 hd:handedIn (.builtin jC)=true
def tBI (K:Frag)(vo:z0m)(newId:String)(t:TA):TE:=λσ H Q=>t σ H λvs H1=>∃ea C fI dx y,vs=[.ref ea,y]/\H1 ea=some (newX ea C dx)/\IP K C fI vo newId=true/\Q .dq H1
def Gg {p apos pos:Pos}{t:TA}(F:ExcBaseFacts B newId jC vo)(b:BI X.K W jC)(hg:Gl X Wn)(hm:X.mg Wn=some (.ref W))
  (ha:PA X (e1::es) t)(qC:(Wn == ("__debug__":Str))=false:=by decide)
  (he:starEach (e1::es) X.env=(false,eval e1 X.env)::starEach es X.env:=by rfl)(mE:(backTo pos (starEach es X.env)).any 56=false:=by rfl)
  (ht:eval (.Call (.Attribute (.Name Wn p) "__init__" apos) (e1::es) [] pos) X.env=(do
   let ov <-eval (.Name Wn p) X.env
   standAt apos.atName
   let (f,first) <-holding [ov] (getMethod ov "__init__" pl)
   callWith pos f first (backTo pos (starEach (e1::es) X.env)) (backToKw pos (keywordEach [] X.env))):=by rfl) :
  PE X (.Call (.Attribute (.Name Wn p) "__init__" apos) (e1::es) [] pos) (tBI X.K vo newId t):=by
 intro ai s σ H Q I h;refine methodCall_KW (pl:=pl) (iU I hg hm ?_ qC) ht;obtain⟨mc,r1,r2⟩:=b.rd;refine method_cls I.kx b.ga (cls_value I.kx r1 r2 b.hd ?_);refine PyProof.Rows.callWith_builtin1 (cE (ha pos ai _ σ H _ (I.tok _) h) λus s1 aW=>?_) he mE;obtain⟨vs,H1,I1,r1,ea,C,fI,dx,y,ev,eH,hx,q⟩:=aW;subst ev;obtain⟨a0,e0⟩:=I1.newX eH;obtain⟨nm,qn,N,bs,bm,qB,sn,sub,ab,col,dd,k0,k1,k2,k3,k5,mN,hC,_,_,T⟩:=Mb I1.kx hx;obtain⟨u,u2,rfl,ra,ry⟩:=vals2 r1;have ra:u=Value.ref ea:=ra;subst ra;obtain⟨hp,g,d,tk,os⟩:=s1;refine fC (pX F.init.plain F.initEntry (wpAny_check_init_subT F T hC e0 rfl ?_));have sz:([u2]:z0m).length<=sizeLine:=by rw [iA];show (1:Nat)<=_;decide
 refine ax (wpAny_newTuple ?_ sz);have g1:=a_ (h:=hp) { cls:=185,data:=.seq #[u2] } e0;have ne:ea≠hp.objs.size:=bp (aP e0);have g2:=qZ (Obj.mapFields (·.setIfInBounds 0 (Value.ref hp.objs.size))) g1 rfl;have J:=I1.NW (n:=none) (o:=newX ea C dx) (t':=tk) (h':=(hp.push { cls:=185,data:=.seq #[u2] }).update ea (Obj.mapFields (·.setIfInBounds 0 (Value.ref hp.objs.size)))) eH
  (λc o nc q=>by rw [jY _ _ (dA nc)];exact a_ _ q) ⟨_,g2⟩ ne (λH'=>wV g2) (λm em=>by cases em)
 dsimp only at J;rw [Mf eH] at J;refine ax ?_;unfold Builtin.BaseException.bexcPut;refine ax (dU g1 rfl (x:=.ref a0) rfl (ax (lS g1 rfl (show 0 < 6 by decide) ?_)));refine wpAny_letGo (aK ?_);exact⟨.dq,H1,J,rfl,q⟩
def tMX (X:Cx)(C:Addr)(sp:Sp)(E:XK)(t:TA):TE:=λσ H Q=>t σ H λvs H1=>∀ea,H1 ea=none->X.s₀.heap.objs.size<=ea->sp (.ref ea::vs) (upd H1 ea (newX ea C none)) (λv H2=>v=.dq/\Q (.ref ea) H2) E
def MM {k:Nat}{ps:z0r}{sp:Sp}{E:XK}{oI:Obj}{σ:St}{Q:VK}
  (F:ExcBaseFacts B newId jC vo)(hx:IP X.K C fI vo newId=true)(lk:X.K.lookup fI=some oI)(Kc:oI.cls=.type "function")(G:bF X.prog X.w X.K X.mg X.base CX k fI fd ps sp)(n6:ps.length<=1000)(hr:dG (k+1) X.A)
  (hb:Binds X.K fd ps [])(hp:Passes CX X E)(I:121)(r:aY vs us)
  (h:∀ea,H ea=none->X.s₀.heap.objs.size<=ea->sp (.ref ea::vs) (upd H ea (newX ea C none)) (λv H2=>v=.dq/\Q (.ref ea) H2) E):wpAny 146 X.A (call (.ref C) us) (EP X ai σ Q) X.xe s:=by
 have q:=h 190 (I.bw.fresh (hJ _)) (cI I.sz (hJ _));have r2:aY (V.ref 190::vs) (Value.ref 190::us):=.cons rfl r;have len:=G.len _ _ _ _ q;have l2:(Value.ref 190::us++[]).length=ps.length:=by
  rw [eE,<-r2.length];exact len
 have lu:us.length<=sizeLine:=by
  rw [iA];simp only [eE,c_] at l2;omega
 obtain⟨nm,qn,N,bs,bm,qB,sn,sub,ab,col,dd,k0,k1,k2,k3,k5,mN,hC,hN,hi,T⟩:=Mb I.kx hx;have e1:((s.heap.push (jE us)).push (newObj C none (197))).get? 190=some (newObj C none (197)):=by
  have z:=cu (s.heap.push (jE us)) (o:=newObj C none (197)) rfl;rwa [i5] at z
 have I2:=I.laid (a:=179) (o:=newX 190 C none) (t':=s.toks) (h':=(s.heap.push (jE us)).push (newObj C none (197)))
  (λb u z=>a_ _ (a_ _ z)) (hJ _) (wV e1)
 obtain⟨hh,g,d,tk,os⟩:=s;refine Nb F T hC hN hi (I.kx _ _ lk) Kc lu ?_;have b2:=hb _ (Value.ref (hh.objs.size+1)::us) I2.kx l2;rw [eE] at b2;refine fC (iY (G.run _ X.stack _ _ ⟨Value.ref (hh.objs.size+1)::us,[]⟩ _ _ _ E (hr.make C us []) (I2.Ea.make C us []) b2 r2 q) λr s' z=>?_);cases r with
 | error e=>exact hp ai σ _ _ e s' I2 z
 | ok fl =>
  cases fl with
  | ret u =>
   obtain⟨v,H',I3,rv,ev,q3⟩:=I2.after z;subst ev;exact⟨rv,⟨V.ref (hh.objs.size+1),H',I3,rfl,q3⟩⟩
  | next=>exact False.elim z
  | brk=>exact False.elim z
  | cont=>exact False.elim z
def PY {k:Nat}{ps:z0r}{sp:Sp}{E:XK}{oI:Obj}{x:Str}{e:Expr}{t:TA}
  (F:ExcBaseFacts B newId jC vo)(hx:IP X.K C fI vo newId=true)(lk:X.K.lookup fI=some oI)(Kc:oI.cls=.type "function")(hkp:keepIn X.K (.ref C)=true)(G:bF X.prog X.w X.K X.mg X.base CX k fI fd ps sp)(n6:ps.length<=1000)(hr:dG (k+1) X.A)
  (hg:Gl X x)(hm:X.mg x=some (.ref C))(hb:Binds X.K fd ps [])(hp:Passes CX X E)
  (ha:PA X (e::es) t)(qC:267:=by decide)(he:292:=by rfl)(mE:(backTo pos (starEach es X.env)).any 56=false:=by rfl) :
  PE X (.Call (.Name x p) (e::es) [] pos) (tMX X C sp E t):=by
 intro ai s σ H Q I h;refine jM (iU I hg hm ?_ qC);refine callWith_K (h₀:=X.base) I.ok.mod.Li hkp 270 he mE;obtain⟨vs,H1,I1,r,q⟩:=aW;refine⟨I1.kx,?_⟩;exact MM F hx lk Kc G n6 hr hb hp I1 r q
end
section
variable {M:Model}{A:Around}{E:z0b}{s:Shared}{env:Env}
variable {nm qn:Str}{C N:Addr}{bs bm:z0m}{qB:Bool}{sn:z0r}{sub:z0m}{ab:Bool}{col:Option Bool}{dd:z0l}{k0 k1 k2 k3 k5:z0j}{newId:String}
def FU {x:Sem Value}{Q:Flow->Shared->Prop}(hh:A.handled=none)
  (h:wpAny M A x (λv s₁=>∃(ea a0 C:Addr)(dx:z0l),v=.ref ea/\s₁.heap.get? ea=some (newObj C dx (.ref a0))/\(∃nm qn N bs bm qB sn sub ab col dd k0 k1 k2 k3 k5 newId,s₁.heap.get? C=some (excClassObj nm qn C N bs bm qB sn sub ab col dd k0 k1 k2 k3 k5 newId) /\
   bm.contains (.type "BaseException")=true)/\E (.ref ea) s₁) E s):wpAny M A (raiseStmt env (some x) none) Q E s:=by
 unfold raiseStmt;refine ax (cH h (λv s₁ z=>?_) λ_ _ z=>z);obtain⟨ea,a0,C,dx,rfl,he,⟨nm,qn,N,bs,bm,qB,sn,sub,ab,col,dd,k0,k1,k2,k3,k5,newId,hC,hb⟩,hE⟩:=z;have me:(Value.ref C::bm).contains (.type "BaseException")=true:=by rw [List.contains_cons,hb,Bool.or_true]
 obtain⟨hp,g,d,tk,os⟩:=s₁
 repeat (first
  | with_reducible refine ri he ?_
  | with_reducible refine ri hC ?_
  | (with_reducible refine wpAny_isSubtype_exc hC ?_;rw [me])
  | wp_step)
 exact wpAny_raiseNew_none hh hE
end
section
variable {P:Program}{w:World}{K:Frag}{mg:z0c}{base:Heap}{N:z0r}{qual:Str}{scope:Scope}{f:Addr}{cd:Value}{A:Around}{outer:List Env}{s₀:Shared}{H₀:Hp}{E:XK}
def tRs (X:Cx)(E:XK)(te:TE):TS:=λ_ σ H=>te σ H λv H1=>∃ea C dx fI vo newId,v=.ref ea/\H1 ea=some (newX ea C dx)/\X.s₀.heap.objs.size<=ea/\IP X.K C fI vo newId=true/\vo.contains (.type "BaseException")=true /\
 E (.ref C) dx (upd H1 ea (uu ea (.ref C) dx))
def FX {e:Expr}(he:PE (300) e te) :
  PS (300) (.Raise (some e) none pos) (tRs (300) E te):=by
 intro ai s σ H D I h;rw [arm_exec_Raise];refine ax (wpAny_standAt (FU (I.ok.hd rfl) (ax (cE (he ai s σ H _ I h) λv s1 aW=>?_))));obtain⟨y,H1,I1,ry,ea,C,dx,fI,vo,newId,ev,eH,new,hx,hb,q⟩:=aW;refine ax (wpAny_standAt (aK ?_));subst ev;obtain rfl:v=Value.ref ea:=ry;obtain⟨a0,e0⟩:=I1.newX eH;obtain⟨nm,qn,Nn,bs,bm,qB,sn,sub,ab,col,dd,k0,k1,k2,k3,k5,mN,hC,hN,hi,T⟩:=Mb I1.kx hx;refine⟨ea,a0,C,dx,rfl,e0,⟨nm,qn,Nn,bs,bm,qB,sn,sub,ab,col,dd,k0,k1,k2,k3,k5,newId,hC,T.hasType hb⟩,?_⟩;have J:=I1.NW (n:=none) (o:=uu ea (.ref C) dx) (t':=s1.toks) (h':=s1.heap) eH (λ_ _ _ z=>z) ⟨_,e0⟩ (bp (aP e0)) (λH'=>CL e0 rfl rfl rfl) (λm em=>by cases em);exact cH (w6 (E:=E) J I.ok.frames rfl rfl rfl e0 rfl rfl ⟨ae,new⟩ q) (λ_ _ z=>z) λ_ _ z=>z
end
section
variable {X:Cx}{ai:z0e}{σ:St}{H:Hp}{s:Shared}{h':Heap}{ea:Addr}{cls fl:Value}{dx:z0l}{T:Addr}
def Inv.moved (J:121)(mm:Moved (qG X.stack) (ea::cs) s.heap h')(Bi:H ea=some (uu ea cls dx))(F:tY h' ea cls dx T fl)
  (Wm:∀b∈cs,H b=none/\X.s₀.heap.objs.size<=b/\b≠X.env.locals/\(∀x c,X.env.cells.lookup x=some c->c≠b)/\∀p∈X.pn++ai,p.1≠b):Inv X ai σ H 216:=by
 have ne:∀b,H b=none->b≠ea:=λb n z=>by rw [z,Bi] at n;cases n
 have Sj:∀b,b≠ea->b∉cs->b∉ea::cs:=λb n m z=>(aS.mp z).elim n m;refine J.call (ch:=cs) ⟨λb o q n f c=>mm.keep b o (Sj b (ne b n) c) f q,λb o q n _ c=>mm.slot b o (Sj b (ne b n) c) q,λb o q n _=>n,λb o q c=>?_,λ_ _ q=>q,λ_ _ _ q=>q,λb ps q=>⟨#[],by rw [vH];exact q⟩⟩ ?_ J.bare
  λb hb=>⟨.inr (Wm b hb).2.1,(Wm b hb).2.2⟩
 .by_cases z:b=ea
  .obtain⟨oe,_,_,_,he,_⟩:=F;exact⟨oe,z ▸ he⟩
  obtain⟨sl,q1⟩:=mm.slot b o (Sj b z c) q;exact⟨_,q1⟩
 intro a o q;by_cases ha:a=ea
 .subst ha;rw [Bi] at q;cases q;exact F.ok
 refine(J.bw a o q).gH (λb u hb e=>?_) (λ_ z=>z) λ_ _ z=>z;have sU:H b≠none/\b≠ea:=by
  rcases hb with rfl | hb
  .exact⟨by rw [q];exact vO _,ha⟩
  refine⟨by rw [hb];exact vO _,λz=>?_⟩;rw [z,Bi] at hb;cases hb
 exact mm.keep b u (Sj b sU.2 λz=>sU.1 (Wm b z).1) (λz=>sU.1 (J.qK b z)) e
def C8 {E:z0b}{n:Str}{v:V}{Q:Unit->Shared->Prop}(I:121)(hN:X.N.Nodup)(hj:X.N[j]?=some n)(hl:X.env.scope.names.lookup n=some .local)
  (hv:σ[j]?=some (some v))(h:∀s',Inv X ai (σ.set j none) H s'->Q () s'):wpAny M A (unbindName X.env n) Q E s:=by
 obtain⟨m,hn,lk⟩:=id I.loc;obtain⟨u,_,l⟩:=lk j n v hj hv (.inl hl);have hk:X.env.kindOf n=some .local:=hl;have mn:m n=some u:=by
  rcases l with l | ⟨l,_⟩
  .exact l.2
  rw [hk] at l;rcases l with l | l <;> cases l
 have hc:(X.env.scope.kind == .class || (X.env.scope.kind == .module && X.env.locals != X.env.globals))=false:=by rw [I.ok.kind];rfl
 refine wpAny_unbindName_local hk hn mn hc λh' w' Nz hs=>?_;have nl:∀b o,X.s₀.heap.get? b=111->b≠X.env.locals:=λb o e=>bp (dX (aP e) I.ok.above);have cellK:∀y c,X.env.cells.lookup y=some c->∀z,s.heap.IsCell c z->h'.IsCell c z:=λy c e z ⟨o,ho,hd⟩=>⟨o,(hs.2 c (I.LM y c e)).trans ho,hd⟩;refine h _ ⟨I.ok,I.os,I.bare,⟨λb o e n' hb hx=>?_,λb o e n' hb hx=>?_,I.base.free,λb o e hx=>?_,I.base.rH,I.base.qF,I.base.qv⟩,⟨_,Nz,λi y v' e1 e2 e3=>?_⟩,λy c e=>?_,I.free,I.iF,λp hp=>?_,λb ob e=>?_,by simpa using I.len⟩
 .exact(hs.2 b (nl b o e)).trans (I.base.keep b o e n' hb hx)
 .obtain⟨sl,q⟩:=I.base.slot b o e n' hb hx;exact⟨sl,(hs.2 b (nl b o e)).trans q⟩
 .obtain⟨o',q⟩:=I.base.there b o e hx;exact⟨o',(hs.2 b (nl b o e)).trans q⟩
 .by_cases Iw:i=j
  .subst Iw;have lt:i < σ.length:=(bM.mp hv).1;rw [vY lt] at e2;cases e2
  rw [List.getElem?_set_ne (λz=>Iw z.symm)] at e2;have yn:y≠n:=λz=>Iw (so hN (z ▸ e1) hj);obtain⟨u',ru,l'⟩:=lk i y v' e1 e2 e3;refine⟨u',ru,?_⟩;rcases l' with l' | ⟨k',c,ec,z⟩
  .exact .inl ⟨l'.1,by show (if y=n then w' else m y)=_;rw [az yn];exact l'.2⟩
  exact .inr ⟨k',c,ec,cellK y c ec _ z⟩
 .obtain⟨z,q⟩:=I.cell y c e;exact⟨z,cellK y c e z q⟩
 .obtain⟨e,n',ne,nf,d⟩:=I.pin p hp;exact⟨(hs.2 p.1 ne).trans e,n',ne,nf,d⟩
 refine(I.bw b ob e).gH (λc w'' iK q=>(hs.2 c λz=>?_).trans q) (λ_ q=>q) λ_ _ q=>q;have fr:=I.free;rw [<-z] at fr;rcases iK with y | y
 .rw [<-y,fr] at e;cases e
 rw [fr] at y;cases y
def Inv.away {b:Addr}(I:121)(lb:s.heap.objs.size<=b):X.s₀.heap.objs.size<=b/\b≠X.env.locals/\(∀x c,X.env.cells.lookup x=some c->c≠b)/\∀p∈X.pn++ai,p.1≠b:=by
 have lt:∀{c:Addr}{o:Obj},s.heap.get? c=111->c≠b:=λe z=>absurd (dX (aP e) (z ▸ lb)) (jS _);refine⟨cI I.sz lb,λz=>absurd (dX I.lt (z ▸ lb)) (jS _),λx c ec=>?_,λp hp=>lt (I.pin p hp).1⟩;obtain⟨v,o,ho,_⟩:=I.cell x c ec;exact lt ho
abbrev Cx.hold (X:Cx)(ea:Addr):Cx:={ X with A:=X.A.mark (some (.ref ea)),calm:=false,xe:=λ_ _=>False }
theorem Inv.hold (I:121)(ea:Addr):Inv (X.hold ea) ai σ H s :=
 ⟨⟨I.ok.mod,I.ok.kind,I.ok.glob,I.ok.blt,I.ok.above,I.ok.inj,I.ok.has,I.ok.LN,(λz=>by cases z),I.ok.frames,I.ok.Ii,I.ok.Km,I.ok.bs,I.ok.ES,I.ok.yx,I.ok.xt,I.ok.mM,I.ok.IA⟩,
  I.os,I.bare,I.base,I.loc,I.cell,I.free,I.iF,I.pin,I.bw,I.len⟩
def Inv.Mg {ok:X.Ok}(I:Inv (X.hold ea) ai σ H s):121:=⟨ok,I.os,I.bare,I.base,I.loc,I.cell,I.free,I.iF,I.pin,I.bw,I.len⟩
end
section
variable {X:Cx}{k:Nat}{f W:Addr}{fd:FuncData}{ps:z0r}{sp:Sp}{y fn Cn n:Str}{a:Expr}{as:z0p}{t:TA}{i j:Nat}{b₀:Stmt}{jN:z0q}{tb:TS}{p py cp ap np hp pos:Pos}
end
structure XG (K:Frag)(C:Addr):Prop where
 dict:hasDictIn K C=true
 ga:findIn K (.ref C) "__getattribute__"=some (some (.builtin "BaseException.__getattribute__"))
 gt:findIn K (.ref C) "__getattr__"=some none
 be:mroIn K C (.type "BaseException")=some true
 ob:mroIn K C (.type "object")=some true
 ca:findIn K (.ref C) "__class__"=some (some (.builtin "object.__class__"))
 cg:specialIn K (.builtin "object.__class__") "__get__"=some (some (.builtin "getset_descriptor.__get__"))
 ct:takesIn K (.builtin "object.__class__")=some true
 me:kitCls K (.ref C) (.ref C)=some true
section
variable {prog:Program}{w:World}{A:Around}{E:z0b}{s:Shared}{K:Frag}{x C:Addr}{ox:Obj}{od:Option Obj}{name:Str}{v:Value}{tk:Tok}
def oA (prog:Program)(w:World)(s:Shared)(x:Addr)(name:Str)(tk:Tok)(v:Value):Prop :=
 ∀(A':Around)(E':z0b)(Q':Fin->Shared->Prop),Q' (.done (.ret v)) s->wpAny 147 A' (Builtin.«object.__getattribute__» ⟨[.ref x,.str name tk],[]⟩) Q' E' s
def Ho (X:K.In s.heap)(I:InstAt s.heap x ox C od)(hf:findObj K C od name=some (.value v)):oA prog w s x name tk v:=by
 intro A' E' Q' q;obtain⟨h0,g0,d0,t0,UE⟩:=s;have b0:=I.type (M:=model prog w);have b1:=looks_find (M:=model prog w) X I hf;unfold Builtin.«object.__getattribute__»
 repeat lk
 exact q
def Hq (X:K.In s.heap)(I:InstAt s.heap x ox C od)(hf:findObj K C od name=some (.bind (.builtin "getset_descriptor.__get__") (.builtin "object.__class__")))(hm:mroIn K C (.type "object")=some true):oA prog w s x name tk (.ref C):=by
 intro A' E' Q' q;obtain⟨h0,g0,d0,t0,UE⟩:=s;have b0:=I.type (M:=model prog w);have b1:=looks_find (M:=model prog w) X I hf;unfold Builtin.«object.__getattribute__»;refine ax (aK (ax (aK (ax (b0.at (ax (b1.at ?_)))))));show wpAny _ _ (holding [_] (call _ [_,_,_]) >>= ret) _ _ _;refine ax (jI (fC (class_get X I hm ?_)));exact aK q
set_option maxHeartbeats 400000 in
def KO {fill expr:Bool}{Q:z0b}(X:K.In s.heap)(G:XG K C)(I:InstAt s.heap x ox C od)(t:oA prog w s x name tk v)(hv:handedIn v=true)(q:Q v s) :
  wpAny 147 A (getAttrBy (.ref x) (.str name tk) fill expr) Q E s:=by
 obtain⟨h0,g0,d0,t0,UE⟩:=s;have b0:=I.type (M:=model prog w);have b1:=looks_findIn (M:=model prog w) X G.ga;have b2:=looks_findIn (M:=model prog w) X G.gt;have b3:Looks 147 h0 (isInstance (.ref x) (.type "BaseException")) true:=b0.andThen (looks_mroIn X G.be);have n0:(Value.builtin "BaseException.__getattribute__" == Value.builtin "object.__getattribute__")=false:=by decide +kernel
 have n1:(onTheHeap (Value.ref C) && Value.builtin "BaseException.__getattribute__" == Value.builtin "object.__getattribute__")=false:=by rw [n0,Bool.and_false]
 have n2:(expr && onTheHeap (Value.builtin "BaseException.__getattribute__"))=false:=by cases expr <;> rfl
 unfold getAttrBy;refine jI (ax (b0.at (ax (b1.at ?_))));show wpAny _ _ (if (onTheHeap (Value.ref C) && Value.builtin "BaseException.__getattribute__" == Value.builtin "object.__getattribute__")=true then _ else _) _ _ _;rw [az (by rw [n1];exact dj)];unfold getAttrByItsOwn;refine ax ?_;show wpAny _ _ (typeLookup (.ref C) "__getattr__") _ _ _;refine b2.at ?_;refine ax (j4 (jI ?_));unfold callGetattribute;rw [az (by rw [n2];exact dj)];unfold boundAndCalled;rw [PySem.F.attr_ValueError.ga.bind (.ref x)];refine ax (aK ?_);show wpAny _ _ (call _ _) _ _ _;refine fC ?_;show codeAny _ _ (.call (.builtin "BaseException.__getattribute__") ⟨[.ref x,.str name tk],[]⟩) _ _;refine pX PySem.F.attr_ValueError.ga.plain PySem.F.entry_bexc_ga ?_;refine @check_slot 147 _ _ ⟨h0,g0,d0,t0,UE⟩ "BaseException.__getattribute__" "BaseException" "__getattribute__" (.ref x) [.str name tk] [] _ nofun nofun b3 (PySem.F.args_bexc_ga _ _) ?_;refine t _ _ _ ?_;exact handed_on hv q
def L_ {expr:Bool}{Q:z0b}(X:K.In s.heap)(G:XG K C)(I:InstAt s.heap x ox C od)(t:oA prog w 247 x name s.toks v)(hv:handedIn v=true)(q:Q v 247) :
  wpAny 147 A (getAttr (.ref x) name expr) Q E s:=by
 unfold getAttr;exact ax (wpAny_mkText (KO (s:=247) X G I t hv q))
def Ma {Q:z0j->Shared->Prop}(X:K.In s.heap)(G:XG K C)(I:InstAt s.heap x ox C od)(t:oA prog w 247 x name s.toks v)(hv:handedIn v=true)(q:Q (some v) 247) :
  wpAny 147 A (getAttr? (.ref x) name) Q E s:=by
 unfold getAttr? getAttrBy?;exact ax (wpAny_mkText (ax (j4 (KO (s:=247) X G I t hv (aK q)))))
def G1 (G:XG K C):KitX K (.ref x) (.ref C) (λh=>∃ox od,InstAt h x ox C (some od)) where
 ty:=λ_ _ _ ⟨_,_,I⟩=>I.type
 it:=λM h X _=>(kit_cls (M:=M) X G.me).2.1
 ne:=λh tp dd aN n sl X VH=>by
  obtain⟨cd,hc,_⟩:=any_some G.dict;cases e:(Value.ref C == .ref tp) with
  | false=>rfl
  | true =>
   exfalso;have e2:=Value.ref.inj (beq_iff_eq.mp e);rw [<-e2] at VH;unfold clsIn at hc
   split at hc
   .next ho=>rw [X _ _ ho] at VH;cases VH
   cases hc
 ca:=λ{prog w A E Q s} X ⟨ox,od,I⟩ k=>by
  obtain⟨cd,hc,_⟩:=any_some G.dict;exact Ma X G I (Hq (s:=247) X I (findObj_data (by rw [hc];rfl) G.ca G.cg G.ct) G.ob) rfl k
end
section
variable {X:Cx}{ai:z0e}{σ:St}{H:Hp}{s:Shared}{ea C dx:Addr}{fs:List (Str×V)}
def LQ (H:Hp)(ea C dx:Addr)(fs:List (Str×V)):Prop:=H ea=some (uu ea (.ref C) (some dx))/\H dx=some (.xd fs)
def LQ.inst (I:121)(e:LQ H ea C dx fs):∃ox od,InstAt s.heap ea ox C (some od)/\∃mA:Str->z0j,(∀f,iJ (fs.lookup f) (mA f))/\∀name,lookIn name od=some (mA name):=by
 obtain⟨⟨oe,vs,e1,c1,d1,f1⟩,_⟩:=I.bw _ _ e.1;obtain⟨mA,n1,r1⟩:=(show b8 _ _ _ _ dx (.xd fs) from I.bw _ _ e.2);obtain⟨od,ho,hl⟩:=u4 n1;refine⟨oe,od,⟨e1,c1,?_,?_⟩,mA,r1,hl⟩
 .unfold notCls;rw [f1]
 rw [d1];exact ho
def dw:fu X (.builtin "isinstance") (λxs H Q=>∃ea C dx fs c u b,xs=[.ref ea,c]/\LQ H ea C dx fs/\XG X.K C/\(∀u',RelV c u'->u'=u)/\kitOne X.K (.ref C) u=some b/\Q (.bl b) H):=by
 intro ai s σ H xs us Q I r h;obtain⟨ea,C,dx,fs,c,u,b,rfl,xo,G,hc,e,q⟩:=h;obtain⟨u1,u2,rfl,r1,r2⟩:=vals2 r;cases (show u1=Value.ref ea from r1);cases hc _ r2;obtain⟨ox,od,J,_⟩:=xo.inst I;exact kia_one (G1 G) I.kx ⟨ox,od,J⟩ e (λz=>nomatch z) λtk=>⟨.bl b,H,I.tok _,rfl,q⟩
def tXg (K:Frag)(ta:TE)(f:Str):TE:=λσ H Q=>ta σ H λx H1=>∃ea C dx fs v,x=.ref ea/\LQ H1 ea C dx fs/\XG K C/\de K C f/\fs.lookup f=some v/\Q v H1
def Cv {e:Expr}{ta:TE}{f:Str}{pos:Pos}(he:PE X e ta)(hb:attributeBase e f X.env (eval e X.env)=eval e X.env):PE X (.Attribute e f pos) (tXg X.K ta f):=by
 intro ai s σ H Q I h;refine CU hb (cE (he ai s σ H _ I h) λu s1 aW=>?_);obtain⟨x,H1,I1,rx,ea,C,dx,fs,v,ex,xo,G,n,l,q⟩:=aW;subst ex;obtain rfl:u=Value.ref ea:=rx;obtain⟨ox,od,J,mA,ra,hl⟩:=xo.inst I1;obtain⟨u',hu,ru⟩:=iJ.some_of (v:=v) (o:=mA f) (by rw [<-l];exact ra f);exact L_ I1.kx G J (Ho (s:={ s1 with toks:=s1.toks+1 }) I1.kx J (findObj_own G.dict n rfl (by rw [hl,hu]))) (vb ru) ⟨v,H1,I1.tok _,ru,q⟩
end
def tU (z:Str):Prop:=z.length<=1000/\∀c∈z.cps.toList,c < 16 ^ 8
theorem lF:∀zs:z0r,PyData.showableAll (zs.map PyData.str)=true
 | []=>by simp [PyData.showableAll]
 | z::r=>by simp [PyData.showableAll,PyData.showable,lF r]
theorem qc:∀zs:z0r,PyData.hasDictAll (zs.map PyData.str)=false
 | []=>by simp [PyData.hasDictAll]
 | z::r=>by simp [PyData.hasDictAll,PyData.hasDict,qc r]
theorem rJ:∀zs:z0r,PyData.depthAll (zs.map PyData.str)=0
 | []=>by simp [PyData.depthAll]
 | z::r=>by simp [PyData.depthAll,PyData.depth,rJ r]
theorem qb:∀(ts:z0r) (k:Nat)(bG:Str),(textFrom k bG ts).length<=bG.length+piled ts
 | [],_,bG=>j7 _ _
 | t::r,k,bG=>by
  have ih:=qb r (k+1) (bG++(if k > 0 then "\x2c\x20" else "":String)++t);have e:(bG++(if k > 0 then "\x2c\x20" else "":String)++t).length=bG.length+(if k > 0 then 2 else 0)+t.length:=by
   rw [oF,oF]
   split <;> rfl
  rw [e] at ih;rw [piled_cons];have d:(if k > 0 then 2 else 0:Nat)<=2:=by split <;> omega
  show (textFrom (k+1) _ r).length<=_;omega
def yH (ts:z0r):(listText ts).length<=2+piled ts:=by
 unfold listText;rw [oF];have:=qb ts 0 "[";have e1:("[":Str).length=1:=rfl;have e2:("]":Str).length=1:=rfl;rw [e1] at this;rw [e2];omega
theorem rZ:∀(zs:z0r),(∀z∈zs,tU z)->piled (PyData.shownAll (zs.map PyData.str))<=10004 * zs.length
 | [],_=>by simp [PyData.shownAll,piled_nil]
 | z::r,h=>by
  have ih:=rZ r λx hx=>h x (cw _ hx);obtain⟨h1,h2⟩:=h z cx;have h3:=PySem.StrLaws.reprText_len z h2;rw [bC,c_];show piled (PyData.shown (.str z)::PyData.shownAll (r.map PyData.str))<=_;rw [piled_cons];have e:PyData.shown (.str z)=reprText z:=by simp [PyData.shown]
  rw [e];omega
section
variable {K:aV}{H:Hp}
mutual
def ow (K:aV)(H:Hp):PyData->V->Prop
 | .str x,v=>v=.str x
 | .int i,v=>v=.int i
 | .list xs,v=>∃a ys,v=.ref a/\aF K H a ys/\qY K H xs ys
 | .tuple xs,v=>∃a ys,v=.ref a/\aZ K H a ys/\qY K H xs ys
 | _,_=>False
def qY (K:aV)(H:Hp):List PyData->115->Prop
 | [],ys=>ys=[]
 | d::ds,ys=>∃y r,ys=y::r/\ow K H d y/\qY K H ds r
end
end
section
variable {X:Cx}{ai:z0e}{σ:St}{H:Hp}{s:Shared}
mutual
theorem uS (I:121):∀(d:PyData)(v:V)(u:Value),ow X.K H d v->RelV v u->∃as,Reads s.heap u d as
 | .str x,v,u,h,r=>by
  cases (show v=.str x by simpa [ow] using h);obtain⟨t,rfl⟩:=(show ∃t,u=Value.str x t from r);exact⟨_,.str x t⟩
 | .int i,v,u,h,r=>by
  cases (show v=.int i by simpa [ow] using h);obtain⟨t,rfl⟩:=(show ∃t,u=Value.int i t from r);exact⟨_,.int i t⟩
 | .list xs,v,u,h,r=>by
  obtain⟨a,ys,rfl,hq,ha⟩:=(show ∃a ys,v=.ref a/\aF X.K H a ys/\qY X.K H xs ys by simpa [ow] using h);cases (show u=Value.ref a from r);obtain⟨aN,rv,⟨o,n,eo,c,_,d⟩,_⟩:=I.list hq;obtain⟨as,ra⟩:=pj I xs ys aN ha rv;exact⟨_,Reads.list eo c d (by simpa using ra)⟩
 | .tuple xs,v,u,h,r=>by
  obtain⟨a,ys,rfl,hq,ha⟩:=(show ∃a ys,v=.ref a/\aZ X.K H a ys/\qY X.K H xs ys by simpa [ow] using h);cases (show u=Value.ref a from r);obtain⟨aN,rv,⟨o,ho,hc,n,hd⟩,_⟩:=I.tuple hq;obtain⟨as,ra⟩:=pj I xs ys aN ha rv;exact⟨_,Reads.tuple ho hc hd (by simpa using ra)⟩
 | .none,v,u,h,r=>absurd h (by simp [ow])
 | .bool _,v,u,h,r=>absurd h (by simp [ow])
 | .dict _,v,u,h,r=>absurd h (by simp [ow])
theorem pj (I:121):∀(ds:List PyData)(ys:115)(us:z0m),qY X.K H ds ys->aY ys us->∃as,ReadsAll s.heap us ds as
 | [],ys,us,h,r=>by
  cases (show ys=[] by simpa [qY] using h);cases r;exact⟨_,.nil⟩
 | d::ds,ys,us,h,r=>by
  obtain⟨y,r2,rfl,h1,h2⟩:=(show ∃y r,ys=y::r/\ow X.K H d y/\qY X.K H ds r by simpa [qY] using h);cases r with
  | cons a b =>
   obtain⟨as,q1⟩:=uS I d _ _ h1 a;obtain⟨bs,q2⟩:=pj I ds _ _ h2 b;exact⟨_,.cons q1 q2⟩
end
end
section
variable {X:Cx}
structure KA (d:PyData):Prop where
 sh:d.showable=true
 nd:d.hasDict=false
 dp:d.depth<=8
 ln:d.shown.length<=10005002
def Pk (K:aV)(t:TE):TE:=λσ H Q=>t σ H λv H1=>∃a d,v=.ref a/\ow K H1 d v/\KA d/\∀y,Q (.str y) H1
def Jx {e:Expr}{a:Str}(hg:X.A.guards=some [])(hu:X.A.units+8 < cLine)(he:PE X e te)(ha:a.length<=1000) :
  PE X (.JoinedStr [.Constant (.str a) j p1,.FormattedValue e 114 none p2] pos) (Pk X.K te):=by
 intro ai s σ H Q I h;refine wpAny_JoinedStr ?_;show wpAny _ _ (eval _ X.env) _ _ _;refine Calls.Constant_str ⟨a,_,rfl,?_,?_⟩
 .show (Str.empty++a).length<=sizeLine;rw [oF,iA];show 0+a.length<=_;omega
 have l0:(Str.empty++a).length=a.length:=by rw [oF];exact lR _
 show wpAny _ _ (eval _ X.env) _ _ _;refine wpAny_FormattedValue_repr (cE (he ai _ σ H _ (I.tok _) h) λu s1 aW=>?_);obtain⟨v,H1,I1,rv,l,d,ev,hd,ok,q⟩:=aW;obtain⟨as,rd⟩:=uS I1 d v u hd rv;subst ev;cases (show u=Value.ref l from rv);have lz:=ok.ln;have YU:d.shown.length<=sizeLine:=by rw [iA];omega
 refine pyReprObj_of_reads rd ok.sh (PyData.noDict_hsm ok.nd) hg (by have:=ok.dp;omega) (λ_ _ z=>z) (λh' u tk hk=>?_) YU;have fin:(Str.empty++a++d.shown).length<=sizeLine:=by
  rw [oF,l0,iA];omega
 refine wpAny_formatField_str ⟨_,_,rfl,fin,?_⟩ ⟨_,_,rfl,fin,?_⟩ YU
 .exact⟨fin,.str _,H1,I1.kept (t':=_) hk,159,q _⟩
 exact⟨fin,.str _,H1,I1.kept (t':=_) hk,159,q _⟩
end
theorem yg {K:aV}:∀zs:z0r,qY K H (zs.map PyData.str) (zs.map V.str)
 | []=>by simp [qY]
 | z::r=>by
  have:∃y s,V.str z::r.map V.str=y::s/\ow K H (.str z) y/\qY K H (r.map PyData.str) s:=⟨_,_,rfl,by simp [ow],yg r⟩;rw [bC,bC,qY];exact this
def Dl {zs:z0r}(hl:zs.length<=1000)(hz:∀z∈zs,tU z):KA (.list (zs.map PyData.str)):=by
 refine⟨by simp [PyData.showable,lF],by simp [PyData.hasDict,qc],by simp [PyData.depth,rJ],?_⟩;have h1:=yH (PyData.shownAll (zs.map PyData.str));have h2:=rZ zs hz;have e:(PyData.list (zs.map PyData.str)).shown=listText (PyData.shownAll (zs.map PyData.str)):=by simp [PyData.shown]
 rw [e];omega
def FT {K:aV}{a:Addr}{zs:z0r}(h:aF K H a (zs.map V.str)):ow K H (.list (zs.map PyData.str)) (.ref a):=by
 have:∃b ys,V.ref a=.ref b/\aF K H b ys/\qY K H (zs.map PyData.str) ys:=⟨a,_,rfl,h,yg zs⟩;simpa [ow] using this
section
variable {X:Cx}{k:Nat}{f C W:Addr}{fd:FuncData}{ps:z0r}{sp:Sp}{ds:z0m}{dvs:115}{x Cn n:Str}{a:Expr}{as:z0p}{t:TA}{j:Nat}{b₀:Stmt}{jN:z0q}{tb:TS}{p cp ap np hp pos:Pos}
end
end L2
namespace eZ
open PySem L2 M11 PySem.W
abbrev FH:Stmt:=Ld (top 17) 0
abbrev Fy:Stmt:=Ld (top 20) 0
abbrev Eu:z0m:=[.type "ValueError",.type "Exception",.type "BaseException",.type "object"]
structure Tp (K:Frag)(mg:z0c)(nm fld:Str)(C W fI:Addr):Prop where
 x:IP K C fI Eu "ValueError.__new__"=true
 kp:keepIn K (.ref C)=true
 mC:mg nm=some (.ref C)
 mW:mg "WrightError"=some (.ref W)
 xc:∃cd,XC K C cd
 tk:takerIn K C fld=some none
 bi:BI K W "ValueError.__init__"
 fn:∃oI,K.lookup fI=some oI/\oI.cls=.type "function"
section
variable {P:Program}{w:World}{K:aV}{mg:z0c}{base:Heap}{f C W:Addr}{fd:FuncData}
def O7 {A:Around}{k n:Nat}(hr:dG k A)(h:n<=16 * k+200):A.units+n < cLine:=by have:=hr.un;omega
def wm (K:Frag)(C:Addr)(fld:Str):Sp:=λvs H Q _=>∃(ea l:Addr)(xs:115)(d:PyData),vs=[.ref ea,.ref l]/\aF K H l xs/\ow K H d (.ref l)/\KA d/\H ea=some (newX ea C none) /\
 ∀m dx,H m=none->dx≠m->H dx=none->dx≠ea->Q .dq (upd (upd (upd H m (.lst xs)) dx (.xd [(fld,.ref m)])) ea (newX ea C (some dx)))
def Oz:aJ ["self","names"] ["self","names"] (av FH):=182
def IY:aJ ["self","names"] ["self","names"] (av Fy):=182
def Gk (F:iu K "__init__" "Vast.__init__" Fy f fd)(T:Txt mg)(N:Tp K mg "Vast" "names" C W f):bF P w K mg base fN 1 f fd ["self","names"] (wm K C "names"):=by
 refine F.ok IY 186 195
 .obtain⟨ea,l,xs,d,rfl,_⟩:=h;rfl
 obtain⟨ea,l,xs,d,rfl,hl,hd,ok,eH,q⟩:=h;refine⟨_,ao (cv (Gg PySem.F.excBase_ValueError N.bi rfl N.mW (af (pv 0) (af (Jx hr.gd (O7 (n:=8) hr nofun) (pv 1) nofun) ak))))
  (ar (Jn (pv 0) (bh gp rfl T.lst gq (af (pv 1) ak)) rfl)),?_⟩
 obtain⟨cd,xc⟩:=N.xc;refine⟨_,rfl,_,rfl,l,d,rfl,hd,ok,λy=>⟨ea,C,f,none,_,rfl,eH,N.x,?_⟩⟩;refine⟨_,rfl,l,_,rfl,.inl hl,λm hm=>?_⟩;have nm:ea≠m:=λz=>by rw [<-z,eH] at hm;cases hm
 exact⟨_,rfl,ea,C,cd,rfl,(by rw [aj nm];exact eH),xc,N.tk,λdx h1 h2=>q m dx hm (λz=>by rw [z,ae] at h1;cases h1) (by rw [aj (λz=>by rw [z,ae] at h1;cases h1)] at h1;exact h1) h2⟩
end
end eZ
namespace L2
open PySem PySem.Spec PyProof.Rows PySem.W
def Pe (te:TE):TE:=λσ H Q=>∃R:VK,te σ H R/\∀v H1,R v H1->Q v H1
def PE.mono {e:Expr}(h:PE X e te):PE X e (Pe te):=λai s σ H Q I ⟨R,q,m⟩=>cE (h ai s σ H R I q) λu s1 ⟨x,H1,I1,r1,q1⟩=>⟨x,H1,I1,r1,m _ _ q1⟩
section
variable {P:Program}{w:World}{K:Frag}{mg:z0c}{base:Heap}{CX:EY}{k:Nat}{f:Addr}{fd:FuncData}{ps:z0r}{sp sp':Sp}
end
mutual
theorem yf {K:aV}(s:aE H H'):∀{d:PyData}{v:V},ow K H d v->ow K H' d v
 | .str x,v,h=>by simpa [ow] using h
 | .int i,v,h=>by simpa [ow] using h
 | .list xs,v,h=>by
  obtain⟨a,ys,e,hq,ha⟩:=(show ∃a ys,v=.ref a/\aF K H a ys/\qY K H xs ys by simpa [ow] using h);have:∃a ys,v=.ref a/\aF K H' a ys/\qY K H' xs ys:=⟨a,ys,e,s.seq hq,rY s ha⟩;rw [ow];exact this
 | .tuple xs,v,h=>by
  obtain⟨a,ys,e,hq,ha⟩:=(show ∃a ys,v=.ref a/\aZ K H a ys/\qY K H xs ys by simpa [ow] using h);have:∃a ys,v=.ref a/\aZ K H' a ys/\qY K H' xs ys:=⟨a,ys,e,s.tup hq,rY s ha⟩;rw [ow];exact this
 | .none,v,h=>absurd h (by simp [ow])
 | .bool _,v,h=>absurd h (by simp [ow])
 | .dict _,v,h=>absurd h (by simp [ow])
theorem rY {K:aV}(s:aE H H'):∀{ds:List PyData}{ys:115},qY K H ds ys->qY K H' ds ys
 | [],ys,h=>by simpa [qY] using h
 | d::ds,ys,h=>by
  obtain⟨y,r,e,h1,h2⟩:=(show ∃y r,ys=y::r/\ow K H d y/\qY K H ds r by simpa [qY] using h);rw [qY];exact⟨y,r,e,yf s h1,rY s h2⟩
end
end L2
namespace eZ
open PySem L2 M11 PySem.W
def XY (P:Program)(w:World)(K:Frag)(mg:z0c)(base:Heap)(nm fld:Str)(C:Addr):Prop :=
 ∃W fI fd,Tp K mg nm fld C W fI/\bF P w K mg base fN 1 fI fd ["self",fld] (wm K C fld)/\Binds K fd ["self",fld] []
def RP (C:Addr)(fld:Str)(H:Hp)(E:XK)(xs:115):Prop:=∀m dx H',aE H H'->H' dx=some (.xd [(fld,.ref m)])->H' m=some (.lst xs)->E (.ref C) (some dx) H'
section
variable {P:Program}{w:World}{K:Frag}{mg:z0c}{base:Heap}{N:z0r}{qual:Str}{scope:Scope}{f C:Addr}{cd:Value}{A:Around}{outer:List Env}{s₀:Shared}{H₀:Hp}{E:XK}
def TZ (K:Frag)(C:Addr)(fld:Str)(E:XK)(te:TE):TS:=λ_ σ H=>te σ H λv H1=>∃l xs d,v=.ref l/\aF K H1 l xs/\ow K H1 d (.ref l)/\KA d/\RP C fld H1 E xs
def MR {nm fld:Str}{e:Expr}(R:XY P w K mg base nm fld C)(hr:dG 2 (300).A)(hg:Gl (300) nm)
  (he:PE (300) e te)(qC:(nm == ("__debug__":Str))=false:=by decide)(lI:starEach [e] (300).env=(false,eval e (300).env)::starEach [] (300).env:=by rfl) :
  PS (300) (.Raise (some (.Call (.Name nm p) [e] [] cp)) none pos) (TZ K C fld E te):=by
 obtain⟨W,fI,fd,Nn,G,b⟩:=R;obtain⟨oI,lk,Kc⟩:=Nn.fn;have raise:=FX (pos:=pos) (PY (p:=p) (pos:=cp) PySem.F.excBase_ValueError Nn.x lk Kc Nn.kp G (by show 2<=1000;decide) hr hg Nn.mC b qh (af he.mono ak lI) qC lI rfl);intro ai s σ H D I h;refine raise ai s σ H D I ⟨_,h,λv H1 aW=>?_⟩;obtain⟨l,xs,d,ev,hq,hd,ok,q⟩:=aW;subst ev;intro ea h1 h2;have ka:=ah h1 (newX ea C none);refine⟨ea,l,xs,d,rfl,ka.seq hq,?_,ok,ae,λm dx hm nmd ND U1=>⟨rfl,ea,C,some dx,fI,Eu,_,rfl,ae,h2,Nn.x,nofun,?_⟩⟩
 .exact yf ka hd
 have UW:m≠ea:=λz=>by rw [z,ae] at hm;cases hm
 have V6:H1 m=none:=by rw [aj UW] at hm;exact hm
 have Q9:H1 dx=none:=by rw [aj U1] at ND;exact ND
 refine q m dx _ (λc o e=>?_) ?_ ?_
 .have n1:c≠ea:=aq e h1;have n2:c≠dx:=aq e Q9;have n3:c≠m:=aq e V6;rw [aj n1,aj n1,aj n2,aj n3,aj n1];exact e
 .rw [aj U1,aj U1,ae]
 rw [aj UW,aj UW,aj (dA nmd),ae]
end
end eZ
namespace L2
open PySem
def Ei {K:aV}{H:Hp}{p D:Addr}{zs:z0r}{σ:St}{js:z0i}{cs:List (Option V)}{tif:TT}{Qp:Hp->Prop}(f:Str->Bool)(hσ:eI ["name"] js σ=none::cs)(hp:aF K H p (zs.map V.str))(hz:zs.length<=1000)(hD:H D=none)
  (ht:∀z∈zs,∀H2 Q,aE H H2->Q (f z) H2->tif (some (.str z)::cs) H2 Q)(q:∀H2,aE H H2->H2 D=some (.lst ((zs.filter f).map V.str))->Qp H2) :
  ∃W:Nat->Nat->115->148,(∃m,W 0 m [] (eI ["name"] js σ) (upd H D 128)) /\
 ∀i m ys σ' H,W i m ys σ' H->((kF K p).stop i H/\Qp H)\/((kF K p).go i H/\∃m',m' < m/\∀x H',(kF K p).nu i H x H'->eA 0 x σ' H' λσ2 H2=>tif σ2 H2 λb H3 =>
  if b=true then gw 0 σ2 H3 248 else W (i+1) m' ys σ2 H3):=by
 refine bX (xs:=zs.map V.str) (λi ys σ2 H5=>ys=((zs.take i).filter f).map V.str/\(∃y0,σ2=y0::cs)/\aE H H5/\H5 D=some (.lst ys)) ⟨rfl,⟨none,hσ⟩,ah hD _,ae⟩ (λi ys σ2 H5 _ h=>h.2.2.1.seq hp) (λi x ys σ2 H5 ex h=>?_) (λys σ2 H5 h=>?_)
 .obtain⟨rfl,⟨y0,rfl⟩,s5,e5⟩:=h;rw [bB] at ex;obtain⟨z,ez,rfl⟩:=b9.mp ex;have li:=(bM.mp ez).1;have lf:((zs.take i).filter f).length<=1000:=cI (i8 _ _) (by rw [d7];omega);have tk:(zs.take (i+1)).filter f=(zs.take i).filter f++if f z=true then [z] else []:=by
   rw [cM,ez,i6]
   congr 1
   show List.filter f [z]=_;rw [m_];rfl
  refine goN ?_;refine ht z (cf ez) H5 _ s5 ?_;refine cC (λc=>?_) (λc=>?_)
  .refine⟨_,rfl,e5,210,by rw [tk,aA c,bA];rfl,159,λb o hb=>?_,ae⟩;rw [254];exact s5 b o hb
  exact⟨by rw [tk,az c,eE],159,s5,e5⟩
 obtain⟨rfl,_,s5,e5⟩:=h;rw [aC,dI] at e5;exact q H5 s5 e5
end L2
namespace eZ
open PySem L2 M11 PySem.W
section
def Sg {x qual:Str}{N ps:z0r}{k:Nat}{sp:Sp}(F:iu K x qual st f fd)(S:aJ N ps (av st))(len:∀vs H Q E,sp vs H Q E->vs.length=ps.length)
  (g_:∀(dB:Value)(A:Around)(outer:List Env)(s:Shared)(H:Hp)(vs:115)(Q:VK)(E:XK),dG k (A.deeper (PyProof.Rows.envOfC qual (av st) s.heap.objs.size f dB))->sp vs H Q E ->
   ∃t,vC (eY (jR P w) P w K mg base N qual (av st) f dB A outer s H E) (bZ st) t/\t { nx:=λ_ H'=>Q .dq H',rt:=Q } (start N vs) H):bF P w K mg base (jR P w) (k+1) f fd ps sp:=by
 obtain⟨oc,od,kV,doc,pm,an,dB,ct,wO,rfl,lk,sR⟩:=F.ex;exact yR lk sR S len λA outer s H vs Q E hr zD=>g_ dB A outer s H vs Q E hr zD
def fP (gl gg:G)(z:Str):Bool:=decide ((60:Int) < if (gg z).getD 0 > (gl z).getD 0 then (gg z).getD 0 else (gl z).getD 0)
structure C0 (aa:113)(rk:Str->Nat)(b:Str->Int):Prop where
 xY:∀g,bE M11.bl aa (jP aa) g->bS M11.bl aa g->∀h∈hd aa,∃n,g h=some n
 met:∀jx ms,aa[0]?=some jx->jx.1∈ms->ED aa aa.length ms->∀h∈hd aa,h∈ms
 loop:BM aa rk
 Tn:tZ aa b
 uniq:∀g g',bE M11.bl aa (jP aa) g->bS M11.bl aa g->bE M11.bl aa (jP aa) g'->bS M11.bl aa g'->∀h∈hd aa,g h=g' h
def oX (K:aV)(T1 T2 CV:Addr):Sp:=λvs H Q E=>∃(R S:Addr)(rs ss:z0o)(aa str:113)(rk:Str->Nat)(b:Str->Int),vs=[.ref R,.ref S]/\aF K H R 162/\bj K H rs aa/\aa.length<=1000/\250/\aa≠[]/\(∀h∈hd aa,tU h) /\
 aF K H S (ss.map V.ref)/\bj K H ss str/\str.length<=1000/\(∀ru∈str,ru.2.length<=8)/\(str.flatMap (·.2)).Nodup/\C0 aa rk b/\Tab T1 sE.2.2.2 zC H/\Tab T2 A7.2.2.2 Lf H/\T1≠T2 /\
 ∀H',lL T1 T2 H H'->Tab T1 sE.2.2.2 zC H'->Tab T2 A7.2.2.2 Lf H'->∀gl gg,bE M11.bl aa (jP aa) gl->bS M11.bl aa gl->GJ aa b gg->bE M11.bg aa (λ_=>none) gg->bS M11.bg aa gg ->
  ((hd aa).filter (fP gl gg)=[]->Q .dq H') /\
  (∀m dx,(hd aa).filter (fP gl gg)≠[]->H' dx=some (.xd [("names",.ref m)])->H' m=some (.lst (((hd aa).filter (fP gl gg)).map V.str))->E (.ref CV) (some dx) H')
def AR {T1 T2 CV:Addr}{tm:Tok}(F:iu K "refuse_faults" "refuse_faults" wD f fd)(T:Txt mg)(hM:mg "MOST_RULES"=some (.int 60 tm))(RV:XY P w K mg base "Vast" "names" CV)(GT:aL P w K mg base 1 "refuse_twice" ["strengths"] (B9 K))(GL:aL P w K mg base 3 "least_sizes" ["rules"] (qN K T1))
  (GH:aL P w K mg base 1 "heads_of" ["rules"] (kJ K))(GM:aL P w K mg base 1 "names_met" ["rules"] (K0 K))(GF:aL P w K mg base 3 "find_loop" ["rules"] (Fn K))(GG:aL P w K mg base 3 "greatest_empty_sizes" ["rules"] (wo K T2)) :
  bF P w K mg base (jR P w) 4 f fd ["rules","strengths"] (oX K T1 T2 CV):=by
 refine Sg F g9 186 195
 .obtain⟨R,S,rs,ss,aa,str,rk,b,rfl,_⟩:=h;rfl
 obtain⟨R,S,rs,ss,aa,str,rk,b,rfl,hR,cT,bN,h8,qS,QC,hS,yM,VJ,QG,VP,gd,Ki,SN,nT,q⟩:=h;have hu:=fU hr;refine⟨_,ao (cR (md (iD (pv 0) (λ_=>rfl))) (ar gh) bL)
  (ao (cv (bU (GT.mono (by decide:1<=3)) hr rfl (af (pv 1) ak)))
  (ao (aD (i:=2) g9.nd rfl (Or.inr rfl) (bU GL hr rfl (af (pv 0) ak)))
  (ao (ig (iy:=3) ["name"] [(2,"least")] g9.nd rfl rfl rfl (bq (bU (GH.mono (by decide:1<=3)) hr rfl (af (pv 0) ak))) (bH rfl rfl) nofun rfl nofun
   (λ_ _ _ _ _=>ay (i:=0) (show (["name","least"]:z0r).Nodup by decide +kernel) rfl 116) (λ_ _ _ _ _=>gR (eK (dP hu (pv 0) (pv 1)))) (λ_ _ _ _ _=>pv 0))
  (ao (cR (iD (pv 3) (λ_=>rfl)) (ar gh) bL)
  (ao (aD (i:=4) g9.nd rfl (Or.inr rfl) (bU (GM.mono (by decide:1<=3)) hr rfl (af (pv 0) ak)))
  (ao (ig (iy:=5) ["name"] [(4,"met")] g9.nd rfl rfl rfl (bq (bU (GH.mono (by decide:1<=3)) hr rfl (af (pv 0) ak))) (bH rfl rfl) nofun rfl nofun
   (λ_ _ _ _ _=>ay (i:=0) (show (["name","met"]:z0r).Nodup by decide +kernel) rfl 116) (λ_ _ _ _ _=>gR (eK (dP hu (pv 0) (pv 1)))) (λ_ _ _ _ _=>pv 0))
  (ao (cR (iD (pv 5) (λ_=>rfl)) (ar gh) bL)
  (ao (aD (i:=6) g9.nd rfl 116 (bU GF hr rfl (af (pv 0) ak)))
  (ao (cR (iD (pv 6) (λ_=>rfl)) (ar gh) bL)
  (ao (aD (i:=7) g9.nd rfl (Or.inr rfl) (bU GG hr rfl (af (pv 0) ak)))
  (ao (ig (iy:=8) ["name"] [(2,"least"),(7,"greatest")] g9.nd rfl rfl rfl (bq (bU (GH.mono (by decide:1<=3)) hr rfl (af (pv 0) ak))) (bH rfl rfl) nofun rfl nofun
   (λ_ _ _ _ _=>ay (i:=0) (show (["name","least","greatest"]:z0r).Nodup by decide +kernel) rfl 116) (λ_ _ _ _ _=>gR (bf sk (aM (Ep rfl) rfl T.max PyProof.Rows.boot_max (af (eG hu (pv 1) (pv 0) 144) (af (r9 hu (pv 2) (pv 0) au ⟨rfl,rfl,rfl,rfl⟩) ak))) (df (v:=.int 60) rfl hM ⟨tm,rfl⟩) (bz _))) (λ_ _ _ _ _=>pv 0))
  (ar (cR (iD (pv 8) (λ_=>rfl)) (ar (MR RV (hr.mono nofun) rfl (pv 8))) bL))))))))))))),?_⟩
 have ll:=bT cT;obtain⟨jx,yO⟩:∃jx,aa[0]?=some jx:=by
  cases aa with
  | nil=>exact absurd rfl qS
  | cons a r=>exact⟨a,rfl⟩
 have eR:(143).isEmpty=false:=by
  have l0:=(bM.mp yO).1;cases rs with
  | nil=>simp at ll;omega
  | cons a r=>rfl
 refine⟨_,rfl,true,.inl ⟨_,hR,by rw [eR];rfl⟩,?_⟩;refine gy ?_;refine⟨_,rfl,S,ss,str,rfl,hS,yM,VJ,QG,VP,λH1 s1=>?_⟩;have z_:=Ki.same s1;have t21:=SN.same s1;refine⟨_,rfl,R,rs,aa,rfl,s1.seq hR,cT.same s1,bN,h8,z_,λdl kl ksl gl H2 fl s2 uG el kkl vl xK sel _=>?_⟩;have CG:=Co s2 z_ (s1.seq hR);have uo:=(cT.same s1).keep λ_ _ z=>BX s2 z_ z;have t22:=BY s2 z_ t21 nT.symm;have hl:=gd.xY gl xK sel;have S02:lL T1 T2 H H2:=λb o n1 _ hb=>s2 b o n1 (s1 b o hb);refine⟨_,rfl,R,rs,aa,rfl,CG,uo,bN,λD3 H3 f3 s3 e3=>⟨D3,rfl,⟨_,aF.of e3⟩,λD4 hD4=>yZ rfl (aF.of e3) hD4 (λz hz H' Q' s' hQ=>?_) λH4 s4 e4=>?_⟩⟩
 .obtain⟨n,en⟩:=hl z hz;have hg:cq H' dl (.str z) (some (.int n)):=by
   have:=cq.k (k:=127) (s' _ _ (s3 _ _ el));rw [vl,en] at this;exact this
  exact⟨_,rfl,_,rfl,dl,_,rfl,hg,_,rfl,hQ⟩
 refine⟨_,rfl,false,.inl ⟨[],aF.of e4,rfl⟩,?_⟩;refine gy ?_;have MH:=s3.trans s4;refine⟨_,rfl,R,rs,aa,jx,rfl,MH.seq CG,uo.same MH,yO,bN,h8,λdm km ms H5 f5 s5 em kkm Df _ mc5=>?_⟩;have Um:=MH.trans s5;refine⟨_,rfl,R,rs,aa,rfl,Um.seq CG,uo.same Um,bN,λD6 H6 f6 s6 e6=>⟨D6,rfl,⟨_,aF.of e6⟩,λD7 WB=>yZ rfl (aF.of e6) WB (λz hz H' Q' s' hQ=>?_) λH7 s7 e7=>?_⟩⟩
 .have hm:=gd.met jx ms yO Df mc5 z hz;have hv:(ba km 145).isSome=true:=by rw [eF,kkm];exact cW.mpr hm
  refine⟨_,rfl,_,rfl,dm,_,rfl,cq.k (k:=127) (s' _ _ (s6 _ _ em)),_,rfl,?_⟩;rw [hv];exact hQ
 refine⟨_,rfl,false,.inl ⟨[],aF.of e7,rfl⟩,?_⟩;refine gy ?_;have Ul:=(Um.trans s6).trans s7;refine⟨_,rfl,R,rs,aa,rk,rfl,Ul.seq CG,uo.same Ul,bN,h8,gd.loop,λD8 H8 f8 s8 e8=>?_⟩;refine⟨_,rfl,false,.inl ⟨[],aF.of e8,rfl⟩,?_⟩;refine gy ?_;have K2:=Ul.trans s8;have t18:=uG.same K2;have Pt:=t22.same K2;refine⟨_,rfl,R,rs,aa,b,rfl,K2.seq CG,uo.same K2,bN,h8,gd.Tn,Pt,λdg kg ksg gg H9 f9 s9 t29 eg kkg vg jg kY seg=>?_⟩;have hR9:=Co s9 Pt (K2.seq CG);have VR:=(uo.same K2).keep λ_ _ z=>BX s9 Pt z;have Ud:=BY s9 Pt t18 nT;have ZS:=K2 _ _ el;have el9:=s9 _ _ (λz=>by obtain⟨ps,a,_⟩:=Pt;rw [<-z,ZS] at a;cases a) ZS;have EM:(hd aa).length<=1000:=by
  have:=fw (aa.map 56) [];rw [ix,aC] at this;show (qU [] (aa.map 56)).length<=1000;omega
 refine⟨_,rfl,R,rs,aa,rfl,hR9,VR,bN,λYb lN f10 oC ER=>⟨Yb,rfl,⟨_,aF.of ER⟩,λD11 WD=>Ei (fP gl gg) rfl (aF.of ER) EM WD (λz hz H' Q' s' hQ=>?_) λue wI vi=>?_⟩⟩
 .obtain⟨n,en⟩:=hl z hz;have Ka:cq H' dl (.str z) (some (.int n)):=by
   have:=cq.k (k:=127) (s' _ _ (oC _ _ el9));rw [vl,en] at this;exact this
  have ZV:=s' _ _ (oC _ _ eg);obtain⟨v,hv1,hv2⟩:∃v:Int,((gg z).map V.int).getD (.int 0)=.int v/\v=(gg z).getD 0:=by
   cases e:gg z with
   | none=>exact⟨0,rfl,rfl⟩
   | some v=>exact⟨v,rfl,rfl⟩
  have We:cq H' dg (.str z) ((gg z).map V.int):=by
   have:=cq.k (k:=127) ZV;rw [vg] at this;exact this
  refine⟨_,rfl,_,rfl,dl,_,rfl,Ka,_,rfl,dg,rfl,.inl ⟨_,.inl ZV⟩,_,rfl,_,We,?_⟩;rw [hv1];refine⟨n,v,rfl,_,_,rfl,rfl,_,rfl,?_⟩;have ev:fP gl gg z=decide ((60:Int) < if v > n then v else n):=by
   unfold fP;rw [en,<-hv2];rfl
  rw [ev] at hQ;exact hQ
 have ME:=oC.trans wI;have out:∀H',aE ue H'->_:=λH' s'=>q H' (λc o n1 n2 hc=>s' c o (ME c o (s9 c o n2 (K2 c o (S02 c o n1 n2 hc))))) ((Ud.same ME).same s') ((t29.same ME).same s') gl gg xK sel jg kY seg;have vi:ue D11=some (.lst (((hd aa).filter (fP gl gg)).map V.str)):=vi;cases hf:(hd aa).filter (fP gl gg) with
 | cons e0 er =>
  rw [hf] at vi;refine⟨_,rfl,true,.inl ⟨_,aF.of vi,rfl⟩,?_⟩;refine lB ?_;have sub:∀z∈e0::er,z∈hd aa:=λz hz=>by rw [<-hf] at hz;exact(gU.mp hz).1
  have ln:(e0::er).length<=1000:=by rw [<-hf];exact cI (i8 _ _) EM
  exact⟨_,rfl,D11,_,_,rfl,aF.of vi,FT (aF.of vi),Dl ln (λz hz=>QC z (sub z hz)),λm dx H' s' Rv em=>(out H' s').2 m dx (by rw [hf];exact λy=>by cases y) Rv (by rw [hf];exact em)⟩
 | nil =>
  rw [hf] at vi;refine⟨_,rfl,false,.inl ⟨[],aF.of vi,rfl⟩,?_⟩;refine gy ?_;exact(out ue (aE.refl _)).1 hf
def pQ (P:Program)(w:World)(K:aV)(mg:z0c)(base:Heap) (k:Nat)(x:Str) (ps:z0r)(sp:Sp):Prop :=
 ∃f fd,bF P w K mg base (jR P w) k f fd ps sp/\Binds K fd ps []/\PySem.W.keepIn K (.ref f)=true/\mg x=some (.ref f)
theorem pQ.mono {j k:Nat}{x:Str}{sp:Sp}(c:pQ P w K mg base j x ps sp)(h:j<=k):pQ P w K mg base k x ps sp :=
 let ⟨f,fd,a,b⟩:=c;⟨f,fd,a.mono h,b⟩
def JA {N:z0r}{g:Addr}{cd:Value}{E:XK}{k:Nat}{x:Str}{sp:Sp}{e:Expr}{t:TA}(c:pQ P w K mg base k x ps sp)
  (hr:dG k (318).A)(hg:Gl (318) x)(ha:PA (318) (e::es) t)
  (qC:267:=by decide)(he:starEach (e::es) (318).env=(false,eval e (318).env)::starEach es (318).env:=by rfl)
  (mE:(backTo pos (starEach es (318).env)).any 56=false:=by rfl) :
  PE (318) (.Call (.Name x p) (e::es) [] pos) (Fd sp [] E t):=by
 obtain⟨f,fd,G,b,kp,m⟩:=c;exact Cy G hr hg m kp b .nil (K8 λ_ _ _ z=>z) ha qC he mE
def zu.Sg {x qual:Str}{f:Addr}{N ps:z0r}{k:Nat}{sp:Sp}(F:zu K x qual st f fd)(S:aJ N ps (av st))(len:∀vs H Q E,sp vs H Q E->vs.length=ps.length)
  (g_:∀(dB:Value)(A:Around)(outer:List Env)(s:Shared)(H:Hp)(vs:115)(Q:VK)(E:XK),dG k (A.deeper (PyProof.Rows.envOfC qual (av st) s.heap.objs.size f dB))->sp vs H Q E ->
   ∃t,vC (eY (jR P w) P w K mg base N qual (av st) f dB A outer s H E) (bZ st) t/\t { nx:=λ_ H'=>Q .dq H',rt:=Q } (start N vs) H):bF P w K mg base (jR P w) (k+1) f fd ps sp:=by
 obtain⟨oc,od,kV,doc,pm,an,dB,ct,wO,T,o,n,rfl,lk,sR,_⟩:=F.ex;refine yR lk sR S len λA outer s H vs Q E hr zD=>?_;obtain⟨t,h,q⟩:=g_ dB A outer s H vs Q E hr zD;exact⟨t,h,q⟩
def rO (K:aV)(Cg T1 T2 T3 CV:Addr):Sp:=λvs H Q E=>∃(H0:Hp)(g gx R:Addr)(sv:V)(rs ss:z0o)(aa str:113)(rk:Str->Nat)(b:Str->Int),vs=[.ref g,.ref R,sv]/\aE H0 H/\H0 g=none/\H g=some (.ins Cg gx [])/\aF K H0 R 162/\bj K H0 rs aa/\aa.length < 64/\250/\aa≠[]/\(∀h∈hd aa,tU h) /\
 StrIn K H0 sv ss str/\str.length<=1000/\(∀ru∈str,ru.2.length<=8)/\(str.flatMap (·.2)).Nodup/\C0 aa rk b/\xQ T1 T2 T3 H0 /\
 ∀H',ou T1 T2 T3 H0 H'->xQ T1 T2 T3 H'->∀gl gg,bE M11.bl aa (jP aa) gl->bS M11.bl aa gl->GJ aa b gg->bE M11.bg aa (λ_=>none) gg->bS M11.bg aa gg ->
  (∀bt,(hd aa).filter (fP gl gg)=[]->X5 H0 H' Cg g rs ss bt->Q .dq H') /\
  (∀m dx,(hd aa).filter (fP gl gg)≠[]->H' dx=some (.xd [("names",.ref m)])->H' m=some (.lst (((hd aa).filter (fP gl gg)).map V.str))->E (.ref CV) (some dx) H')
def Dx (F:zu K "__init__" "Grammar.__init__" rT f fd)(T:Txt mg)(G:GC K Cg)(GR:pQ P w K mg base 6 "refuse_faults" ["rules","strengths"] (oX K T1 T2 CV))(GS:aL P w K mg base 6 "standings_by_part" ["rules"] (KZ K))
  (FB:bF P w K mg base fN 5 fB fdB ["self","rules"] (Cf K C))(MB:Mk K C fB)(BB:Binds K fdB ["self","rules"] [])(mB:mg "BeginTable"=some (.ref C))
  (FL:bF P w K mg base fN 5 fL fdL ["self","rules","begin_table"] (Ce K C C3 T1 T3))(ML:Mk K C3 fL)(BL:Binds K fdL ["self","rules","begin_table"] [])(mL:mg "LeastTrees"=some (.ref C3)):bF P w K mg base (jR P w) 7 f fd ["self","rules","strengths"] (rO K Cg T1 T2 T3 CV):=by
 refine F.Sg Jc 186 195
 .obtain⟨H0,g,gx,R,sv,rs,ss,aa,str,rk,b,rfl,_⟩:=h;rfl
 obtain⟨H0,g,gx,R,sv,rs,ss,aa,str,rk,b,rfl,s0,f0,eg,hR,cT,bN,h8,qS,QC,lI,VJ,QG,VP,gv,Wv,q⟩:=h;refine⟨_,ao (gi (pv 0) (bh gp rfl T.lst gq (af (pv 1) ak)) rfl)
  (ao (Cs (gi (pv 0) (yo (eK (MX (pv 2))) (bu ak) (bh gp rfl T.lst gq (af (pv 2) ak))) rfl))
  (ao (cv (JA GR hr rfl (af (eD (pv 0) rfl) (af (eD (pv 0) rfl) ak))))
  (ao (gi (pv 0) (bU GS hr rfl (af (eD (pv 0) rfl) ak)) rfl)
  (ao (gi (pv 0) (wN MB FB hr rfl mB BB .nil qh (af (eD (pv 0) rfl) ak)) rfl)
  (ar (gi (pv 0) (wN ML FL hr rfl mL BL .nil qh (af (eD (pv 0) rfl) (af (eD (pv 0) rfl) ak))) rfl)))))),?_⟩
 refine⟨_,rfl,R,_,rfl,.inl (s0.seq hR),λR2 CG=>?_⟩;have WY:=ah CG 235 _ _ eg;have sZ:upd H R2 235 R2=some 235:=ae;have YC:=s0.trans (ah CG 235);generalize upd H R2 235=H1 at WY sZ YC;refine⟨_,rfl,g,Cg,gx,[],rfl,WY,G.cls,G.a1,(by show 0 < 1000;decide),?_⟩;generalize n8:dN "rules" (.ref R2) []=ur;have OT:upd H1 g (.ins Cg gx ur) R2=some 235:=by rw [aj (λz=>by rw [z,WY] at sZ;cases sZ)];exact sZ
 have MK:aE H0 (upd H1 g (.ins Cg gx ur)):=λc o hc=>by rw [aj (λz=>by rw [z,f0] at hc;cases hc)];exact YC c o hc
 have Tb:upd H1 g (.ins Cg gx ur) g=some (.ins Cg gx ur):=ae;generalize upd H1 g (.ins Cg gx ur)=H2 at OT MK Tb;refine⟨λσ H3=>σ=[bc g,bc R,some sv]/\∃S2 fs,aE H0 H3/\H3 g=some (.ins Cg gx fs)/\fs=dN "strengths" (.ref S2) ur/\H3 R2=some 235/\H3 S2=some (.lst (ss.map V.ref))/\H0 S2=none,?_,?_⟩
 .have fin:∀S2,H2 S2=none->(λH3=>∃S2 fs,aE H0 H3/\H3 g=some (.ins Cg gx fs)/\fs=dN "strengths" (.ref S2) ur/\H3 R2=some 235/\H3 S2=some (.lst (ss.map V.ref))/\H0 S2=none) (upd (upd H2 S2 (.lst (ss.map V.ref))) g (.ins Cg gx (dN "strengths" (.ref S2) ur)))/\upd H2 S2 (.lst (ss.map V.ref)) g=some (.ins Cg gx ur):=λS2 Lv=>by
   have sl:=ah Lv (.lst (ss.map V.ref));have eS:upd H2 S2 (.lst (ss.map V.ref)) S2=some (.lst (ss.map V.ref)):=ae;have Rt:=sl _ _ Tb;refine⟨⟨S2,_,λc o hc=>?_,ae,rfl,?_,?_,MK.free Lv⟩,Rt⟩
   .rw [aj (λz=>by rw [z,f0] at hc;cases hc)];exact sl _ _ (MK c o hc)
   .rw [aj (λz=>by rw [z,Tb] at OT;cases OT)];exact sl _ _ OT
   rw [aj (λz=>by rw [z,Tb] at Lv;cases Lv)];exact eS
  rcases lI with ⟨rfl,rfl,rfl⟩ | ⟨S,rfl,hS,yM⟩
  .refine⟨_,rfl,_,rfl,?_⟩;refine lB ?_;refine⟨oU,λS2 Lv=>?_⟩;obtain⟨x1,x2⟩:=fin S2 Lv;exact⟨_,rfl,g,Cg,gx,ur,rfl,x2,G.cls,G.a2,(by rw [<-n8];show 1 < 1000;decide),rfl,x1⟩
  refine⟨_,rfl,_,rfl,?_⟩;refine gy ?_;refine⟨_,rfl,S,_,rfl,.inl (MK.seq hS),λS2 Lv=>?_⟩;obtain⟨x1,x2⟩:=fin S2 Lv;exact⟨_,rfl,g,Cg,gx,ur,rfl,x2,G.cls,G.a2,(by rw [<-n8];show 1 < 1000;decide),rfl,x1⟩
 rintro σ H3 ⟨rfl,S2,Iz,FJ,Rt,qA,ZR,ZP,fS2⟩;have YZ:Iz.lookup ("rules":Str)=some (.ref R2):=by rw [qA,<-n8];rfl
 have Sq:Iz.lookup ("strengths":Str)=some (.ref S2):=by rw [qA,<-n8];rfl
 have VM:bj K H3 ss str:=by
  rcases lI with ⟨_,rfl,rfl⟩ | ⟨S,_,_,yM⟩
  .exact .nil
  exact yM.same FJ
 have kX:=Wv.same FJ;refine⟨_,rfl,g,Cg,gx,Iz,_,rfl,Rt,G.cls,G.a1,YZ,_,rfl,g,Cg,gx,Iz,_,rfl,Rt,G.cls,G.a2,Sq,R2,S2,rs,ss,aa,str,rk,b,rfl,aF.of ZR,cT.same FJ,∅,h8,qS,QC,aF.of ZP,VM,VJ,QG,VP,gv,kX.t1,kX.t2,kX.JQ,λH4 OB IV Uc gl gg xK sel jg kY seg=>⟨λhv=>?_,λm dx a Rv em=>(q H4 (λc o n1 n2 _ hc=>OB c o n1 n2 (FJ c o hc)) ⟨IV,Uc,Tab.s2 kX.t3 OB kX.t1 kX.t2 kX.Ip.symm kX.Io.symm,kX.JQ,kX.Ip,kX.Io⟩ gl gg xK sel jg kY seg).2 m dx a Rv em⟩⟩;have Ng:∀g',bE M11.bl aa (jP aa) g'->bS M11.bl aa g'->∀h∈hd aa,∃n,g' h=some n/\n<=60:=λg' qL PB h hh=>by
  obtain⟨n,en⟩:=gv.xY g' qL PB h hh;refine⟨n,en,?_⟩;have e2:=gv.uniq g' gl qL PB xK sel h hh;have V2:fP gl gg h=false:=by
   cases hb:fP gl gg h with
   | false=>rfl
   | true =>
    have:h∈(hd aa).filter (fP gl gg):=gU.mpr ⟨hh,hb⟩;rw [hv] at this;cases this
  unfold fP at V2;rw [<-e2,en] at V2;have:=of_decide_eq_false V2;have this:¬((60:Int) < if (gg h).getD 0 > n then (gg h).getD 0 else n):=this
  split at this <;> omega
 have JW:=Kp.of2 OB kX.t1 kX.t2;have t4:xQ T1 T2 T3 H4:=⟨IV,Uc,Tab.s2 kX.t3 OB kX.t1 kX.t2 kX.Ip.symm kX.Io.symm,kX.JQ,kX.Ip,kX.Io⟩;have S04:ou T1 T2 T3 H0 H4:=λc o n1 n2 _ hc=>OB c o n1 n2 (FJ c o hc);have ZU:=JW _ _ Rt (λ_ z=>by cases z);have ZQ:=JW.lst ZR;have es4:=JW.lst ZP;have QL:bj K H4 rs aa:=JW.aa (cT.same FJ);clear IV Uc OB kX;refine⟨_,rfl,g,Cg,gx,Iz,_,rfl,ZU,G.cls,G.a1,YZ,R2,rs,aa,rfl,aF.of ZQ,QL,∅,h8,λds H5 fds Dj=>?_⟩;have OV:=Dj _ _ ZU;have er5:=Dj _ _ ZQ;have es5:=Dj _ _ es4;have VS:=QL.same Dj;have t5:=t4.same Dj;have S05:ou T1 T2 T3 H0 H5:=λc o n1 n2 n3 hc=>Dj _ _ (S04 c o n1 n2 n3 hc);refine⟨_,rfl,g,Cg,gx,Iz,rfl,OV,G.cls,G.a4,(by rw [qA,<-n8];show 2 < 1000;decide),?_⟩;generalize xj:dN "standings" (.ref ds) Iz=zG;have UP:∀{Hx:Hp}{fx fy:List (Str×V)},Hx g=some (.ins Cg gx fx)->ou T1 T2 T3 H0 Hx->ou T1 T2 T3 H0 (upd Hx g (.ins Cg gx fy)):=λ{Hx fx fy} hg hs c o n1 n2 n3 hc=>by
  rw [aj (λz=>by rw [z,f0] at hc;cases hc)];exact hs c o n1 n2 n3 hc
 have OE:∀{Hx:Hp}{fx fy:List (Str×V)}{b:Addr}{xs:115},Hx g=some (.ins Cg gx fx)->Hx b=some (.lst xs)->upd Hx g (.ins Cg gx fy) b=some (.lst xs):=λ{Hx fx fy b xs} hg hb=>by
  rw [aj (λz=>by rw [z,hg] at hb;cases hb)];exact hb
 have S06:=UP (fy:=zG) OV S05;have WU:=OE (fy:=zG) OV er5;have ZO:=OE (fy:=zG) OV es5;have Nx:bj K (upd H5 g (.ins Cg gx zG)) rs aa:=VS.keep λ_ _ z=>gZ OV z;have t6:xQ T1 T2 T3 (upd H5 g (.ins Cg gx zG)):=t5.E7 OV;have Rr:upd H5 g (.ins Cg gx zG) g=some (.ins Cg gx zG):=ae;generalize upd H5 g (.ins Cg gx zG)=H6 at S06 WU ZO Nx t6 Rr;have lk6:zG.lookup ("rules":Str)=some (.ref R2):=by rw [<-xj,qA,<-n8];rfl
 refine⟨_,rfl,g,Cg,gx,zG,_,rfl,Rr,G.cls,G.a1,lk6,λx dx hx ND U0=>?_⟩;have sx:aE H6 (upd (upd H6 dx (.own x)) x (.ins C dx [])):=(ah ND _).trans (ah (by rw [aj U0.symm];exact hx) _);refine⟨H6,x,dx,R2,rs,aa,rfl,sx,hx,ae,aF.of WU,Nx,∅,h8,λe d bg kE bo ps cP H7 S7 m7 emp _ _ beg _=>⟨rfl,?_⟩⟩;have OU:=S7.sm _ _ Rr;have er7:=S7.sm _ _ WU;have es7:=S7.sm _ _ ZO;have t7:=t6.same S7.sm;have Nw:=Nx.same S7.sm;have S07:ou T1 T2 T3 H0 H7:=λc o n1 n2 n3 hc=>S7.sm _ _ (S06 c o n1 n2 n3 hc);refine⟨_,rfl,g,Cg,gx,zG,rfl,OU,G.cls,G.a3,(by rw [<-xj,qA,<-n8];show 3 < 1000;decide),?_⟩;generalize Bh:dN "begin_table" (.ref x) zG=Bo;have S08:=UP (fy:=Bo) OU S07;have WT:=OE (fy:=Bo) OU er7;have ZN:=OE (fy:=Bo) OU es7;have QK:bj K (upd H7 g (.ins Cg gx Bo)) rs aa:=Nw.keep λ_ _ z=>gZ OU z;have t8:xQ T1 T2 T3 (upd H7 g (.ins Cg gx Bo)):=t7.E7 OU;have Ta:upd H7 g (.ins Cg gx Bo) g=some (.ins Cg gx Bo):=ae;have B8:uB K C (upd H6 g (.ins Cg gx Bo)) (upd H7 g (.ins Cg gx Bo)) x e d bg kE bo ps cP:=S7.E7 Rr (λz=>by rw [z,Rr] at hx;cases hx);generalize upd H7 g (.ins Cg gx Bo)=H8 at S08 WT ZN QK t8 Ta B8;have Vi:Bo.lookup ("rules":Str)=some (.ref R2):=by rw [<-Bh,<-xj,qA,<-n8];rfl
 have lb8:Bo.lookup ("begin_table":Str)=some (.ref x):=by rw [<-Bh,<-xj,qA,<-n8];rfl
 refine⟨_,rfl,g,Cg,gx,Bo,_,rfl,Ta,G.cls,G.a1,Vi,_,rfl,g,Cg,gx,Bo,_,rfl,Ta,G.cls,G.a3,lb8,λy dy hy hdy ndy=>?_⟩;have sy:aE H8 (upd (upd H8 dy (.own y)) y (.ins C3 dy [])):=(ah hdy _).trans (ah (by rw [aj ndy.symm];exact hy) _);have Nh:=beg.len ∅ h8;refine⟨H8,_,y,dy,R2,x,e,d,bg,rs,aa,kE,bo,ps,cP,rfl,sy,hy,ae,aF.of WT,QK,bN,h8,Ng,B8,emp,Nh,t8.t1,t8.t3,t8.Ip,λH9 Ui Ud t39=>⟨rfl,?_⟩⟩;have Ni:=Kp.of2 Ui t8.t1 t8.t3;have Rq:=Ni _ _ Ta (λ_ z=>by cases z);have er9:=Ni.lst WT;have es9:=Ni.lst ZN;have t9:xQ T1 T2 T3 H9:=⟨Ud,Tab.s2 t8.t2 Ui t8.t1 t8.t3 t8.JQ.symm t8.Io,t39,t8.JQ,t8.Ip,t8.Io⟩;have S09:ou T1 T2 T3 H0 H9:=λc o n1 n2 n3 hc=>Ui _ _ n1 n3 (S08 c o n1 n2 n3 hc);refine⟨_,rfl,g,Cg,gx,Bo,rfl,Rq,G.cls,G.a5,(by rw [<-Bh,<-xj,qA,<-n8];show 4 < 1000;decide),?_⟩;exact(q _ (UP Rq S09) (t9.E7 Rq) gl gg xK sel jg kY seg).1 x hv ⟨gx,_,R2,S2,ae,by rw [<-Bh,<-xj,qA,<-n8];rfl,by rw [<-Bh,<-xj,qA,<-n8];rfl,by rw [<-Bh,<-xj,qA,<-n8];rfl,by rw [<-Bh,<-xj,qA,<-n8];rfl,OE Rq er9,OE Rq es9,s0.free CG,fS2⟩
end
end eZ
namespace PySem
open Sem (wp)
open PySem.AutoSeq1 (wpAny_loadPart')
def kq (l:Addr)(items:z0k) (n:Nat)(xO:z0l)(sl:z0a)(t:Tok) :
  Meets (Builtin.«enumerate.__new__» ⟨[.type "enumerate",.ref l],[("start",.int 1 t)]⟩) (λ_ R s=>s.heap.get? l=some { cls:=.type "list",dict:=xO,data:=.seq items n,slots:=sl } /\
   R (.ok (.ret (.ref (s.heap.push 302).objs.size)))
    { s with heap:=(s.heap.push 302).push { cls:=.type "enumerate",data:=.fields #[.none,.bool false,197,rawInt 1,.none,.none] } }) :=
 .of_wp λprog w A R s h=>by
  obtain⟨hp,g,d,tk,os⟩:=s;obtain⟨hl,h⟩:=h;have Nv:=sub_enumerate;have hL:Heap.IsList (Shared.heap ⟨hp,g,d,tk,os⟩) l items:=⟨_,hl,rfl,n,rfl⟩
  wp_walk using pZ hl
  refine wpAny_stack_any λst=>aK ?_
  split
  .rename_i c _ _ _ _ _
   cases (c == Value.type "enumerate")
   .wp_walk using pZ hl,jV hL
    exact⟨_,rfl,h⟩
   wp_walk using pZ hl,jV hL
   exact⟨_,rfl,h⟩
  wp_walk using pZ hl,jV hL
  exact⟨_,rfl,h⟩
section
variable {prog:Program}{w:World}{A:Around}{E:z0b}{s:Shared}
def mh {T newId:String}{self:Value}{rest:z0m}(hl:typeLookup (.type T) "__init__"=pure (some (.builtin "object.__init__")))
  (hm:Bind.madeBy (.type T)=pure (some newId))(qS:(some newId != some "object.__new__")=true) :
  Meets (Builtin.«object.__init__» ⟨self::rest,kw⟩) (λ_ R s=>s.TypeIs self T/\R (.ok (.ret .none)) s):=by
 refine Meets.of_wp λprog w A R s hs=>?_;obtain⟨hT,hq⟩:=hs;cases rest with
 | nil =>
  cases kw with
  | nil=>exact aK ⟨_,rfl,hq⟩
  | cons a rest =>
   repeat (any_goals (first | assumption | wp_step))
   exact⟨_,rfl,hq⟩
 | cons a rest =>
  repeat (any_goals (first | assumption | wp_step))
  exact⟨_,rfl,hq⟩
def uz {T newId:String}{S:Spec}(ft:TypeCalled T newId "object.__init__")
  (qS:(some newId != some "object.__new__")=true)(hct:checkTypeCall T ⟨args,kw⟩=pure ())(hcn:checkBuiltinCall newId ⟨.type T::args,kw⟩=pure ())
  (bw:∀obj,argsOk "object.__init__" ⟨obj::args,kw⟩)(NZ:entryFor table newId=some Bn)(g:Meets (Bn ⟨.type T::args,kw⟩) S)
  (h:S A.in1 (wants (λobj s₁=>s₁.TypeIs obj T/\Q obj s₁) E) s):wpAny 147 A (call (.type T) args kw) Q E s:=by
 obtain⟨c,tl,aaj⟩:=ft.mro;have Ze:=ft.made;have Nv:=ft.sub;refine fC (codeAny_of_tree ?_);show wpAny _ _ (callAny (.type T) _) _ _ _;refine aK ⟨Code.quiet_builtin _ nofun,oH F.entry_type_call ?_⟩;rw [Around.under_plain (weight_type_call_type T args kw) (units_type_call_type T args kw)];have h1:=ft.notType;have h2:=ft.canCreate
 repeat (any_goals (first | assumption | wp_step))
 refine iY (pX ft.plain NZ (wpAny_of_eq hcn (g prog w A.in1 _ s h))) λr s₁ hr=>?_;cases r with
 | error e=>exact hr
 | ok fl =>
  cases fl with
  | ret obj =>
   have hT:=hr.1;have hli:=ft.init.lookup;have hbi:=ft.init.bind obj
   repeat (any_goals (first | assumption | wp_step))
   refine iY (pX ft.init.plain F.entry_object_init (ft.init.check _ _ _ _ _ _ _ _ hT (bw obj) (mh ft.init.lookup ft.made qS prog w A.in1 (wants (λr s₂=>r=.none/\Q obj s₂) E) s₁ ⟨hT,rfl,hr.2⟩))) λr₂ s₂ VQ=>?_;cases r₂ with
   | error e=>exact VQ
   | ok fl₂ =>
    cases fl₂ with
    | ret r =>
     obtain⟨rfl,hq⟩:=VQ
     repeat (any_goals (first | assumption | wp_step))
    | _=>exact VQ.elim
  | _=>exact hr.elim
def tN {T:String}{args:List (Bool×Sem Value)}{keywords:List (Option Str×Sem Value)}
  (sN:args.any 56=false)(hkw:keywords.any (·.1.isNone)=false)
  (h:wpAny M A (evalArgs (.type T) true args keywords) (λa s₁=>wpAny M A (call (.type T) (first++a.pos) a.kw) Q E s₁) E s) :
  wpAny M A (callWith pos (.type T) first args keywords) Q E s:=by
 unfold callWith;refine ax (jI (cH h (λa s₁ h₁=>ax (wpAny_standAt ?_)) λ_ _ x=>x));simp only [sN,hkw,Bool.or_false];refine ax (aK ?_);exact ax (cH h₁ (λr s₂ hr=>ax (jI (wpAny_point (aK hr)))) λ_ _ x=>x)
def rG (a:Value)(t:Tok):checkTypeCall "enumerate" ⟨[a],[("start",.int 1 t)]⟩=pure ():=by kernel_rfl
def uk (a:Value)(t:Tok):checkBuiltinCall "enumerate.__new__" ⟨[.type "enumerate",a],[("start",.int 1 t)]⟩=pure ():=by kernel_rfl
def sM (obj a:Value)(t:Tok):argsOk "object.__init__" ⟨[obj,a],[("start",.int 1 t)]⟩:=by kernel_rfl
def BD {t:Tok}(hL:s.heap.IsList l items)
  (h:∀h',IsEnum h' 190 s.heap.objs.size 1 .none->h'.IsListIter s.heap.objs.size l 0->h'.objs.size=s.heap.objs.size+2 ->
   (∀b o,178->h'.get? b=111)->Q (.ref 190) 216) :
  wpAny 147 A (call (.type "enumerate") [.ref l] [("start",.int 1 t)]) Q E s:=by
 obtain⟨⟨c,xO,dt,sl⟩,hl,hc,n,hd⟩:=hL;replace hc:c=.type "list" := hc;replace hd:dt=.seq items n:=hd;subst hc hd;refine uz F.called_enumerate nofun (rG _ _) (uk _ _) (λobj=>sM obj _ _) F.entry_enumerate_new
  (kq l items n xO sl t) ⟨hl,?_⟩
 have hz:(s.heap.push 302).objs.size=179:=i5 ..;show _/\_;rw [hz];have he:IsEnum ((s.heap.push 302).push
   { cls:=.type "enumerate",data:=.fields #[.none,.bool false,197,rawInt 1,.none,.none] }) 190 s.heap.objs.size 1 .none:=by
  have:=cu (s.heap.push 302)
   (o:={ cls:=.type "enumerate",data:=.fields #[.none,.bool false,197,rawInt 1,.none,.none] }) rfl
  rw [hz] at this;exact this
 exact⟨⟨_,he,rfl⟩,h _ he ⟨_,a_ _ (cu _ rfl),rfl,rfl⟩ (by rw [i5,hz]) λb o x=>a_ _ (a_ _ x)⟩
end
def Draws.list1 {w:World}{A:Around}(hh:A.handled=none)(it l:Addr)(qS:l≠it)(items:z0k) :
  Draws prog w A it [it,l] (items.size+1) (λi v=>∃j,i=j+1/\items[j]?=some v) (λi h=>∃j,i=j+1/\h.IsListIter it l j/\h.IsList l items) :=
 have D:=Draws.list (prog:=prog) (w:=w) hh it l qS items
 ⟨λ_ _ ⟨j,_,st⟩=>D.live j _ st,λ_ _ _ ⟨j,e,st⟩ hk=>⟨j,e,D.frame j _ _ st hk⟩,(λi s Q E hi ⟨j,e,st⟩ hQ=>by
   subst e;exact D.item j s Q E ∅ st λx h' tk hp hs hk=>hQ x h' tk ⟨j,rfl,hp⟩ ⟨j+1,rfl,hs⟩ hk),
  (λs Q E ⟨j,e,st⟩ hE=>by
   have e':j=items.size:=by omega
   subst e';exact D.done s Q E st hE)⟩
end PySem
namespace L2
open PySem PySem.Spec PyProof.Rows
def Ic (K:aV)(a:Addr):It :=
 ⟨λi H=>∃xs x,aF K H a xs/\xs[i]?=some x,λi H x H'=>∃t y,x=.ref t/\H t=none/\H'=upd H t (.tup [.int ((i+1:Nat):Int),y])/\∀xs,aF K H a xs->xs[i]?=some y,λi H=>∃xs,aF K H a xs/\xs.length<=i⟩
def zZ {w:World}{K:aV}{k:Nat}(a e it:Addr)(Kd:e≠it) :
  Turn P w K (.Tuple elts k wc) (Ic K a) [e,it] e (λi h=>(∃old,IsEnum h e it ((i+1:Nat):Int) old)/\h.IsListIter it a i) where
 mem:=108
 obj:=λi h st b hb=>by
  obtain⟨⟨old,he⟩,o,e1,c,d⟩:=st;rcases aS.mp hb with rfl | hb
  .exact⟨_,he,λv z=>by cases z⟩
  obtain rfl:b=it:=215
  exact⟨o,e1,λv z=>by rw [d] at z;cases z⟩
 keep:=λi h h' st k=>⟨⟨st.1.choose,k e 125 _ st.1.choose_spec⟩,st.2.at λo q=>k it 125 o q⟩
 item:=by
  intro X hP hw hK hc i ai s σ H E I hf st hg;subst hP hw hK;obtain⟨xs,x,hq,hx⟩:=hg;obtain⟨aN,rv,p,hz⟩:=I.list hq;obtain⟨u,hu,ru⟩:=rv.get hx;obtain⟨⟨old,he⟩,hit⟩:=st;have iM:i < aN.length:=(bM.mp hu).1;have YR:a≠it:=λz=>by
   obtain⟨o,h1,h2,_⟩:=p.isList;obtain⟨o2,h3,h4,_⟩:=hit;rw [z,h3] at h1;cases h1;rw [h4] at h2;revert h2
   decide
  have La:e≠a:=λz=>by
   obtain⟨o,h1,h2,_⟩:=p.isList;have Ke:=he;unfold IsEnum at Ke;rw [z,h1] at Ke;cases Ke;revert h2;show ¬(Value.type "enumerate"=Value.type "list")
   decide
  refine wpAny_pyNext_enum_itemD (Draws.list1 (show X.A.in1.handled=none from I.ok.hd hc) it a YR aN.toArray) he ⟨i,rfl,hit,p.isList⟩ (by simp;omega) Kd (by simp [Kd,La]) λu' h1 tk hu' ho VI hT hsz hk=>?_;obtain⟨j,ej,VF⟩:=hu';have eji:j=i:=by omega
  subst eji;have euu:u'=u:=by
   have e2:aN[j]?=some u':=by simpa using VF
   rw [hu] at e2;cases e2;rfl
  subst euu;obtain⟨j',ej',Hc,_⟩:=VI;have WW:j'=j+1:=by omega
  subst WW;refine⟨_,rfl,zN ho λh2 Q0 sb=>?_⟩;have ne:s.heap.objs.size≠e:=iw (aP he);have kk:∀b o,b≠e->b≠it->178->h2.get? b=111:=λb o n1 n2 q=>(sb.2 b n1).trans (hk b o n1 n2 q);have T2:h2.get? s.heap.objs.size=some { cls:=185,data:=.seq #[.int ((j+1:Nat):Int) tk,u'] }:=(sb.2 _ ne).trans hT;have fe:=hf e 125;have fi:=hf it 125;have fT:H s.heap.objs.size=none:=I.bw.fresh (aG _);have tr:∀b v,H b=some v->b≠e/\b≠it:=λb v q=>⟨λz=>(by rw [z,fe.1] at q;cases q),λz=>(by rw [z,fi.1] at q;cases q)⟩;have nc:∀b,b∉[e,it]->b≠e/\b≠it:=λb z=>⟨λq=>z (by simp [q]),λq=>z (by simp [q])⟩;have lt:∀b o,178->b≠s.heap.objs.size:=λb o q=>bp (aP q);have I2:Inv X ai σ (upd H s.heap.objs.size (.tup [.int ((j+1:Nat):Int),x])) { s with heap:=h2,toks:=tk+1 }:=by
   refine I.call (g':=s.gens) (t':=tk+1) (d':=s.drawn) (ch:=[e,it]) ⟨λb o q _ _ c=>kk b o (nc b c).1 (nc b c).2 q,λb o q _ _ c=>⟨o.slots,kk b o (nc b c).1 (nc b c).2 q⟩,
    λb o q n _=>by rw [aj (lt b o q)];exact n,λb o q c=>⟨o,kk b o (nc b c).1 (nc b c).2 q⟩,λb ys q=>by rw [aj (aq q fT)];exact q,λb o v q=>by rw [aj (aq q fT)];exact q,
    λb ps q=>⟨#[],by rw [aj (aq q fT),q];simp⟩⟩ (λb v q=>?_) I.bare (λb hb=>?_)
   .by_cases hb:b=s.heap.objs.size
    .subst hb;rw [ae] at q;cases q;exact⟨by show 2<=sizeLine;decide,[.int ((j+1:Nat):Int) tk,u'],.cons 159 (.cons ru .nil),_,T2,rfl,_,rfl⟩
    rw [aj hb] at q;refine(I.bw b v q).gH (λc o iK z=>?_) (λc q'=>by rw [aj (aq q' fT)];exact q') λc ys q'=>by rw [aj (aq q' fT)];exact q'
    rcases iK with rfl | iK
    .exact kk c o (tr c _ q).1 (tr c _ q).2 z
    exact kk c o (tr c _ iK).1 (tr c _ iK).2 z
   rcases aS.mp hb with rfl | hb
   .exact⟨fe.2.2.2.1,fe.2.1,fe.2.2.2.2.1,fe.2.2.2.2.2⟩
   obtain rfl:b=it:=215
   exact⟨fi.2.2.2.1,fi.2.1,fi.2.2.2.2.1,fi.2.2.2.2.2⟩
  refine⟨197,_,I2,rfl,⟨_,x,rfl,fT,rfl,λys hy=>by rw [I.je hy hq];exact hx⟩,⟨⟨_,Q0⟩,Hc.at λo q=>(sb.2 it Kd.symm).trans q⟩,λb hb=>?_⟩;have sU:H b=none/\∃o,178:=by
   rcases aS.mp hb with rfl | hb
   .exact⟨fe.1,_,he⟩
   obtain rfl:b=it:=215
   obtain⟨o,q,_⟩:=hit;exact⟨fi.1,o,q⟩
  obtain⟨n,o,q⟩:=sU;rw [aj (lt b o q)];exact n
 done:=by
  intro X hP hw hK hc i ai s σ H E I hf st hg;subst hP hw hK;obtain⟨xs,hq,hx⟩:=hg;obtain⟨aN,rv,p,hz⟩:=I.list hq;obtain⟨⟨old,he⟩,hit⟩:=st;obtain⟨f0,f1,f2,f3,f4,f5⟩:=hf it 125;have hl:=rv.length;have YR:a≠it:=λz=>by
   obtain⟨o,h1,h2,_⟩:=p.isList;obtain⟨o2,h3,h4,_⟩:=hit;rw [z,h3] at h1;cases h1;rw [h4] at h2;revert h2
   decide
  have D:Draws X.prog X.w X.A.in1 it [it,a] 0 (λ_ _=>False) (λ_ h=>h.IsListIter it a i/\h.IsList a aN.toArray) :=
   ⟨(λ_ _ st=>let ⟨o,ho,_⟩:=st.1;⟨o,ho⟩),λ_ _ _ st hk=>⟨st.1.at λo e=>hk it 125 o e,st.2.at λo e=>hk a 125 o e⟩,λi s Q E hi st hQ=>absurd hi (rf _),λs Q E st hE=>wpAny_nextOf_list_end (show X.A.in1.handled=none from I.ok.hd hc) st.1 st.2 (by simp;omega) hE⟩
  exact wpAny_pyNext_enum_endD D he ⟨hit,p.isList⟩ 338
 self:=λ_ _ _ _ _ st h=>oK st.1.choose_spec h
def Nq (K:aV)(ta:TA):TI:=λσ H R=>ta σ H λvs H1=>Tr vs (aF K H1) λa=>R (Ic K a) H1
def F7 {X:Cx}{k:Nat}{l:Expr}{ta:TA}{p pos kp cp:Pos}(hg:Gl X "enumerate")(hm:X.mg "enumerate"=none)(ha:PA X [l] ta)
  (he:backTo pos (starEach [l] X.env)=(false,eval l X.env)::backTo pos (starEach [] X.env):=by rfl)(hp:(backTo pos (starEach [l] X.env)).any 56=false:=by rfl) :
  PI X (.Tuple elts k wc) (.Call (.Name "enumerate" p) [l] [⟨some "start",.Constant (.int 1) 0 cp,kp⟩] pos) (Nq X.K ta):=by
 intro ai s σ H R I h;refine jM (gM I hg hm pN ?_);refine tN hp rfl ?_;rw [he];refine evalArgs_kwB rfl ?_;rw [<-he];refine 269;obtain⟨vs,H1,I1,r1,q1⟩:=aW;refine kws_cons (cE (au (X:=X) ai s1 σ H1 (λv H=>v=.int 1/\H=H1) I1 ⟨rfl,rfl⟩) λv s2 aW=>?_);obtain⟨x2,H2,I2,r2,e2,e3⟩:=aW;refine kws_nil ?_;subst e2 e3;obtain⟨t,rfl⟩:=r2;obtain⟨a,xs,e,hq,q⟩:=q1;subst e;obtain⟨u,rfl,rx⟩:=r1.one;cases rx;obtain⟨aN,rv,pl,hz⟩:=I2.list hq;refine BD pl.isList λh1 he hit hsz hk=>oK he ?_;refine⟨s2.heap.objs.size+1,[s2.heap.objs.size+1,s2.heap.objs.size],_,_,_,rfl,I2.kept (t':=s2.toks) λb o e=>hk b o e,zZ a _ _ (iw (jL _)),⟨⟨_,he⟩,hit⟩,λb hb=>?_,q⟩;rcases aS.mp hb with rfl | hb
 .exact I2.kA (hJ _) (I2.bw.fresh (hJ _))
 obtain rfl:b=s2.heap.objs.size:=215
 exact I2.kA (aG _) (I2.bw.fresh (aG _))
def D0 {K:aV}{a:Addr}{xs:115}{g:TG}{tb:TS}{D:Ends}{σ:St}(Pv:Nat->148)(h0:Pv 0 σ H)(hl:∀i σ H,i<=xs.length->Pv i σ H->aF K H a xs)
  (hs:∀i x σ H t,xs[i]?=some x->Pv i σ H->H t=none->g (.ref t) σ (upd H t (.tup [.int ((i+1:Nat):Int),x])) λσ2 H2=>tb { D with nx:=Pv (i+1),ct:=Pv (i+1),bk:=D.nx } σ2 H2)(hd:∀σ H,Pv xs.length σ H->D.nx σ H) :
  ∃W:Nat->Nat->148,(∃m,W 0 m σ H)/\∀i m σ H,W i m σ H ->
   ((Ic K a).stop i H/\D.nx σ H)\/((Ic K a).go i H/\∃N:148,(∀σ' H',N σ' H'->∃m',m' < m/\W (i+1) m' σ' H')/\∀x H',(Ic K a).nu i H x H'->321):=by
 refine 341;rintro i m σ H ⟨rfl,hi,p⟩;have q:=hl i σ H hi p;by_cases iM:i < xs.length
 .refine 346;obtain⟨t,y0,rfl,ht,rfl,y⟩:=y;exact hs i y0 σ _ t (y xs q) p ht
 have e:i=xs.length:=by omega
 subst e;exact .inl ⟨⟨xs,q,aG _⟩,hd σ H p⟩
end L2
namespace eZ
open PySem L2 M11 PySem.W
abbrev Aq:Stmt:=top 49
section
def wordsOf (z:Str):z0r:=(Txt.split z ⟨#[32]⟩).filter λu=>((u.length:Int) != 0)
inductive eU:113->113->List z0r->113->113->Prop
 | nil (r s):eU r s [] r s
 | none (r s rows r' s')(t:eU r s rows r' s'):eU r s ([]::rows) r' s'
 | mark (r s z ws rows r' s')(h:(sg z).head?=some 35)(t:eU r s rows r' s'):eU r s ((z::ws)::rows) r' s'
 | row (r s z ws rows r1 s1 r' s')(h:(sg z).head?≠some 35)(o:vB r s (z::ws) r1 s1)(lr:r.length<=100000)(ls:s.length<=100000)(t:eU r1 s1 rows r' s'):eU r s ((z::ws)::rows) r' s'
theorem Fi (c:Nat):∀(l:z0t),∀p∈sp c l,p.length<=l.length
 | [],p,hp=>by rw [bD.mp hp];exact aG _
 | a::r,p,hp=>by
  have ih:=Fi c r;unfold sp at hp
  split at hp
  .rcases aS.mp hp with rfl | hp
   .exact d6 _
   exact Nat.le_succ_of_le (ih p hp)
  obtain⟨h,t,e⟩:=KW c r;rw [e] at hp ih;rcases aS.mp hp with rfl | hp
  .have:=ih h cx;simp at this ⊢;exact this
  exact Nat.le_succ_of_le (ih p (cw _ hp))
def split_len {c:Nat}{z p:Str}(h:p∈Txt.split z ⟨#[c]⟩):p.length<=z.length:=by
 have h2:sg p∈sp c (sg z):=by rw [<-rL];exact i7 h
 have:=Fi c _ _ h2;unfold sg at this;simpa [Str.length] using this
def x9 (K:aV)(Cg T1 T2 T3 CV:Addr):Sp:=λvs H Q E=>∃(z:Str)(aa kY:113)(rk:Str->Nat)(b:Str->Int),vs=[.str z]/\z.length<=90000/\eU [] [] ((Txt.split z ⟨#[10]⟩).map wordsOf) aa kY /\
 aa.length < 64/\250/\aa≠[]/\(∀ru∈aa,∀p∈ru.2,p.length<=sizeLine/\again p=false)/\(∀h∈hd aa,tU h)/\kY.length<=1000/\(∀ru∈kY,ru.2.length<=8)/\(kY.flatMap (·.2)).Nodup/\C0 aa rk b/\xQ T1 T2 T3 H /\
 ∀(H0 H':Hp),aE H H0->ou T1 T2 T3 H0 H'->xQ T1 T2 T3 H'->∀gl gg,bE M11.bl aa (jP aa) gl->bS M11.bl aa gl->GJ aa b gg->bE M11.bg aa (λ_=>none) gg->bS M11.bg aa gg ->
  (∀(g bt:Addr)(rs ss:z0o),(hd aa).filter (fP gl gg)=[]->bj K H0 rs aa->X5 H0 H' Cg g rs ss bt->Q (.ref g) H') /\
  (∀m dx,(hd aa).filter (fP gl gg)≠[]->H' dx=some (.xd [("names",.ref m)])->H' m=some (.lst (((hd aa).filter (fP gl gg)).map V.str))->E (.ref CV) (some dx) H')
def kM:aJ ["text","rules","strengths","number","row","words"] ["text"] (av Aq):=182
def Du (F:iu K "read_grammar" "read_grammar" Aq f fd)(T:Txt mg)(GR:aL P w K mg base 3 "read_row" ["words","rules","strengths"] (uN K))(GA:aL P w K mg base 2 "with_added_rules" ["rules"] (Ci K))
  (MG:Mk K Cg fG)(FG:bF P w K mg base (jR P w) 7 fG WL ["self","rules","strengths"] (rO K Cg T1 T2 T3 CV))(B0:Binds K WL ["self","rules","strengths"] [])(mG:mg "Grammar"=some (.ref Cg)):bF P w K mg base (jR P w) 9 f fd ["text"] (x9 K Cg T1 T2 T3 CV):=by
 refine Sg F kM 186 195
 .obtain⟨z,aa,kY,rk,b,rfl,_⟩:=h;rfl
 obtain⟨z,aa,kY,rk,b,rfl,hz,tok,WH,h8,qS,hag,QC,lI,QG,Ls,gd,hT,q⟩:=h;refine⟨_,ao (aD (i:=1) kM.nd rfl 116 (bu ak))
  (ao (aD (i:=2) kM.nd rfl 116 (bu ak))
  (ao (b_ PassesOwn.leaving rfl (F7 rfl T.IB (af (dY p5 PySem.F.slot_str_split PySem.F.type_str_split yA (pv 0) (af gk ak)) ak)) (e_ rfl (aI (ay (i:=3) kM.nd rfl 116) (aI (ay (i:=4) kM.nd rfl 116) cy)))
   (ao (ig (iy:=5) ["word"] [] kM.nd rfl rfl rfl (bq (dY p5 PySem.F.slot_str_split PySem.F.type_str_split yA (pv 4) (af gk ak))) (bH rfl rfl) nofun rfl nofun
    (λ_ _ _ _ _=>ay (i:=0) (show (["word"]:z0r).Nodup by decide +kernel) rfl 116) (λ_ _ _ _ _=>gR (uT K (pv 0) (λ_=>rfl))) (λ_ _ _ _ _=>pv 0))
   (ar (cR (PW.pt (gK (iD (pv 5) (λ_=>rfl)) (gK (md (fE (dY p5 PySem.F.slot_str_startswith PySem.F.type_str_startswith DA (aO aQ (pv 5) au 144) (af gk ak))))
    (gO (md (fE (bU (GR.mono (by decide:3<=8)) hr rfl (af (pv 5) (af (pv 1) (af (pv 2) ak)))))))))) (ar gh) bL))))
  (ar (br (wN MG FG hr rfl mG B0 .nil (K8 λ_ _ _ z=>z) (af (bU (GA.mono (by decide:2<=8)) hr rfl (af (pv 1) ak)) (af (pv 2) ak))))))),?_⟩
 refine⟨oU,λR Zy=>⟨oU,λS Rf=>?_⟩⟩;have M_:R≠S:=λe=>by rw [<-e,ae] at Rf;cases Rf
 have fS:H S=none:=by rw [aj M_.symm] at Rf;exact Rf
 have s1:aE H (upd (upd H R 128) S 128):=(ah Zy _).trans (ah Rf _);have e1:upd (upd H R 128) S 128 R=some 128:=by rw [aj M_,ae]
 have e2:upd (upd H R 128) S 128 S=some 128:=ae;generalize upd (upd H R 128) S 128=H1 at s1 e1 e2;have hzl:z.length+2<=sizeLine:=fits ∅;refine⟨_,rfl,rfl,z,⟨#[10]⟩,rfl,rfl,nofun,hzl,λL hL=>?_⟩;have s2:=ah hL (.lst ((Txt.split z ⟨#[10]⟩).map V.str));have e3:upd H1 L (.lst ((Txt.split z ⟨#[10]⟩).map V.str)) L=some (.lst ((Txt.split z ⟨#[10]⟩).map V.str)):=ae;have nLR:L≠R:=λe=>by rw [e,e1] at hL;cases hL
 have nLS:L≠S:=λe=>by rw [e,e2] at hL;cases hL
 generalize upd H1 L (.lst ((Txt.split z ⟨#[10]⟩).map V.str))=H2 at s2 e3;generalize QI:Txt.split z ⟨#[10]⟩=rows at e3 tok;refine⟨L,_,rfl,aF.of e3,D0 (xs:=rows.map V.str) (λi σ H3=>∃(rs ss:z0o)(ru st:113)(y3 y4 y5:Option V),σ=[some (.str z),bc R,bc S,y3,y4,y5]/\HW R S H2 H3/\H3 R=some 235/\bj K H3 rs ru/\H3 S=some (.lst (ss.map V.ref))/\bj K H3 ss st/\eU ru st ((rows.drop i).map wordsOf) aa kY)
  ⟨[],[],[],[],none,none,none,rfl,λ_ _ _ _ h=>h,s2 _ _ e1,.nil,s2 _ _ e2,.nil,tok⟩ ?_ ?_ ?_⟩
 .rintro i σ H3 _ ⟨rs,ss,ru,st,y3,y4,y5,_,sc,_⟩;exact aF.of (sc _ _ nLR nLS e3)
 .rintro i x σ H3 t ex ⟨rs,ss,ru,st,y3,y4,y5,rfl,sc,hR,cT,hS,yM,tk⟩ ht;rw [bB] at ex;obtain⟨row,er,rfl⟩:=b9.mp ex;obtain⟨hi,NX⟩:=bM.mp er;have aai:row.length<=90000:=cI (split_len (by rw [QI];exact cf er)) hz;rw [v8 hi,NX,bC] at tk;refine⟨t,_,rfl,aZ.of ae,rfl,_,_,rfl,_,_,rfl,rfl,?_⟩;have s3:=ah ht (.tup [.int ((i+1:Nat):Int),.str row]);generalize upd H3 t (.tup [.int ((i+1:Nat):Int),.str row])=H4 at s3;refine⟨_,rfl,rfl,row,⟨#[32]⟩,rfl,rfl,nofun,fits ∅,λL2 ON=>?_⟩;have s4:=s3.trans (ah ON (.lst ((Txt.split row ⟨#[32]⟩).map V.str)));have e4:upd H4 L2 (.lst ((Txt.split row ⟨#[32]⟩).map V.str)) L2=some (.lst ((Txt.split row ⟨#[32]⟩).map V.str)):=ae;generalize upd H4 L2 (.lst ((Txt.split row ⟨#[32]⟩).map V.str))=H5 at s4 e4;have YY:=PyProof.Rows.split_le row ⟨#[32]⟩;refine⟨L2,rfl,⟨_,aF.of e4⟩,λD hD=>bX (tif:=λσ H Q=>gw 0 σ H λx H'=>∃k,EA K x H' k/\Q k H') (xs:=(Txt.split row ⟨#[32]⟩).map V.str)
   (λj ys σ2 H6=>ys=(((Txt.split row ⟨#[32]⟩).take j).filter λu=>((u.length:Int) != 0)).map V.str/\(∃y0,σ2=[y0])/\aE H5 H6/\H6 D=some (.lst ys))
   ⟨rfl,⟨none,rfl⟩,ah hD _,ae⟩ (λj ys σ2 H6 _ h=>h.2.2.1.seq (aF.of e4)) (λj x ys σ2 H6 ex h=>?_) (λys σ2 H6 h=>?_)⟩
  .obtain⟨rfl,⟨y0,rfl⟩,sm,hd⟩:=h;rw [bB] at ex;obtain⟨u,eu,rfl⟩:=b9.mp ex;have hul:=split_len (cf eu);refine goN ?_;refine⟨_,rfl,((u.length:Int) != 0),⟨fits ∅,rfl⟩,?_⟩;have et:(((Txt.split row ⟨#[32]⟩).take (j+1)).filter λu=>((u.length:Int) != 0))=(((Txt.split row ⟨#[32]⟩).take j).filter λu=>((u.length:Int) != 0))++(if ((u.length:Int) != 0)=true then [u] else []):=by
    rw [cM,eu,i6]
    congr 1
    simp only [Option.toList_some,m_,List.filter_nil]
   refine cC (λc=>?_) (λc=>?_)
   .rw [aA c] at et;refine⟨_,rfl,hd,bx ?_,by rw [et,bA];rfl,159,λb o hb=>?_,ae⟩
    .rw [aC];have l1:=i8 (λu:Str=>((u.length:Int) != 0)) ((Txt.split row ⟨#[32]⟩).take j);have l2:=List.length_take_le' j (Txt.split row ⟨#[32]⟩);omega
    rw [aj (λe=>by rw [e,hD] at hb;cases hb)];exact sm b o hb
   rw [az c,eE] at et;exact⟨by rw [et],159,sm,hd⟩
  obtain⟨rfl,_,sm,hd⟩:=h;rw [aC,dI] at hd;have hd:H6 D=some (.lst ((wordsOf row).map V.str)):=hd;have s6:=s4.trans sm;have lw:(wordsOf row).length<=100000:=by
   have l1:=i8 (λu:Str=>((u.length:Int) != 0)) (Txt.split row ⟨#[32]⟩);have:(wordsOf row).length<=(Txt.split row ⟨#[32]⟩).length:=l1;omega
  have zw:∀u∈wordsOf row,u.length<=sizeLine:=λu hu=>by
   have:=split_len (gU.mp hu).1;exact fits ∅
  have Ug:HW R S H2 H6:=λb o h1 h2 h3=>s6 _ _ (sc b o h1 h2 h3);have lr:=bT cT;have ls:=bT yM;generalize wordsOf row=W at tk hd lw zw;cases tk with
  | none _ _ _ _ _ tk =>
   refine⟨_,rfl,false,.inl ⟨[],aF.of hd,rfl⟩,?_⟩;refine gy ?_;refine gy ?_;exact⟨rs,ss,ru,st,_,_,_,rfl,Ug,s6 _ _ hR,cT.same s6,s6 _ _ hS,yM.same s6,tk⟩
  | mark _ _ u ws _ _ _ h tk =>
   refine⟨_,rfl,true,.inl ⟨_,aF.of hd,rfl⟩,?_⟩;refine lB ?_;refine⟨_,rfl,D,_,_,_,rfl,rfl,aF.of hd,qr _ _,rfl,u,⟨#[35]⟩,rfl,rfl,true,by rw [uK,h];rfl,?_⟩;refine gy ?_;refine gy ?_;exact⟨rs,ss,ru,st,_,_,_,rfl,Ug,s6 _ _ hR,cT.same s6,s6 _ _ hS,yM.same s6,tk⟩
  | row _ _ u ws _ r1 s1 _ _ h ok l1 l2 tk =>
   refine⟨_,rfl,true,.inl ⟨_,aF.of hd,rfl⟩,?_⟩;refine lB ?_;refine⟨_,rfl,D,_,_,_,rfl,rfl,aF.of hd,qr _ _,rfl,u,⟨#[35]⟩,rfl,rfl,false,by rw [uK,beq_false_of_ne h],?_⟩;refine lB ?_;refine⟨_,rfl,_,rfl,_,rfl,D,R,S,u::ws,rs,ss,ru,st,r1,s1,rfl,aF.of hd,lw,zw,s6 _ _ hR,cT.same s6,∅,s6 _ _ hS,yM.same s6,∅,M_,ok,λJg R8 H7 sc7 hR7 Nw hS7 VL=>⟨true,rfl,?_⟩⟩;refine gy ?_;exact⟨Jg,R8,r1,s1,_,_,_,rfl,λb o h1 h2 h3=>sc7 b o h1 h2 (Ug b o h1 h2 h3),hR7,Nw,hS7,VL,tk⟩
 rintro σ H3 ⟨rs,ss,ru,st,y3,y4,y5,rfl,sc,hR,cT,hS,yM,tk⟩;rw [aC,List.drop_length] at tk;cases tk;have lr:=bT cT;have sH:aE H H3:=λb o hb=>sc b o (aq hb Zy) (aq hb fS) (s2 _ _ (s1 _ _ hb));refine⟨_,rfl,R,rs,aa,rfl,aF.of hR,cT,∅,hag,λE0 H4 s4 e4 f4=>⟨_,rfl,λg gx hg hgx ngx=>?_⟩⟩;have s5:aE H4 (upd (upd H4 gx (.own g)) g (.ins Cg gx [])):=(ah hgx _).trans (ah (by rw [aj ngx.symm];exact hg) _);refine⟨H4,g,gx,E0,.ref S,rs,ss,aa,kY,rk,b,rfl,s5,hg,ae,aF.of e4,cT.same s4,WH,h8,qS,QC,.inr ⟨S,rfl,aF.of (s4 _ _ hS),yM.same s4⟩,lI,QG,Ls,gd,hT.same (sH.trans s4),λH5 Yt Lq gl gg xK sel jg Ad seg=>⟨λbt hv gr=>⟨rfl,?_⟩,λm dx a Rv em=>(q H4 H5 (sH.trans s4) Yt Lq gl gg xK sel jg Ad seg).2 m dx a Rv em⟩⟩;exact(q H4 H5 (sH.trans s4) Yt Lq gl gg xK sel jg Ad seg).1 g bt rs ss hv (cT.same s4) gr
end
open PySem L2 M11
abbrev FI:Stmt:=top 57
abbrev wC:Stmt:=top 58
abbrev Fz:Stmt:=top 59
section
def Fq (K:aV):Sp:=λvs H Q _=>∃(a:Addr)(ns:z0s) (k:Nat),vs=[.ref a,.int (k:Int)]/\aF K H a (ns.map V.int)/\ns.length<=1000/\∀n:Int,Q (.int n) H
def Mx:aJ ["_law_script","_law_k"] ["_law_script","_law_k"] (av FI):=182
def JJ (F:iu K "_law_cell_at" "_law_cell_at" FI f fd)(T:Txt mg):bF P w K mg base fN 1 f fd ["_law_script","_law_k"] (Fq K):=by
 refine F.ok Mx 186 195
 .obtain⟨a,ns,k,rfl,_⟩:=h;rfl
 obtain⟨a,ns,k,rfl,hS,hn,q⟩:=h;refine⟨_,ao (cR (bf qi (pv 1) (aM cA rfl T.len h_ (af (pv 0) ak)) (bz _)) (ar (br (aO aQ (pv 0) (pv 1) 144))) bL) (ar (br au)),?_⟩;refine⟨_,rfl,_,rfl,a,_,rfl,.inl hS,_,_,rfl,rfl,_,rfl,?_⟩;refine cC (λcc=>?_) (λ_=>q 0);have lt:=dJ cc;rw [aC] at lt;have lt':k < ns.length:=by omega
 refine⟨_,rfl,_,rfl,a,_,_,.int ns[k],rfl,rfl,hS,cS (by rw [bB,cN lt'];rfl),q _⟩
def x8:Sp:=λvs H Q _=>∃(c:Int) (m:Nat),vs=[.int c,.int (m:Int)]/\m<=100/\∀D ns H',H D=none->aE H H'->H' D=some (.lst (List.map V.int ns))->ns.length=m->(∀n∈ns,(0:Int)<=n/\n < 4294967311)->Q (.ref D) H'
def ke:aJ ["_law_cell","_law_many","_law_found","_law_number","_law_k"] ["_law_cell","_law_many"] (av wC):=182
def Xk (xs:115):fM xs (some 1) none=xs.drop 1:=by
 have e1:HT.kZ xs.length 0 (some 1)=min 1 xs.length:=HT.nN _ _ 1;have e2:HT.kZ xs.length xs.length none=xs.length:=rfl;unfold fM;rw [e1,e2];cases xs with
 | nil=>rfl
 | cons x r=>simp
def Dt (F:iu K "_law_stream" "_law_stream" wC f fd)(T:Txt mg):bF P w K mg base fN 1 f fd ["_law_cell","_law_many"] x8:=by
 refine F.ok ke 186 195
 .obtain⟨c,m,rfl,_⟩:=h;rfl
 obtain⟨c,m,rfl,hm,q⟩:=h;refine⟨_,ao (aD (i:=2) ke.nd rfl 116 (bu ak))
  (ao (aD (i:=3) ke.nd rfl 116 (aU dQ (aU eQ (pv 0) au) au))
  (ao (b_ cD rfl (kQ rfl T.Im (af (aU dQ (pv 1) au) ak)) (ay (i:=4) ke.nd rfl 116)
   (ao (aD (i:=3) ke.nd rfl 116 (aU eQ (aU dQ (aU dQ (aU AL (pv 3) (pv 3)) (aU AL au (pv 3))) (pv 4)) au))
   (ar (cv (dY fY gE gF bR (pv 2) (af (pv 3) ak))))))
  (ar (br (dO f_ (pv 2) (dH au) gQ))))),?_⟩
 refine⟨oU,λl hl=>?_⟩;refine⟨_,rfl,_,_,rfl,rfl,(by show (0:Int) < 4294967311;decide),_,_,rfl,rfl,?_⟩;refine⟨_,rfl,_,_,rfl,rfl,_,rfl,∅,∅,?_⟩;have e0:((m:Int)+1).toNat=m+1:=by omega
 rw [e0];have hx0:(0:Int)<=c % 4294967311+48271/\c % 4294967311+48271 < 8589934592:=by omega
 refine jk (n:=m+1) (λi σ H2=>∃(x:Int)(ns:z0s)(kk:Option V),σ=[some (.int c),some (.int (m:Int)),bc l,some (.int x),kk]/\H2=upd H l (.lst (ns.map V.int))/\ns.length=i/\((0:Int)<=x/\x < 8589934592)/\∀n∈ns,(0:Int)<=n/\n < 4294967311)
  ⟨c % 4294967311+48271,[],none,rfl,rfl,rfl,hx0,108⟩ ?_ ?_
 .rintro i σ H2 hi ⟨x,ns,kk,rfl,rfl,mH,hx,qR⟩;refine⟨_,rfl,_,rfl,_,_,rfl,rfl,.inl ⟨∅,∅⟩,_,rfl,_,_,rfl,rfl,.inl ⟨nofun,nofun⟩,_,_,rfl,rfl,_,rfl,_,_,rfl,rfl,_,_,rfl,rfl,(by show (0:Int) < 4294967311;decide),?_⟩;have hy:(0:Int)<=(x * x+69621 * x+(0+(i:Int))) % 4294967311/\(x * x+69621 * x+(0+(i:Int))) % 4294967311 < 4294967311:=by omega
  refine⟨_,rfl,.inl ⟨rfl,_,aF.of ae⟩,_,rfl,l,_,_,rfl,rfl,ae,210,?_⟩;refine⟨(x * x+69621 * x+(0+(i:Int))) % 4294967311,ns++[(x * x+69621 * x+(0+(i:Int))) % 4294967311],_,rfl,by rw [ie,bA];rfl,by rw [bO,mH];rfl,⟨hy.1,∅⟩,λn hn=>?_⟩;rcases cK.mp hn with h | h
  .exact qR n h
  rw [bD.mp h];exact hy
 rintro σ H2 ⟨x,ns,kk,rfl,rfl,mH,hx,qR⟩;refine⟨_,rfl,1,rfl,l,_,rfl,aF.of ae,λp hp=>?_⟩;rw [Xk];have mE:p≠l:=λz=>by rw [z,ae] at hp;cases hp
 refine q p (ns.drop 1) _ (by rw [aj mE] at hp;exact hp) ((ah hl _).trans (ah hp _)) (by rw [ae,List.map_drop]) (by rw [ng,mH];omega) λn hn=>qR n (List.mem_of_mem_drop hn)
def i_:Str := "!\"$&'(),-./0123456789;<=>@ABCDEFGHIJKLMNOPQRSTUVWXYZ[\\]^_`abcdefghijklmnopqrstuvwxyz{}~"
def G0:i_.cps.toList.length=87:=by decide +kernel
def RI (n:Int):∃c,lK i_.cps.toList (n % 87)=some c:=by
 have h:(n % 87).toNat < i_.cps.toList.length:=by rw [G0];omega
 refine⟨i_.cps.toList[(n % 87).toNat],?_⟩;have e:n % 87=(((n % 87).toNat:Nat):Int):=by omega
 have:=cS (cN h);rw [<-e] at this;exact this
def U2:i_.cps.toList.Nodup:=by decide +kernel
def Qt {a b:Int}{c:Nat}(h1:lK i_.cps.toList (a % 87)=some c)(h2:lK i_.cps.toList (b % 87)=some c):a % 87=b % 87:=by
 have e1:a % 87=(((a % 87).toNat:Nat):Int):=by omega
 have e2:b % 87=(((b % 87).toNat:Nat):Int):=by omega
 have l1:(a % 87).toNat < i_.cps.toList.length:=by rw [G0];omega
 have l2:(b % 87).toNat < i_.cps.toList.length:=by rw [G0];omega
 have g1:=cS (cN l1);have g2:=cS (cN l2);rw [<-e1,h1] at g1;rw [<-e2,h2] at g2;have e3:i_.cps.toList[(a % 87).toNat]=i_.cps.toList[(b % 87).toNat]:=(jJ g1).symm.trans (jJ g2);have:=(rj U2).mp e3;omega
def H_ (pre:Str) (n2:Int) (j:Nat)(z:Str):Prop:=∃cc suf,z=pre++⟨#[cc]⟩++suf/\lK i_.cps.toList ((n2+5 * (j:Int)) % 87)=some cc
def Jr {pre:Str}{ws:z0r}(hl:ws.length<=14)(h:∀j z,ws[j]?=some z->H_ pre n2 j z):ws.Nodup:=by
 refine List.pairwise_iff_getElem.mpr λi j hi hj Iw e=>?_;obtain⟨c1,s1,e1,a1⟩:=h i _ (cN hi);obtain⟨c2,s2,e2,a2⟩:=h j _ (cN hj);rw [e1,e2] at e;have e':=congrArg (λz:Str=>z.cps.toList) e;have q:pre.cps.toList++(c1::s1.cps.toList)=pre.cps.toList++(c2::s2.cps.toList):=by
  have f:∀(c:Nat)(s:Str),(pre++(⟨#[c]⟩:Str)++s).cps.toList=pre.cps.toList++(c::s.cps.toList):=λc s=>by
   show ((pre.cps++#[c])++s.cps).toList=_;simp
  rw [<-f,<-f];exact e'
 have q2:=List.append_cancel_left q;injection q2 with q3 _;rw [<-q3] at a2;have:=Qt a1 a2;omega
def vA (z:Str):Prop:=∀c∈z.cps.toList,c∈i_.cps.toList
def vA.app {x y:Str}(h:vA x)(g:vA y):vA (x++y):=λc hc=>by
 have e:(x++y).cps.toList=x.cps.toList++y.cps.toList:=by show (x.cps++y.cps).toList=_;simp
 rw [e] at hc;exact(cK.mp hc).elim (h c) (g c)
def vA.one {i:Int}(h:lK i_.cps.toList i=some cc):vA ⟨#[cc]⟩:=λc hc=>by
 have:c=cc:=by simpa using hc
 subst this;unfold lK at h;obtain⟨j,_,e⟩:=Option.bind_eq_some_iff.mp h;exact cf e
theorem vA.ya (h:vA z)(lo hi:z0n):vA (ya z lo hi):=by
 unfold L2.ya
 split
 .exact h
 intro c hc;have hc:c∈(List.filterMap (z.cps[·]?) (slicePicked z (lo.map λi=>(i,0)) (hi.map λi=>(i,0)) none)):=by simpa using hc
 obtain⟨k,_,e⟩:=vK.mp hc;exact h c (by rw [Array.mem_toList_iff];exact Array.mem_of_getElem? e)
theorem vA.join {zs:z0r}(h:∀z∈zs,vA z):vA (Txt.join (Str.ofString "") zs):=by
 have e2:Txt.join (Str.ofString "") zs=Str.join (Str.ofString "") zs:=q8 _ _;rw [e2];have e0:vA (Str.ofString ""):=λc hc=>by rw [show (Str.ofString "").cps.toList=[] from rfl] at hc;cases hc
 clear e2
 induction zs with
 | nil=>exact λc hc=>by simp [Str.join,Str.empty] at hc
 | cons x r ih =>
  cases r with
  | nil=>exact h x cx
  | cons y t =>
   show vA (x++Str.ofString "" ++ Str.join (Str.ofString "") (y::t));exact((h x cx).app e0).app (ih λz hz=>h z (cw _ hz))
def Js (a:Int)(h:0<=a) (n:Nat):(Builtin.Str.strSliceIndices none (some a) 1 n).length<=a.toNat:=by
 unfold Builtin.Str.strSliceIndices sliceRange;simp only [show (1:Int) > 0 by decide,if_true,aC,oP] <;> (split <;> (try split) <;> (try split) <;> (try simp only [Int.ediv_one]) <;> omega)
def Jt (a:Int)(h:0<=a)(u:z0n) (n:Nat):(Builtin.Str.strSliceIndices (some a) u 1 n).length<=n - a.toNat:=by
 unfold Builtin.Str.strSliceIndices sliceRange;cases u <;> simp only [show (1:Int) > 0 by decide,if_true,aC,oP] <;> (split <;> (try split) <;> (try split) <;> (try simp only [Int.ediv_one]) <;> omega)
def Fs (z:Str) (a:Int)(h:0<=a):(ya z none (some a)).length<=a.toNat:=by
 have hp:(slicePicked z (none:Option (Int×Tok)) (some (a,0)) none).length<=a.toNat:=Js a h z.length;unfold ya
 split
 .rename_i e
  have e':(slicePicked z (none:Option (Int×Tok)) (some (a,0)) none).length=z.length:=eq_of_beq e;omega
 show (List.toArray _).size<=_;rw [cb];exact cI (v7 _ _) hp
def Fu (z:Str) (a:Int)(h:0<=a) (u:Int):(ya z (some a) (some u)).length<=z.length - a.toNat:=by
 have hp:(slicePicked z (some (a,0)) (some (u,0)) none).length<=z.length - a.toNat:=Jt a h (some u) z.length;unfold ya
 split
 .rename_i e
  have e':(slicePicked z (some (a,0)) (some (u,0)) none).length=z.length:=eq_of_beq e;omega
 show (List.toArray _).size<=_;rw [cb];exact cI (v7 _ _) hp
def HI (xs:115) (i j:Nat):(fM xs (some (i:Int)) (some (j:Int))).length<=j - i:=by
 unfold fM;rw [HT.nN,HT.nN,d7,ng];omega
def HJ (xs:115) (i j:Int)(hi:0<=i)(hj:i<=j):(fM xs (some i) (some j)).length<=(j - i).toNat:=by
 obtain⟨a,rfl⟩:=zL hi;obtain⟨b,rfl⟩:=zL (Int.le_trans hi hj);have h:=HI xs a b;omega
structure mX (z:Str):Prop where
 ne:z.length≠0
 le:z.length<=14
 sg:vA z
def Fl:Sp:=λvs H Q _=>∃(c:Int) (m:Nat),vs=[.int c,.int (m:Int)]/\m<=14/\∀D zs H',H D=none->aE H H'->H' D=some (.lst (List.map V.str zs))->zs.length=m->(∀z∈zs,mX z)->zs.Nodup->Q (.ref D) H'
def iZ:aJ ["_law_cell","_law_many","_law_signs","_law_draws","_law_size","_law_at","_law_base","_law_found","_law_k","_law_sign","_law_end"] ["_law_cell","_law_many"] (av Fz):=182
def JE (F:iu K "_law_pool" "_law_pool" Fz f fd)(T:Txt mg)(GS:aL P w K mg base 1 "_law_stream" ["_law_cell","_law_many"] x8):bF P w K mg base fN 2 f fd ["_law_cell","_law_many"] Fl:=by
 refine F.ok iZ 186 195
 .obtain⟨c,m,rfl,_⟩:=h;rfl
 obtain⟨c,m,rfl,aak,q⟩:=h;refine⟨_,ao (aD (i:=2) iZ.nd rfl (Or.inr rfl) gk)
  (ao (aD (i:=3) iZ.nd rfl 116 (bU GS hr rfl (af (pv 0) (af au ak))))
  (ao (aD (i:=4) iZ.nd rfl 116 (aU dQ au (aU eQ (aO aQ (pv 3) au 144) au)))
  (ao (aD (i:=5) iZ.nd rfl 116 (aU eQ (aO aQ (pv 3) au 144) (pv 4)))
  (ao (aD (i:=6) iZ.nd rfl 116 (dY p5 vU vV CC gk
   (af (bV ["_law_draw"] [(2,"_law_signs")] rfl (bq (dO f_ (pv 3) (dH au) (dH (aU dQ au (pv 4))))) (bH rfl rfl) nofun rfl nofun
    (λ_ _ _ _ _=>ay (i:=0) (show (["_law_draw","_law_signs"]:z0r).Nodup by decide +kernel) rfl 116) (λ_ _ _ _ _=>cJ) (λ_ _ _ _ _=>aO Ba (pv 1) (aU eQ (pv 0) au) 144)) ak)))
  (ao (aD (i:=7) iZ.nd rfl 116 (bu ak))
  (ao (b_ cD rfl (kQ rfl T.Im (af (pv 1) ak)) (ay (i:=8) iZ.nd rfl 116)
   (ao (aD (i:=9) iZ.nd rfl 116 (aO Ba (pv 2) (aU eQ (aU dQ (aO aQ (pv 3) (aU dQ au (pv 5)) 144) (aU AL au (pv 8))) au) 144))
   (ao (aD (i:=10) iZ.nd rfl 116 (aU dQ (aU dQ (pv 5) au) (aU eQ (aU gS (aO aQ (pv 3) au 144) (aU dQ (pv 8) au)) au)))
   (ar (cv (dY fY gE gF bR (pv 7)
    (af (aU jz (aU jz (dO Ck (pv 6) gQ (dH (pv 5))) (pv 9)) (dO Ck (pv 6) (dH (aU dQ (pv 5) au)) (dH (pv 10)))) ak)))))))
  (ar (br (pv 7))))))))),?_⟩
 refine⟨_,rfl,c,16,rfl,nofun,λD ns H1 hf0 s1 hD bN qR=>?_⟩;have NM:∀i:Nat,i < 16->∃x:Int,(0:Int)<=x/\x < 4294967311/\lK (ns.map V.int) (i:Int)=some (.int x):=λi hi=>by
  have lt:i < ns.length:=by omega
  obtain⟨a1,a2⟩:=qR ns[i] (j6 lt);exact⟨ns[i],a1,a2,cS (by rw [bB,cN lt];rfl)⟩
 obtain⟨n0,a0,b0,g0⟩:=NM 0 nofun;obtain⟨n1,a1,b1,g1⟩:=NM 1 nofun;refine⟨_,rfl,D,_,_,.int n0,rfl,rfl,aF.of hD,g0,_,_,rfl,rfl,(by show (0:Int) < 14;decide),_,_,rfl,rfl,?_⟩;refine⟨_,rfl,D,_,_,.int n1,rfl,rfl,aF.of hD,g1,_,rfl,_,_,rfl,rfl,(by show (0:Int) < 1+n0 % 14;omega),?_⟩;have Hk:(0:Int)<=n1 % (1+n0 % 14)/\n1 % (1+n0 % 14) < 14:=by
  have h1:(0:Int) < 1+n0 % 14:=by omega
  have h2:=Int.emod_nonneg n1 (Int.ne_of_gt h1);have h3:=Int.emod_lt_of_pos n1 h1;omega
 refine⟨rfl,_,rfl,2,rfl,_,rfl,_,_,rfl,rfl,_,rfl,D,_,rfl,aF.of hD,λc1 Zs=>?_⟩;obtain⟨EL,e1,_,l1⟩:=HK ns (some 2) (some (2+(1+n0 % 14)));have l1b:(EL.length:Int)<=1+n0 % 14:=by
  have h:=HJ (ns.map V.int) 2 (2+(1+n0 % 14)) nofun ∅;rw [e1,aC] at h;omega
 rw [e1];have s2:=s1.trans (ah Zs (.lst (EL.map V.int)));have ZD:upd H1 c1 (.lst (EL.map V.int)) D=some (.lst (ns.map V.int)):=by rw [aj (aq hD Zs)];exact hD
 have SK:upd H1 c1 (.lst (EL.map V.int)) c1=some (.lst (EL.map V.int)):=ae;generalize upd H1 c1 (.lst (EL.map V.int))=H2 at s2 ZD SK;refine⟨c1,rfl,⟨_,aF.of SK⟩,λD2 mJ=>bX (xs:=EL.map V.int) (λi ys σ2 H3=>∃zs:z0r,ys=zs.map V.str/\zs.length=i/\(∀z∈zs,z.length=1)/\(∀z∈zs,vA z)/\(∃y,σ2=[y,some (.str i_)])/\aE H2 H3/\H3 D2=some (.lst ys))
  ⟨[],rfl,rfl,108,108,⟨none,rfl⟩,ah mJ _,ae⟩ (λi ys σ2 H3 _ h=>?_) (λi x ys σ2 H3 ex h=>?_) (λys σ2 H3 h=>?_)⟩
 .obtain⟨_,_,_,_,_,_,sm,_⟩:=h;exact aF.of (sm _ _ SK)
 .obtain⟨zs,rfl,hz,Qz,Vy,⟨y,rfl⟩,sm,ir⟩:=h;rw [bB] at ex;obtain⟨n,en,rfl⟩:=b9.mp ex;obtain⟨cc,Kg⟩:=RI n;have li:i < EL.length:=(bM.mp en).1;refine goN ?_;refine zF ?_;refine⟨_,rfl,_,rfl,_,_,rfl,rfl,(by show (0:Int) < 87;decide),i_,_,cc,rfl,rfl,nofun,Kg,ir,210,zs++[⟨#[cc]⟩],?_,?_,?_,?_,159,?_,?_⟩
  .rw [bA];rfl
  .rw [bO,hz];rfl
  .intro z Vx;rcases cK.mp Vx with h | h
   .exact Qz z h
   rw [bD.mp h];rfl
  .intro z Vx;rcases cK.mp Vx with h | h
   .exact Vy z h
   rw [bD.mp h];exact vA.one Kg
  .intro b o hb;rw [aj (λz=>by rw [z,mJ] at hb;cases hb)];exact sm b o hb
  rw [ae]
 obtain⟨zs,rfl,hz,Qz,Vy,⟨y,rfl⟩,sm,ir⟩:=h;have Nu:∀l:z0r,(∀z∈l,z.length=1)->(l.map (·.length)).sum=l.length:=by
  intro l
  induction l with
  | nil=>intro _;rfl
  | cons z r ih=>intro h;rw [bC,hZ,ih (λz hz=>h z (cw _ hz)),h z cx,c_];omega
 rw [aC] at hz;refine⟨_,D2,zs,rfl,rfl,aF.of ir,?_,?_⟩
 .have e0:(Str.ofString "").length=0:=rfl;rw [Nu zs Qz,e0];omega
 have hb:(Txt.join (Str.ofString "") zs).length<=16:=by
  have h1:=vS (Str.ofString "") zs;have e0:(Str.ofString "").length=0:=rfl;rw [Nu zs Qz,e0] at h1;have e2:Txt.join (Str.ofString "") zs=Str.join (Str.ofString "") zs:=q8 _ _;rw [e2];omega
 have hS:vA (Txt.join (Str.ofString "") zs):=vA.join Vy;have Kh:((Txt.join (Str.ofString "") zs).length:Int)<=1+n0 % 14:=by
  have h1:=vS (Str.ofString "") zs;have e0:(Str.ofString "").length=0:=rfl;rw [Nu zs Qz,e0] at h1;have e2:Txt.join (Str.ofString "") zs=Str.join (Str.ofString "") zs:=q8 _ _;rw [e2];omega
 generalize Txt.join (Str.ofString "") zs=IE at hb Kh hS ⊢;have Lx:=sm _ _ ZD;have s3:=s2.trans sm;clear sm ir mJ SK;refine⟨oU,λl hl=>?_⟩;refine⟨_,rfl,(m:Int),rfl,∅,∅,?_⟩;rw [pT m];obtain⟨k1,ek1⟩:=zL Hk.1;obtain⟨n2,a2,b2,g2⟩:=NM (2+k1) ∅;have ZC:∀o,upd H3 l o D=some (.lst (ns.map V.int)):=λo=>by rw [aj (aq Lx hl)];exact Lx
 refine jk (n:=m) (λi σ H4=>∃(ws:z0r)(k2 k3 k4:Option V),σ=[some (.int c),some (.int (m:Int)),some (.str i_),bc D,some (.int (1+n0 % 14)),some (.int (n1 % (1+n0 % 14))),some (.str IE),bc l,k2,k3,k4] /\
  H4=upd H3 l (.lst (ws.map V.str))/\ws.length=i/\(∀z∈ws,mX z)/\∀j z,ws[j]?=some z->H_ (ya IE none (some (n1 % (1+n0 % 14)))) n2 j z) ⟨[],none,none,none,rfl,rfl,rfl,108,108⟩ ?_ ?_
 .rintro i σ H4 hi ⟨ws,k2,k3,k4,rfl,rfl,hw,Nr,Sx⟩;obtain⟨cc,Kg⟩:=RI (n2+5 * (0+(i:Int)));refine⟨_,rfl,_,rfl,_,rfl,_,_,rfl,rfl,D,_,_,.int n2,rfl,rfl,aF.of (ZC _),?_,_,rfl,_,_,rfl,rfl,.inl ⟨nofun,nofun⟩,_,_,rfl,rfl,_,_,rfl,rfl,(by show (0:Int) < 87;decide),i_,_,cc,rfl,rfl,nofun,Kg,?_⟩
  .rw [ek1];have e:(2:Int)+(k1:Int)=((2+k1:Nat):Int):=by omega
   rw [e];exact g2
  refine⟨_,rfl,_,_,rfl,rfl,_,rfl,D,_,_,.int n1,rfl,rfl,aF.of (ZC _),g1,_,rfl,_,_,rfl,rfl,_,_,rfl,rfl,⟨by show (0:Int) < 0+(i:Int)+2;omega,by show (0:Int)+(i:Int)+2 < 1073741824;omega⟩,_,_,rfl,rfl,(by show (0:Int) < 15;decide),_,_,rfl,rfl,?_⟩;refine⟨_,rfl,.inl ⟨rfl,_,aF.of ae⟩,?_⟩;refine⟨_,rfl,_,rfl,_,rfl,IE,rfl,fits ∅,?_⟩;have VD:=Ft IE none (some (n1 % (1+n0 % 14)));have VC:=Fs IE (n1 % (1+n0 % 14)) Hk.1;have Sz:=hS.ya none (some (n1 % (1+n0 % 14)));generalize aag:ya IE none (some (n1 % (1+n0 % 14)))=z1 at VD VC Sz Sx ⊢;refine⟨_,rfl,_,_,rfl,rfl,fits (by show z1.length+1<=_;omega),?_⟩;refine⟨_,rfl,_,rfl,_,_,rfl,rfl,_,rfl,_,rfl,_,rfl,IE,rfl,fits ∅,?_⟩;have VB:=Ft IE (some (n1 % (1+n0 % 14)+1)) (some (n1 % (1+n0 % 14)+1+n1 / (0+(i:Int)+2) % 15));have VA:=Fu IE (n1 % (1+n0 % 14)+1) ∅ (n1 % (1+n0 % 14)+1+n1 / (0+(i:Int)+2) % 15);have Lr:=hS.ya (some (n1 % (1+n0 % 14)+1)) (some (n1 % (1+n0 % 14)+1+n1 / (0+(i:Int)+2) % 15));have aan:n1 % (1+n0 % 14) < 1+n0 % 14:=Int.emod_lt_of_pos n1 ∅;generalize ya IE (some (n1 % (1+n0 % 14)+1)) (some (n1 % (1+n0 % 14)+1+n1 / (0+(i:Int)+2) % 15))=z2 at VB VA Lr ⊢;have Vn:(z1++(⟨#[cc]⟩:Str)).length=z1.length+1:=fQ _ _;refine⟨_,_,rfl,rfl,fits (by rw [Vn];omega),?_⟩;refine⟨l,_,_,rfl,rfl,ae,210,?_⟩;refine⟨ws++[z1++⟨#[cc]⟩++z2],_,_,_,rfl,by rw [ie,bA];rfl,by rw [bO,hw];rfl,λz Iu=>?_,λj z hj=>?_⟩
  .rcases cK.mp Iu with h | h
   .exact Nr z h
   rw [bD.mp h];refine⟨by rw [fQ,Vn];omega,by rw [fQ,Vn];omega,(Sz.app (vA.one Kg)).app Lr⟩
  rw [List.getElem?_append] at hj
  split at hj
  .exact Sx j z hj
  rename_i iM
  have ej:j=i:=by
   have:=(bM.mp hj).1;simp at this;omega
  subst ej;rw [hw,Nat.sub_self] at hj;cases hj;refine⟨cc,z2,rfl,?_⟩;have e0:n2+5 * (0+(j:Int))=n2+5 * (j:Int):=by omega
  rw [<-e0];exact Kg
 rintro σ H4 ⟨ws,k2,k3,k4,rfl,rfl,hw,Nr,Sx⟩;exact⟨_,rfl,q l ws _ (s3.free hl) (s3.trans (ah hl _)) ae hw Nr (Jr ∅ Sx)⟩
end
end eZ
namespace L2
open PySem PySem.Spec PyProof.Rows PySem.W
section
variable {X:Cx}{k:Nat}{f W:Addr}{fd:FuncData}{ps:z0r}{sp:Sp}{fn Cn n:Str}{a:Expr}{as:z0p}{t:TA}{j:Nat}{b₀:Stmt}{jN:z0q}{tb:TS}{p cp ap np hp pos:Pos}
end
def jG (CX:EY)(X:Cx)(E:St->XK):Prop:=∀(ai:z0e)(σ:St)(H:Hp)(s:Shared)(e:Value)(s':Shared),121->CX X.stack H s (E σ) e s'->X.xe e s'
section
variable {X:Cx}{CX:EY}{k:Nat}{f C:Addr}{fd:FuncData}{ps:z0r}{sp:Sp}{dvs:115}{ds:z0m}{E:St->XK}{x:Str}{p pos:Pos}{e:Expr}{es:z0p}{t:TA}
def Jf {σ:St}{Q:VK}(F:bF X.prog X.w X.K X.mg X.base CX k f fd ps sp)(hr:dG k X.A)(hb:Binds X.K fd ps ds)(hd:aY dvs ds)(hx:jG CX X E)
  (I:121)(r:aY vs us)(h:sp (vs++dvs) H Q (E σ)):wpAny 146 X.A (call (.ref f) us) (EP X ai σ Q) X.xe s:=by
 have r2:aY (vs++dvs) (us++ds):=r.append hd;have hl:(us++ds).length=ps.length:=by rw [<-r2.length];exact F.len _ _ _ _ h
 refine fC (iY (F.run X.A X.stack s H ⟨us,[]⟩ (us++ds) (vs++dvs) Q (E σ) hr I.Ea (hb s us I.kx hl) r2 h) λr s' hq=>?_);cases r with
 | error e=>exact hx ai σ H s e s' I hq
 | ok fl =>
  cases fl with
  | ret u=>exact I.after hq
  | next=>exact False.elim hq
  | brk=>exact False.elim hq
  | cont=>exact False.elim hq
def Mr (sp:Sp)(dvs:115)(E:St->XK)(t:TA):TE:=λσ H Q=>t σ H λvs H1=>sp (vs++dvs) H1 Q (E σ)
def Ge (F:bF X.prog X.w X.K X.mg X.base CX k f fd ps sp)(hr:dG k X.A)(hg:Gl X x)(hm:X.mg x=some (.ref f))(hk:PySem.W.keepIn X.K (.ref f)=true)(hb:Binds X.K fd ps ds)(hd:aY dvs ds)(hx:jG CX X E)
  (ha:PA X (e::es) t)(qC:267:=by decide)(he:292:=by rfl)(mE:(backTo pos (starEach es X.env)).any 56=false:=by rfl) :
  PE X (.Call (.Name x p) (e::es) [] pos) (Mr sp dvs E t):=by
 intro ai s σ H Q I h;refine jM (iU I hg hm ?_ qC);refine rm (h₀:=X.base) I.ok.mod.Li hk 270 he mE;obtain⟨vs,H1,I1,r,q⟩:=aW;refine⟨I1.kx,?_⟩;exact Jf F hr hb hd hx I1 r q
def Dk {σ:St}{Q:VK}(M:Mk X.K C f)(F:bF X.prog X.w X.K X.mg X.base CX k f fd ps sp)(hr:dG (k+1) X.A)(hb:Binds X.K fd ps ds)(hd:aY dvs ds)
  (hx:jG CX X E)(I:121)(r:aY vs us)
  (h:∀x dx,H x=none->H dx=none->dx≠x->sp (.ref x::(vs++dvs)) (upd (upd H dx (.own x)) x (.ins C dx [])) (λv H2=>v=.dq/\Q (.ref x) H2) (E σ)) :
  wpAny 146 X.A (call (.ref C) us) (EP X ai σ Q) X.xe s:=by
 have hq:=h 190 s.heap.objs.size (I.bw.fresh (hJ _)) (I.bw.fresh (aG _)) (bp (jL _));have I2:=Inv.made (C:=C) I;have r2:aY (V.ref 190::(vs++dvs)) (Value.ref 190::(us++ds)):=.cons rfl (r.append hd);have hl:(Value.ref 190::us++ds).length=ps.length:=by
  have e:=r2.length;rw [F.len _ _ _ _ hq] at e;exact e.symm
 refine fC (yF (f:=f) I.kx M.makes M.init (beq_iff_eq.mp M.fn) (iY (F.run _ X.stack _ _ ⟨Value.ref 190::us,[]⟩ (Value.ref 190::(us++ds)) _ _ (E σ) (hr.make C us [])
  (I2.Ea.make C us []) (hb _ (Value.ref 190::us) I2.kx hl) r2 hq) λr s' G9=>?_))
 cases r with
 | error e=>exact hx ai σ _ _ e s' I2 G9
 | ok fl =>
  cases fl with
  | ret u =>
   obtain⟨v,H',I3,rv,ev,q3⟩:=I2.after G9;subst ev;exact⟨rv,⟨V.ref 190,H',I3,rfl,q3⟩⟩
  | next=>exact False.elim G9
  | brk=>exact False.elim G9
  | cont=>exact False.elim G9
def Mo (C:Addr)(sp:Sp)(dvs:115)(E:St->XK)(t:TA):TE:=λσ H Q=>t σ H λvs H1=>∀x dx,H1 x=none->H1 dx=none->dx≠x ->
 sp (.ref x::(vs++dvs)) (upd (upd H1 dx (.own x)) x (.ins C dx [])) (λv H2=>v=.dq/\Q (.ref x) H2) (E σ)
def F_ (M:Mk X.K C f)(F:bF X.prog X.w X.K X.mg X.base CX k f fd ps sp)(hr:dG (k+1) X.A)(hg:Gl X x)(hm:X.mg x=some (.ref C))(hb:Binds X.K fd ps ds)(hd:aY dvs ds)(hx:jG CX X E)
  (ha:PA X (e::es) t)(qC:267:=by decide)(he:292:=by rfl)(mE:(backTo pos (starEach es X.env)).any 56=false:=by rfl) :
  PE X (.Call (.Name x p) (e::es) [] pos) (Mo C sp dvs E t):=by
 intro ai s σ H Q I h;refine jM (iU I hg hm ?_ qC);refine rm (h₀:=X.base) I.ok.mod.Li M.kp 270 he mE;obtain⟨vs,H1,I1,r,q⟩:=aW;refine⟨I1.kx,?_⟩;exact Dk M F hr hb hd hx I1 r q
end
def Cx.oW (X:Cx)(ai:z0e)(D:Ends)(hd:ExceptHandler):Cx :=
 { X with pn:=X.pn++ai,xe:=λe s₁=>wpAny 146 X.A (noteFrame e X.env) (λ_ s₂=>wpAny 146 X.A (setFlight e none) (λ_ s₃=>wpAny 146 X.A (handleBy e X.env [hd]) (SP X ai D) X.xe s₃) X.xe s₂) X.xe s₁ }
section
variable {X:Cx}{ai iS:z0e}{σ:St}{H:Hp}{s:Shared}{D:Ends}{hd:ExceptHandler}
theorem Cx.Ok.oW (ok:X.Ok):(X.oW ai D hd).Ok:=416
def Cx.Ok.rF (ok:(X.oW ai D hd).Ok):X.Ok:=416
theorem Inv.oW (I:121):Inv (X.oW ai D hd) [] σ H s :=
 ⟨I.ok.oW,I.os,I.bare,I.base,I.loc,I.cell,I.free,I.iF,λp hp=>I.pin p (by rw [eE] at hp;exact hp),I.bw,I.len⟩
theorem Inv.rF (I:Inv (X.oW ai D hd) iS σ H s):121 :=
 ⟨I.ok.rF,I.os,I.bare,I.base,I.loc,I.cell,I.free,I.iF,λp hp=>I.pin p (jX _ hp),I.bw,I.len⟩
end
section
variable {X:Cx}{W:Addr}{Cn n:Str}{j:Nat}{b₀:Stmt}{jN body:z0q}{tb:TS}{np hp pos:Pos}
def Ek (K:Frag)(W:Addr) (j:Nat)(tb:TS)(D:Ends):St->XK:=λσ cls dx H'=>exmOne K cls (.ref W)=some true /\
  ∀ea,H' ea=some (uu ea cls dx)->tb { nx:=λσ' H''=>(∃v,σ'[j]?=some v)/\D.nx (σ'.set j none) H'',rt:=λ_ _=>False } (σ.set j (some (.ref ea))) H'
def PZ {ai:z0e}{D:Ends}(lI:X.stack=X.env::X.outer)(hfm:X.env.frame=some X.env.locals)(hN:X.N.Nodup)(hgC:Gl X Cn)(hmC:X.mg Cn=some (.ref W))(hj:X.N[j]?=some n)(hn:X.env.scope.names.lookup n=some .local)
  (hsu:∀ea,vC (X.hold ea) (b₀::jN) tb)(hdC:(Cn == ("__debug__":Str))=false:=by decide) :
  jG (jR X.prog X.w) (X.oW ai D (.ExceptHandler (some (.Name Cn np)) (some n) (b₀::jN) hp)) (Ek X.K W j tb D):=by
 rintro iS σ H1 s1 e s' I' ⟨ea,cls,dx,H',rfl,os,bare,un,bw,⟨T0,xN,t1,t2,t3,t4⟩,hex,q⟩;have I1:Inv X ai σ H1 s1:=I'.rF;have I:=I1;have J:=I1.CQ (ch:=[]) os un bw bare (λb z=>absurd z 125);have fr:X.A.frames=some (X.env::X.outer):=by rw [<-lI];exact I.ok.frames
 have Ii:=J.stack;rw [lI] at Ii;refine uZ fr Ii hfm xN λh1 T m1 lT F1=>mP (fs:=qG X.stack) F1 λh2 m2 F2=>?_;rw [<-lI] at m1;have nT:=J.bw.fresh lT;have J1:=J.moved (cs:=[T0]) m1 t2 F1 (λb hb=>by obtain rfl:b=T0:=(215);exact⟨t1,I1.away t3⟩);have J2:=J1.moved (cs:=[T]) (m2.mono λb hb=>cw _ hb) t2 F2 (λb hb=>by obtain rfl:b=T:=(215);exact⟨nT,J.away lT⟩);refine wpAny_handleBy_cons (codeAny_handlers_test (iU (X:=X.hold ea) (J2.hold ea) hgC hmC ?_ hdC)) (by intro z;cases z);have lk:Looks 146 h2 (typeOf (.ref ea)) cls:=by
  obtain⟨oe,_,_,_,he,hc,_⟩:=F2;rw [<-hc];exact(Looks.ld he).andThen .now
 refine Looks.here (s:={ { { s' with heap:=h1 } with heap:=h2 } with heap:=h2 }) (exm_one J2.kx lk hex) ?_;refine codeAny_handlers_suite_as (mP (fs:=qG X.stack) F2 λh3 m3 F3=>?_);have J3:=J2.moved (cs:=[T]) (m3.mono λb hb=>cw _ hb) t2 F3 (λb hb=>by obtain rfl:b=T:=(215);exact⟨nT,J.away lT⟩);refine kc (X:=X.hold ea) (v:=.ref ea) (J3.hold ea) hN hj (.inl hn) rfl (λs4 I4=>?_) (.inr hn);refine cH (hsu ea ai s4 _ H' _ I4 (q ea t2)) (λfl s5 z=>?_) λ_ _ z=>False.elim z;cases fl with
 | brk=>obtain⟨_,_,_,z⟩:=z;exact False.elim z
 | cont=>obtain⟨_,_,_,z⟩:=z;exact False.elim z
 | ret u=>obtain⟨_,_,_,_,_,z⟩:=z;exact False.elim z
 | next =>
  obtain⟨σ5,H5,I5,⟨v5,e5⟩,q5⟩:=z;have K5:Inv X ai σ5 H5 s5:=Inv.Mg (ok:=I.ok) I5;refine ax (wpAny_bindName (kc (v:=.dq) K5 hN hj (.inl hn) rfl (λs6 I6=>?_) (.inr hn)));unfold unbindBehindTheSuite;refine wpAny_onRaise (C8 (v:=.dq) I6 hN hj hn ?_ λs7 I7=>?_)
  .exact vY (bM.mp e5).1
  rw [List.set_set] at I7;exact⟨_,H5,I7,q5⟩
def Jp {O8:(St->XK)->TS}(hb:∀ai D,vC (X.oW ai D (.ExceptHandler (some (.Name Cn np)) (some n) (b₀::jN) hp)) body (O8 (Ek X.K W j tb D))) :
  PS X (.Try body [.ExceptHandler (some (.Name Cn np)) (some n) (b₀::jN) hp] [] [] pos) (λD σ H=>O8 (Ek X.K W j tb D) D σ H):=by
 intro ai s σ H D I h;refine wpAny_Try_except (cH (hb ai D [] s σ H D I.oW h) (λfl s1 z=>?_) λ_ _ z=>z);cases fl with
 | next =>
  obtain⟨σ',H',I',q⟩:=z;exact rb ⟨σ',H',I'.rF,q⟩
 | brk =>
  obtain⟨σ',H',I',q⟩:=z;exact⟨σ',H',I'.rF,q⟩
 | cont =>
  obtain⟨σ',H',I',q⟩:=z;exact⟨σ',H',I'.rF,q⟩
 | ret u =>
  obtain⟨v,σ',H',I',r,q⟩:=z;exact⟨v,σ',H',I'.rF,r,q⟩
end
open PySem PySem.Spec PyProof.Rows
section
variable {prog:Program}{w:World}{A:Around}{E:z0b}{s:Shared}
end
open PySem.AutoSeq1 (wpAny_loadPart')
section
variable {prog:Program}{w:World}{A:Around}{E:z0b}{s:Shared}
end
section
variable {prog:Program}{w:World}{A:Around}{E:z0b}{s:Shared}
end
structure EZn (h:Heap)(e z TI TO i1 i2 l1 l2:Addr) (i:Nat):Prop where
 he:∃old,IsEnum h e z i old
 hz:∃f0 f1,BP h z f0 f1 TI TO/\(f0=.none\/∃T:Nat,f0=rawInt T)
 hI:IsPair h TI (.ref i1) (.ref i2)
 hO:∃a b,IsPair h TO a b
 h1:h.IsListIter i1 l1 i
 h2:h.IsListIter i2 l2 i
structure ZLn (h:Heap)(z TI TO i1 i2 l1 l2:Addr) (i:Nat):Prop where
 hz:IsZip h z TI TO .none
 hI:IsPair h TI (.ref i1) (.ref i2)
 hO:∃a b,IsPair h TO a b
 h1:h.IsListIter i1 l1 i
 h2:h.IsListIter i2 l2 i
section
variable {prog:Program}{w:World}{A:Around}{E:z0b}{s:Shared}
def qy {i:Nat}{x:Value}(hit:s.heap.IsRevIter it l (i:Int))(hl:s.heap.IsList l items)(hx:items[i]?=some x)
  (hQ:∀h',h'.IsRevIter it l ((i:Int) - 1)->Heap.SameBut it s.heap h'->Q x 216):wpAny 147 A (Builtin.SmallTypes.nextOf (.ref it)) Q E s:=by
 obtain⟨o,ho,hc,hd⟩:=id hit;obtain⟨ol,QN,_,nl,Q3⟩:=hl;unfold Builtin.SmallTypes.nextOf;refine ax (p6 (name:=Str.ofString "__next__") hit.typeIs F.slot_lri_next
  (j5 F.slot_lri_next hit.typeIs F.entry_lri_next ?_ (F.args_lri_next_1 _)))
 unfold Builtin.«list_reverseiterator.__next__»;refine ax (wpAny_of_eq (a:=(Value.ref it,[])) rfl ?_)
 try dsimp only
 refine ax (dU ho hd (x:=rawInt (i:Int)) rfl ?_);show wpAny _ _ (if (i:Int) < 0 then _ else _) _ _ s;rw [az ∅];show wpAny _ _ (field (.ref it) 0 >>= _) _ _ s;refine ax (dU ho hd (x:=.ref l) rfl ?_);show wpAny _ _ (seqItems? (.ref l) >>= _) _ _ s;refine ax (jU QN Q3 ?_);simp only [pT,hx];refine ax (lS ho hd 125 ?_)
 first
 | refine aK ⟨x,rfl,aK (hQ _ ?_ (vE ..))⟩
 | refine ax (aK (aK ⟨x,rfl,aK (hQ _ ?_ (vE ..))⟩))
 exact⟨_,qZ _ ho (vN (lW hd _)),(Obj.cls_mapFields ..).trans hc,by
  rw [lW hd];simp⟩
def sC (hh:A.handled=none)(hit:s.heap.IsRevIter it l (-1))
  (hE:∀h' e,Heap.ExtBut it s.heap h'->(∃o,h'.get? e=111/\o.cls=.type "StopIteration")->E (.ref e) 216) :
  wpAny 147 A (Builtin.SmallTypes.nextOf (.ref it)) Q E s:=by
 obtain⟨o,ho,hc,hd⟩:=id hit;unfold Builtin.SmallTypes.nextOf;refine ax (p6 (name:=Str.ofString "__next__") hit.typeIs F.slot_lri_next
  (j5 F.slot_lri_next hit.typeIs F.entry_lri_next ?_ (F.args_lri_next_1 _)))
 unfold Builtin.«list_reverseiterator.__next__»;refine ax (wpAny_of_eq (a:=(Value.ref it,[])) rfl ?_)
 try dsimp only
 refine ax (dU ho hd (x:=rawInt (-1)) rfl ?_);show wpAny _ _ (if (-1:Int) < 0 then _ else _) _ _ s;rw [aA nofun];refine ax (jo ?_)
 first
 | show wpAny _ _ (newExc (.type "StopIteration") [] >>= _) _ _ _
 | (refine ax ?_;show wpAny _ _ (newExc (.type "StopIteration") [] >>= _) _ _ _)
 refine ax ?_;simp only [newExc,newTuple];refine ax (j8 ?_ (by size_fits));refine ax (m:=firstArgMember _ _) (wpAny_of_eq (a:=Value.none) (by first | rfl | (simp only [firstArgMember];rfl)) ?_)
 refine j8 ?_ (by size_fits);simp only [raiseNew];refine ax (wpAny_handled ?_)
 first | rw [show A.in1.handled=none from hh] | rw [hh]
 refine ax (aK (wpAny_throw ?_));exact hE _ _ (((Heap.ExtBut.refl _ _).push _).push _) ⟨_,cu _ rfl,rfl⟩
structure XN (z TI TO i1 i2:Addr):Prop where
 TIz:TI≠z
 TOz:TO≠z
 i1z:i1≠z
 i2z:i2≠z
 TOi1:TO≠i1
 TOi2:TO≠i2
 i12:i1≠i2
def C6 {z TI TO i1 i2:Addr}{N1 N2:Heap->Prop}{x y a b:Value}{Q:z0b}(D:XN z TI TO i1 i2)
  (hz:IsZip s.heap z TI TO .none)(NJ:IsPair s.heap TI (.ref i1) (.ref i2))(Wu:IsPair s.heap TO a b)
  (YX:i1 < s.heap.objs.size)(Vg:i2 < s.heap.objs.size)
  (n1:∀(s1:Shared)(Q:z0b)(E:z0b),(∀c o,c≠z->s.heap.get? c=111->s1.heap.get? c=111)->(∀h',N1 h'->Heap.SameBut i1 s1.heap h'->Q x { s1 with heap:=h' })->wpAny 147 A.in1 (Builtin.SmallTypes.nextOf (.ref i1)) Q E s1)
  (n2:∀(s1:Shared)(Q:z0b)(E:z0b),(∀c o,c≠z->c≠TO->c≠i1->s.heap.get? c=111->s1.heap.get? c=111)->(∀h',N2 h'->Heap.SameBut i2 s1.heap h'->Q y { s1 with heap:=h' })->wpAny 147 A.in1 (Builtin.SmallTypes.nextOf (.ref i2)) Q E s1)
  (k1:∀h h',N1 h->(∀o,h.get? i1=111->h'.get? i1=111)->N1 h')(k2:∀h h',N2 h->(∀o,h.get? i2=111->h'.get? i2=111)->N2 h')
  (hQ:∀h',IsZip h' z TI TO (rawInt s.heap.objs.size)->IsPair h' TO x y->N1 h'->N2 h'->IsPair h' s.heap.objs.size x y->h'.objs.size=179 ->
   (∀c o,c≠z->c≠TO->c≠i1->c≠i2->s.heap.get? c=111->h'.get? c=111)->Q (197) 216) :
  wpAny 147 A.in1 (Builtin.«zip.__next__» ⟨[.ref z],[]⟩) (λfin s'=>∃v,fin=.done (.ret v)/\Q v s') E s:=by
 show wpAny _ _ (field (.ref z) 2 >>= _) _ _ _;refine ax (dU hz rfl (x:=.bool false) rfl ?_);show wpAny _ _ (field (.ref z) 3 >>= _) _ _ _;refine ax (dU hz rfl (x:=.ref TI) rfl (ax (jU NJ rfl ?_)));show wpAny _ _ (Builtin.SmallTypes.ownedTupleIsFree (.ref z) >>= _) _ _ _;refine ax ?_;unfold Builtin.SmallTypes.ownedTupleIsFree;refine ax (dU hz rfl (x:=.none) rfl (aK ?_));simp only [if_true];refine ax (jo (ax (dU hz rfl (x:=.ref TO) rfl ?_)));refine ax (lC hz 125 λg1 z1 e1=>ax ?_);replace z1:IsZip g1 z TI TO .ellipsis:=z1;simp only [List.zipIdx_cons,List.zipIdx_nil,List.forIn_cons,List.forIn_nil];refine ax (ax (wpAny_onRaise ?_));show wpAny _ _ (Builtin.SmallTypes.nextOf (.ref i1) >>= _) _ _ _;refine ax (n1 _ _ _ (λc o hc q=>e1.extBut _ _ hc q) λg2 p2 e2=>aK ?_);have t2:IsPair g2 TO a b:=e2.extBut _ _ D.TOi1 (e1.extBut _ _ D.TOz Wu);refine ax (jU t2 rfl (ax (wpAny_updateSeq_pair t2 λg3 t3 e3=>ax (wpAny_letGo (aK ?_)))));replace t3:IsPair g3 TO x b:=t3;refine ax (ax (wpAny_onRaise ?_));show wpAny _ _ (Builtin.SmallTypes.nextOf (.ref i2) >>= _) _ _ _;refine ax (n2 _ _ _ (λc o c1 c2 c3 q=>e3.extBut _ _ c2 (e2.extBut _ _ c3 (e1.extBut _ _ c1 q))) λg4 p4 e4=>aK ?_);have t4:IsPair g4 TO x b:=e4.extBut _ _ D.TOi2 t3;refine ax (jU t4 rfl (ax (wpAny_updateSeq_pair t4 λg5 t5 e5=>ax (wpAny_letGo (aK (aK ?_))))));replace t5:IsPair g5 TO x y:=t5;refine ax (jU t5 rfl (ax (wpAny_newTuple ?_)));have hsz:g5.objs.size=s.heap.objs.size:=by rw [e5.1,e4.1,e3.1,e2.1,e1.1]
 have z5:IsZip g5 z TI TO .ellipsis:=e5.extBut _ _ D.TOz.symm (e4.extBut _ _ D.i2z.symm (e3.extBut _ _ D.TOz.symm (e2.extBut _ _ D.i1z.symm z1)));have up5:∀c o,c≠z->c≠TO->c≠i1->c≠i2->s.heap.get? c=111->g5.get? c=111:=λc o c1 c2 c3 c4 e =>
  e5.extBut _ _ c2 (e4.extBut _ _ c4 (e3.extBut _ _ c2 (e2.extBut _ _ c3 (e1.extBut _ _ c1 e))))
 have q1:N1 g5:=k1 _ _ p2 λo e=>e5.extBut _ _ D.TOi1.symm (e4.extBut _ _ D.i12 (e3.extBut _ _ D.TOi1.symm e));have q2:N2 g5:=k2 _ _ p4 λo e=>e5.extBut _ _ D.TOi2.symm e;have zl:z < g5.objs.size:=aP z5;show wpAny _ _ (Builtin.SmallTypes.ownedTupleHandOut (.ref z) (.ref g5.objs.size) >>= _) _ _ _;refine ax ?_;unfold Builtin.SmallTypes.ownedTupleHandOut;have z6:IsZip (g5.push { cls:=185,data:=.seq #[x,y] }) z TI TO .ellipsis:=a_ _ z5;refine ax (lC z6 125 λg7 z7 e7=>?_);replace z7:IsZip g7 z TI TO (rawInt g5.objs.size):=z7;refine lC z7 125 λg8 z8 e8=>?_;replace z8:IsZip g8 z TI TO (rawInt g5.objs.size):=z8;have up:∀c o,c≠z->g5.get? c=111->g8.get? c=111:=λc o c1 e=>e8.extBut _ _ c1 (e7.extBut _ _ c1 (a_ _ e));have t8:IsPair g8 g5.objs.size x y:=e8.extBut _ _ (iw zl) (e7.extBut _ _ (iw zl) (cu _ rfl));have s8:g8.objs.size=g5.objs.size+1:=by rw [e8.1,e7.1,i5]
 rw [hsz] at z8 t8 s8;refine aK ⟨_,rfl,?_⟩;show Q (.ref g5.objs.size) _;rw [hsz];exact hQ g8 z8 (up _ _ D.TOz t5) (k1 _ _ q1 λo e=>up _ o D.i1z e) (k2 _ _ q2 λo e=>up _ o D.i2z e) t8 s8 λc o c1 c2 c3 c4 e=>up c o c1 (up5 c o c1 c2 c3 c4 e)
def E2 {z TI TO i1 i2:Addr}{a b:Value}{Q:Fin->Shared->Prop}(D:XN z TI TO i1 i2)
  (hz:IsZip s.heap z TI TO .none)(NJ:IsPair s.heap TI (.ref i1) (.ref i2))
  (n1:∀(s1:Shared)(Q:z0b)(E:z0b),(∀c o,c≠z->s.heap.get? c=111->s1.heap.get? c=111)->(∀h' e,Heap.ExtBut i1 s1.heap h'->(∃o,h'.get? e=111/\o.cls=.type "StopIteration")->E (.ref e) { s1 with heap:=h' })->wpAny 147 A.in1 (Builtin.SmallTypes.nextOf (.ref i1)) Q E s1)
  (hE:∀h' e,(∀c o,c≠z->c≠TO->c≠i1->c≠i2->s.heap.get? c=111->h'.get? c=111)->(∃o,h'.get? e=111/\o.cls=.type "StopIteration")->E (.ref e) 216) :
  wpAny 147 A.in1 (Builtin.«zip.__next__» ⟨[.ref z],[]⟩) Q E s:=by
 show wpAny _ _ (field (.ref z) 2 >>= _) _ _ _;refine ax (dU hz rfl (x:=.bool false) rfl ?_);show wpAny _ _ (field (.ref z) 3 >>= _) _ _ _;refine ax (dU hz rfl (x:=.ref TI) rfl (ax (jU NJ rfl ?_)));show wpAny _ _ (Builtin.SmallTypes.ownedTupleIsFree (.ref z) >>= _) _ _ _;refine ax ?_;unfold Builtin.SmallTypes.ownedTupleIsFree;refine ax (dU hz rfl (x:=.none) rfl (aK ?_));simp only [if_true];refine ax (jo (ax (dU hz rfl (x:=.ref TO) rfl ?_)));refine ax (lC hz 125 λg1 z1 e1=>ax ?_);replace z1:IsZip g1 z TI TO .ellipsis:=z1;simp only [List.zipIdx_cons,List.zipIdx_nil,List.forIn_cons,List.forIn_nil];refine ax (ax (wpAny_onRaise ?_));show wpAny _ _ (Builtin.SmallTypes.nextOf (.ref i1) >>= _) _ _ _;refine ax (n1 _ _ _ (λc o hc q=>e1.extBut _ _ hc q) λg2 e e2 he=>?_);obtain⟨oe,VY,Zr⟩:=he;have z2:IsZip g2 z TI TO .ellipsis:=e2 _ _ D.i1z.symm z1;have hez:e≠z:=λx=>by subst x;rw [z2] at VY;cases VY;simp at Zr
 refine lC z2 125 λg3 _ e3=>hE g3 e (λc o c1 _ c3 _ x=>e3.extBut _ _ c1 (e2 _ _ c3 (e1.extBut _ _ c1 x))) ⟨oe,e3.extBut _ _ hez VY,Zr⟩
end
structure RZn (h:Heap)(z TI TO i1 i2 l1 l2:Addr) (n i:Nat):Prop where
 le:i<=n
 hz:IsZip h z TI TO .none
 hI:IsPair h TI (.ref i1) (.ref i2)
 hO:∃a b,IsPair h TO a b
 h1:h.IsRevIter i1 l1 ((n:Int) - 1 - (i:Int))
 h2:h.IsListIter i2 l2 i
structure Tt (z TI TO i1 i2 l1 l2:Addr):Prop extends XN z TI TO i1 i2 where
 TITO:TI≠TO
 TIi1:TI≠i1
 TIi2:TI≠i2
 l1z:l1≠z
 l2z:l2≠z
 l2TO:l2≠TO
 l2i1:l2≠i1
section
variable {prog:Program}{w:World}{A:Around}{E:z0b}{s:Shared}
def sr {z TI TO i1 i2 l1 l2:Addr}{k1 k2:Nat}{xs ys:z0k}{x y a b:Value}{Q:z0j->Shared->Prop}(D:Tt z TI TO i1 i2 l1 l2)
  (hz:IsZip s.heap z TI TO .none)(NJ:IsPair s.heap TI (.ref i1) (.ref i2))(Wu:IsPair s.heap TO a b)
  (h1:s.heap.IsRevIter i1 l1 (k1:Int))(h2:s.heap.IsListIter i2 l2 k2)(OK:s.heap.IsList l1 xs)(mH:s.heap.IsList l2 ys)(hx:xs[k1]?=some x)(hy:ys[k2]?=some y)
  (hQ:∀h',IsZip h' z TI TO (rawInt s.heap.objs.size)->IsPair h' TO x y->h'.IsRevIter i1 l1 ((k1:Int) - 1)->h'.IsListIter i2 l2 (k2+1)->IsPair h' s.heap.objs.size x y->h'.objs.size=179 ->
   (∀c o,c≠z->c≠TO->c≠i1->c≠i2->s.heap.get? c=111->h'.get? c=111)->Q (some (197)) 216) :
  wpAny 147 A (pyNext (.ref z)) Q E s:=by
 have hT:s.TypeIs (.ref z) "zip" := ⟨_,hz,rfl⟩;have YX:i1 < s.heap.objs.size:=by obtain⟨o,e,_⟩:=h1;exact aP e
 have Vg:i2 < s.heap.objs.size:=by obtain⟨o,e,_⟩:=h2;exact aP e
 unfold pyNext;refine ax (j4 (p6 (name:=Str.ofString "__next__") hT F.slot_zip_next
  (j5 F.slot_zip_next hT F.entry_zip_next (C6 (N1:=λh=>h.IsRevIter i1 l1 ((k1:Int) - 1)) (N2:=λh=>h.IsListIter i2 l2 (k2+1)) D.1 hz NJ Wu YX Vg ?_ ?_ (λh h' p k=>p.at k) (λh h' p k=>p.at k)
   λh' a1 a2 a3 a4 a5 a6 a7=>aK (hQ h' a1 a2 a3 a4 a5 a6 a7)) (F.args_zip_next_1 _))))
 .exact λs1 Q E up q=>qy (h1.at λo e=>up i1 o D.i1z e) (OK.at λo e=>up l1 o D.l1z e) hx q
 exact λs1 Q E up q=>wpAny_nextOf_list_item (h2.at λo e=>up i2 o D.i2z D.TOi2.symm D.i12.symm e) (mH.at λo e=>up l2 o D.l2z D.l2TO D.l2i1 e) hy q
def uj {z TI TO i1 i2 l1 l2:Addr}{Q:z0j->Shared->Prop}(hh:A.handled=none)(D:Tt z TI TO i1 i2 l1 l2)
  (hz:IsZip s.heap z TI TO .none)(NJ:IsPair s.heap TI (.ref i1) (.ref i2))(h1:s.heap.IsRevIter i1 l1 (-1))
  (hQ:∀h',(∀c o,c≠z->c≠TO->c≠i1->c≠i2->s.heap.get? c=111->h'.get? c=111)->Q none 216):wpAny 147 A (pyNext (.ref z)) Q E s:=by
 have hT:s.TypeIs (.ref z) "zip" := ⟨_,hz,rfl⟩;unfold pyNext;refine ax (j4 (p6 (name:=Str.ofString "__next__") hT F.slot_zip_next
  (j5 F.slot_zip_next hT F.entry_zip_next (E2 (TO:=TO) (i2:=i2) (a:=.none) (b:=.none) D.1 hz NJ ?_ λh' e hk he=>?_) (F.args_zip_next_1 _))))
 .exact λs1 Q E up q=>sC hh (h1.at λo e=>up i1 o D.i1z e) q
 obtain⟨o,ho,hc⟩:=he;refine ax (wpAny_isInstance (T := "StopIteration") (b:=true) ⟨o,ho,hc⟩ isSubtype_stop ?_);exact aK (hQ _ hk)
end
abbrev IL (h:Heap)(l2:Addr):Heap:=h.push { cls:=.type "list_iterator",data:=.fields #[.ref l2,.int 0 0] }
abbrev IK (h:Heap)(r l2:Addr):Heap:=(IL h l2).push { cls:=185,data:=.seq #[.ref r,.ref h.objs.size] }
abbrev IJ (h:Heap)(r l2:Addr):Heap:=(IK h r l2).push { cls:=185,data:=.seq #[.none,.none] }
abbrev EZ (h:Heap)(r l2:Addr):Heap:=(IJ h r l2).push { cls:=.type "zip",data:=.fields #[.none,.bool false,.bool false,.ref (IL h l2).objs.size,.ref (IK h r l2).objs.size] }
def sD (r l1 l2:Addr) (i:Int)(ys:z0k) :
  Meets (Builtin.«zip.__new__» ⟨[.type "zip",.ref r,.ref l2],[]⟩) (λ_ R s=>s.heap.IsRevIter r l1 i/\s.heap.IsList l2 ys /\
   R (.ok (.ret (.ref (IJ s.heap r l2).objs.size))) { s with heap:=EZ s.heap r l2 }) :=
 .of_wp λprog w A R s h=>by
  obtain⟨hp,g,d,tk,os⟩:=s;obtain⟨OK,mH,h⟩:=h;have Nv:=sub_zip;have hL1:Heap.IsRevIter (Shared.heap ⟨hp,g,d,tk,os⟩) r l1 i:=OK;have ON:Heap.IsList (Shared.heap ⟨hp,g,d,tk,os⟩) l2 ys:=mH
  wp_walk using wpAny_pyIter_revIter hL1,jV ON
  exact⟨_,rfl,h⟩
section
variable {prog:Program}{w:World}{A:Around}{E:z0b}{s:Shared}
def El {r l1 l2:Addr}{i:Int}{ys:z0k}(hr:s.heap.IsRevIter r l1 i)(mH:s.heap.IsList l2 ys)
  (h:∀h',IsZip h' (s.heap.objs.size+3) 190 (s.heap.objs.size+2) .none->IsPair h' 190 (.ref r) (197) ->
   IsPair h' (s.heap.objs.size+2) .none .none->h'.IsListIter s.heap.objs.size l2 0 ->
   (∀c o,s.heap.get? c=111->h'.get? c=111)->Q (.ref (s.heap.objs.size+3)) 216) :
  wpAny 147 A (call (.type "zip") [.ref r,.ref l2]) Q E s:=by
 refine callType_new F.called_zip nofun (F.typeCall_zip_2 _ _) (F.newCall_zip_2 _ _) (λobj=>F.args_object_init_3 obj _ _) F.entry_zip_new
  (sD r l1 l2 i ys) ⟨hr,mH,?_⟩
 have z1:(IL s.heap l2).objs.size=179:=i5 ..;have z2:(IK s.heap r l2).objs.size=s.heap.objs.size+2:=by rw [i5,z1]
 have z3:(IJ s.heap r l2).objs.size=s.heap.objs.size+3:=by rw [i5,z2]
 have g4:(EZ s.heap r l2).get? (IJ s.heap r l2).objs.size=some _:=cu _ rfl;have g3:(EZ s.heap r l2).get? (IK s.heap r l2).objs.size=some _:=a_ _ (cu _ rfl);have g2:(EZ s.heap r l2).get? (IL s.heap l2).objs.size=some _:=a_ _ (a_ _ (cu _ rfl));have g1:(EZ s.heap r l2).get? s.heap.objs.size=some _:=a_ _ (a_ _ (a_ _ (cu _ rfl)));show _/\_;rw [z1,z2,z3] at g4;rw [z2] at g3;rw [z1] at g2;rw [z3];exact⟨⟨_,g4,rfl⟩,h _ g4 g2 g3 ⟨_,g1,rfl,rfl⟩ λc o x =>
  a_ _ (a_ _ (a_ _ (a_ _ x)))⟩
end
def Ib (K:aV)(a b:Addr) (n:Nat):It :=
 ⟨λi H=>i < n/\∃xs ys y,aF K H a xs/\xs.length=n/\aF K H b ys/\ys[i]?=some y,λi H x H'=>∃t y1 y2,x=.ref t/\H t=none/\H'=upd H t (.tup [y1,y2])/\(∀xs,aF K H a xs->xs[n - 1 - i]?=some y1)/\∀ys,aF K H b ys->ys[i]?=some y2,λi _=>n<=i⟩
def C9 {w:World}{K:aV}{k:Nat}(l1 l2 z TI TO i1 i2:Addr) (n:Nat)(ap:Tt z TI TO i1 i2 l1 l2) :
  Turn P w K (.Tuple elts k wc) (Ib K l1 l2 n) [z,TI,TO,i1,i2] z (λi h=>RZn h z TI TO i1 i2 l1 l2 n i) where
 mem:=108
 obj:=λi h st b hb=>by
  obtain⟨_,hz,hI,⟨a,c,hO⟩,⟨o1,e1,c1,d1⟩,⟨o2,e2,c2,d2⟩⟩:=st;simp only [aS,ni,or_false] at hb;rcases hb with rfl | rfl | rfl | rfl | rfl
  .exact⟨_,hz,λv z=>by cases z⟩
  .exact⟨_,hI,λv z=>by cases z⟩
  .exact⟨_,hO,λv z=>by cases z⟩
  .exact⟨o1,e1,λv z=>by rw [d1] at z;cases z⟩
  exact⟨o2,e2,λv z=>by rw [d2] at z;cases z⟩
 keep:=λi h h' st k=>by
  obtain⟨le,hz,hI,⟨a,c,hO⟩,h1,h2⟩:=st;exact⟨le,k z 125 _ hz,k TI 125 _ hI,⟨a,c,k TO 125 _ hO⟩,h1.at λo q=>k i1 125 o q,h2.at λo q=>k i2 125 o q⟩
 item:=by
  intro X hP hw hK hc i ai s σ H E I hf st hg;subst hP hw hK;obtain⟨hi,xs,ys,y,hx,hn,hy,ey⟩:=hg;obtain⟨is1,rv1,p1,_⟩:=I.list hx;obtain⟨is2,rv2,p2,_⟩:=I.list hy;have ex:xs[n - 1 - i]?=some (xs[n - 1 - i]'∅):=cN ∅;obtain⟨u,hu,ru⟩:=rv1.get ex;obtain⟨v,hv,rv⟩:=rv2.get ey;obtain⟨le,hz,hI,⟨a,c,hO⟩,h1,h2⟩:=st;have e1:(n:Int) - 1 - (i:Int)=((n - 1 - i:Nat):Int):=by omega
  have e2:((n - 1 - i:Nat):Int) - 1=(n:Int) - 1 - ((i+1:Nat):Int):=by omega
  rw [e1] at h1;refine sr ap hz hI hO h1 h2 p1.isList p2.isList (x:=u) (y:=v) (by simpa using hu) (by simpa using hv) λh' Iu hO' ZI h2' hT hsz kk=>?_;rw [e2] at ZI;refine⟨_,rfl,wpAny_letOwnedTupleGo_zip Iu λh3 hz3 sb=>?_⟩;have YW:∀b o,178->b≠s.heap.objs.size:=λb o q=>bp (aP q);have nz:s.heap.objs.size≠z:=(YW z _ hz).symm;have T2:IsPair h3 s.heap.objs.size u v:=(sb.2 _ nz).trans hT;have k3:∀b o,b∉[z,TI,TO,i1,i2]->178->h3.get? b=111:=λb o nb q=>by
   simp only [aS,ni,or_false,not_or] at nb;exact(sb.2 b nb.1).trans (kk b o nb.1 nb.2.2.1 nb.2.2.2.1 nb.2.2.2.2 q)
  have kTI:h3.get? TI=s.heap.get? TI:=(sb.2 TI ap.TIz).trans ((kk TI _ ap.TIz ap.TITO ap.TIi1 ap.TIi2 hI).trans hI.symm);have I2:Inv X ai σ (upd H s.heap.objs.size (.tup [xs[n - 1 - i]'∅,y])) { s with heap:=h3,toks:=s.toks }:=Inv.IS I hf k3 T2 ru rv;refine⟨197,_,I2,rfl,⟨_,_,y,rfl,I.bw.fresh (aG _),rfl,λzs hz=>by rw [I.je hz hx];exact ex,λzs hz=>by rw [I.je hz hy];exact ey⟩,⟨hi,hz3,kTI.trans hI,⟨_,_,(sb.2 TO ap.TOz).trans hO'⟩,ZI.at λo q=>(sb.2 i1 ap.i1z).trans q,h2'.at λo q=>(sb.2 i2 ap.i2z).trans q⟩,λb hb=>?_⟩;have sU:∃o,178:=by
   obtain⟨o1,e1,_⟩:=h1;obtain⟨o2,e2,_⟩:=h2;simp only [aS,ni,or_false] at hb;rcases hb with rfl | rfl | rfl | rfl | rfl
   .exact⟨_,hz⟩
   .exact⟨_,hI⟩
   .exact⟨_,hO⟩
   .exact⟨_,e1⟩
   exact⟨_,e2⟩
  obtain⟨o,q⟩:=sU;rw [aj (YW b o q)];exact(hf b hb).1
 done:=by
  intro X hP hw hK hc i ai s σ H E I hf st hg;subst hP hw hK;have SH:n<=i:=hg;obtain⟨le,hz,hI,⟨a,c,hO⟩,h1,h2⟩:=st;have e1:(n:Int) - 1 - (i:Int)=-1:=by omega
  rw [e1] at h1;refine uj (I.ok.hd hc) ap hz hI h1 λh' kk=>⟨rfl,Inv.IT (t':=s.toks) I hf λb o nb q=>?_⟩;simp only [aS,ni,or_false,not_or] at nb;exact kk b o nb.1 nb.2.2.1 nb.2.2.2.1 nb.2.2.2.2 q
 self:=λ_ _ _ _ _ st h=>wpAny_pyIter_zip st.hz h
def Qu (K:aV)(ta:TA)(tb:TE):TI:=λσ H R=>ta σ H λvs H1=>∃a xs,vs=[.ref a]/\aF K H1 a xs/\tb σ H1 λy H2=>∃b ys,y=.ref b/\aF K H2 a xs/\aF K H2 b ys/\R (Ib K a b xs.length) H2
def Je {n r a b:Nat}(lr:r < n)(l1:a < n)(l2:b < n)(nr:b≠r):Tt (n+3) (n+1) (n+2) r n a b where
 TIz:=by show (n+1:Nat)≠n+3;omega
 TOz:=by show (n+2:Nat)≠n+3;omega
 i1z:=by show (r:Nat)≠n+3;omega
 i2z:=by show (n:Nat)≠n+3;omega
 TOi1:=by show (n+2:Nat)≠r;omega
 TOi2:=by show (n+2:Nat)≠n;omega
 i12:=by show (r:Nat)≠n;omega
 TITO:=by show (n+1:Nat)≠n+2;omega
 TIi1:=by show (n+1:Nat)≠r;omega
 TIi2:=by show (n+1:Nat)≠n;omega
 l1z:=by show (a:Nat)≠n+3;omega
 l2z:=by show (b:Nat)≠n+3;omega
 l2TO:=by show (b:Nat)≠n+2;omega
 l2i1:=nr
def Ju {X:Cx}{k:Nat}{l b:Expr}{ta:TA}{tb:TE}(hgZ:Gl X "zip")(hmZ:X.mg "zip"=none)(hgR:Gl X "reversed")(hmR:X.mg "reversed"=none)(ha:PA X [l] ta)(hb:PE X b tb)
  (he:starEach [.Call (.Name "reversed" p2) [l] [] MT,b] X.env=(false,eval (.Call (.Name "reversed" p2) [l] [] MT) X.env)::starEach [b] X.env:=by rfl)(mE:(backTo PX (starEach [b] X.env)).any 56=false:=by rfl)
  (hs:starEach [l] X.env=[(false,eval l X.env)]:=by rfl)(Sy:starEach [b] X.env=[(false,eval b X.env)]:=by rfl) :
  PI X (.Tuple elts k wc) (.Call (.Name "zip" p1) [.Call (.Name "reversed" p2) [l] [] MT,b] [] PX) (Qu X.K ta tb):=by
 intro ai s σ H R I h;refine jM (gM I hgZ hmZ (by decide +kernel:bootBuiltins "zip"=some (.type "zip")) ?_ nofun nofun);refine q9 ?_ he mE;rw [he];show wpAny _ _ (spliced ((false,_)::backTo PX (starEach [b] X.env))) _ _ s;rw [Sy];show wpAny _ _ (spliced ((false,_)::(false,eval b X.env)::[])) _ _ s;refine pV ?_;refine Call_ (gM I hgR hmR boot_reversed (q9 (cE (ha MT ai s σ H _ I h) λus s1 aW=>?_) hs rfl));obtain⟨vs,H1,I1,r1,q1⟩:=aW;obtain⟨a,xs,e,hq,q⟩:=q1;subst e;obtain⟨u,rfl,rx⟩:=r1.one;cases rx;obtain⟨aN,rv,pl,hz⟩:=I1.list hq;have bN:=rv.length;refine call_reversed_list pl.isList ?_;have hit:(s1.heap.push (revObj a ((aN.toArray.size:Int) - 1))).IsRevIter s1.heap.objs.size a ((xs.length:Int) - 1 - ((0:Nat):Int)):=by
  refine⟨_,cu _ rfl,rfl,?_⟩;have e:(aN.toArray.size:Int) - 1=(xs.length:Int) - 1 - ((0:Nat):Int):=by rw [cb,<-bN];simp
  rw [e];rfl
 have I1':=I1.kept (h':=s1.heap.push (revObj a ((aN.toArray.size:Int) - 1))) (t':=s1.toks) λb o e=>a_ _ e;obtain⟨or,er,cr,dr⟩:=id hit;have I1p:=I1'.pinned (fp:=[s1.heap.objs.size]) (λb hb=>by
   have e:b=s1.heap.objs.size:=215
   subst e;exact I1.kA (aG _) (I1.bw.fresh (aG _))) (λb hb=>by
   have e:b=s1.heap.objs.size:=215
   subst e;exact⟨or,er,λv z=>by rw [dr] at z;cases z⟩)
 refine pV (cE (hb _ _ σ H1 _ I1p q) λv s2 aW=>?_);obtain⟨y,H2,I2,ry,b',ys,ey,hx2,hy2,q2⟩:=aW;refine rh ?_;subst ey;cases (show v=Value.ref b' from ry);obtain⟨pr,pn,_⟩:=I2.pin (s1.heap.objs.size,or) (fO _ (fO _ (fJ (bD.mpr rfl) er)));replace pr:s2.heap.get? s1.heap.objs.size=some or:=pr;replace pn:H2 s1.heap.objs.size=none:=pn;have QX:s2.heap.IsRevIter s1.heap.objs.size a ((xs.length:Int) - 1 - ((0:Nat):Int)):=⟨or,pr,cr,dr⟩;have I3:=I2.jb;obtain⟨j1,v1,t1,z1⟩:=I3.list hx2;obtain⟨j2,v2,t2,z2⟩:=I3.list hy2;have t1:=t1.isList;have t2:=t2.isList;refine El QX t2 λh' Iu hI hO hi2 hk=>?_;refine wpAny_pyIter_zip Iu ?_;obtain⟨o1,g1,_,n1,d1⟩:=id t1;obtain⟨o2,g2,_,n2,d2⟩:=id t2;have l1:=aP g1;have l2:=aP g2;have lr:=aP pr;have nr:b'≠s1.heap.objs.size:=λe=>by
  rw [e,pr] at g2;cases g2;rw [dr] at d2;cases d2
 have ap:=Je lr l1 l2 nr;refine⟨s2.heap.objs.size+3,_,_,_,H2,rfl,I3.kept (t':=s2.toks) λb o e=>hk b o e,C9 (K:=X.K) a b' _ _ _ _ _ xs.length ap,
  ⟨d6 _,Iu,hI,⟨_,_,hO⟩,QX.at λo e=>hk _ o e,hi2⟩,λc hc=>?_,q2⟩
 simp only [aS,ni,or_false] at hc;rcases hc with rfl | rfl | rfl | rfl | rfl
 .exact I3.kA (j7 _ _) (I3.bw.fresh (j7 _ _))
 .exact I3.kA (j7 _ _) (I3.bw.fresh (j7 _ _))
 .exact I3.kA (j7 _ _) (I3.bw.fresh (j7 _ _))
 .exact I1.kA (aG _) pn
 exact I3.kA (aG _) (I3.bw.fresh (aG _))
def Hv {K:aV}{a b:Addr}{xs ys:115}{g:TG}{tb:TS}{D:Ends}{σ:St}(hxy:xs.length<=ys.length)(Pv:Nat->148)(h0:Pv 0 σ H)(hl:∀i σ H,i<=xs.length->Pv i σ H->aF K H a xs/\aF K H b ys)
  (hs:∀i x y σ H t,i < xs.length->xs[xs.length - 1 - i]?=some x->ys[i]?=some y->Pv i σ H->H t=none->g (.ref t) σ (upd H t (.tup [x,y])) λσ2 H2=>tb { D with nx:=Pv (i+1),ct:=Pv (i+1),bk:=D.nx } σ2 H2)(hd:∀σ H,Pv xs.length σ H->D.nx σ H) :
  ∃W:Nat->Nat->148,(∃m,W 0 m σ H)/\∀i m σ H,W i m σ H ->
   ((Ib K a b xs.length).stop i H/\D.nx σ H)\/((Ib K a b xs.length).go i H/\∃N:148,(∀σ' H',N σ' H'->∃m',m' < m/\W (i+1) m' σ' H')/\∀x H',(Ib K a b xs.length).nu i H x H'->321):=by
 refine 341;rintro i m σ H ⟨rfl,hi,p⟩;obtain⟨q1,q2⟩:=hl i σ H hi p;by_cases iM:i < xs.length
 .refine .inr ⟨⟨iM,xs,ys,ys[i]'∅,q1,rfl,q2,cN ∅⟩,Pv (i+1),λσ' H' p'=>⟨xs.length - (i+1),∅,rfl,iM,p'⟩,λx H' y=>?_⟩;obtain⟨t,y1,y2,rfl,ht,rfl,e1,e2⟩:=y;exact hs i y1 y2 σ _ t iM (e1 xs q1) (e2 ys q2) p ht
 have e:i=xs.length:=by omega
 subst e;exact .inl ⟨aG _,hd σ H p⟩
def Eo {X:Cx}(hc:X.calm=true):fu X (.builtin "max") (λxs H Q=>∃a ns,xs=[.ref a]/\aF X.K H a (List.map V.int ns)/\ns≠[]/\∀m∈ns,(∀n∈ns,n<=m)->Q (.int m) H):=by
 intro ai s σ H xs us Q I r h;obtain⟨a,ns,rfl,hq,ne,q⟩:=h;obtain⟨u,rfl,rx⟩:=vals1 r;cases rx;obtain⟨aN,rv,pl,hz⟩:=I.list hq;have hi:=intsAre_of rv;obtain⟨xs,e⟩:=hi.allInts.items;have qR:ns=xs.toList.map 56:=by rw [<-hi.numsOf,<-nums_intItems,<-e]
 have hsz:0 < xs.size:=by
  rcases Nat.eq_zero_or_pos xs.size with z | z
  .exact absurd (by rw [qR];simp [Array.eq_empty_of_size_eq_zero z]) ne
  exact z
 have hl:=pl.isList;rw [e] at hl;refine max_intList (I.ok.hd hc) hl hsz λv h' tk hv hk=>?_;obtain⟨t,rfl⟩:=intItems_at hv;obtain⟨h1,h2⟩:=argBest_gt (numAt xs) (xs.size - 1);refine⟨.int _,H,I.kept hk,159,q _ ?_ λn hn=>?_⟩
 .rw [qR,numAt_eq];exact getD_mem (by rw [aC,pW];omega)
 rw [qR] at hn;obtain⟨j,hj,rfl⟩:=mem_getD hn;rw [aC,pW] at hj;rw [<-numAt_eq];exact h2 j ∅
def En {X:Cx}(hc:X.calm=true):fu X (.builtin "min") (λxs H Q=>∃a ns,xs=[.ref a]/\aF X.K H a (List.map V.int ns)/\ns≠[]/\∀m∈ns,(∀n∈ns,m<=n)->Q (.int m) H):=by
 intro ai s σ H xs us Q I r h;obtain⟨a,ns,rfl,hq,ne,q⟩:=h;obtain⟨u,rfl,rx⟩:=vals1 r;cases rx;obtain⟨aN,rv,pl,hz⟩:=I.list hq;have hi:=intsAre_of rv;obtain⟨xs,e⟩:=hi.allInts.items;have qR:ns=xs.toList.map 56:=by rw [<-hi.numsOf,<-nums_intItems,<-e]
 have hsz:0 < xs.size:=by
  rcases Nat.eq_zero_or_pos xs.size with z | z
  .exact absurd (by rw [qR];simp [Array.eq_empty_of_size_eq_zero z]) ne
  exact z
 have hl:=pl.isList;rw [e] at hl;refine min_intList (I.ok.hd hc) hl hsz λv h' tk hv hk=>?_;obtain⟨t,rfl⟩:=intItems_at hv;obtain⟨h1,h2⟩:=argBest_lt (numAt xs) (xs.size - 1);refine⟨.int _,H,I.kept hk,159,q _ ?_ λn hn=>?_⟩
 .rw [qR,numAt_eq];exact getD_mem (by rw [aC,pW];omega)
 rw [qR] at hn;obtain⟨j,hj,rfl⟩:=mem_getD hn;rw [aC,pW] at hj;rw [<-numAt_eq];exact h2 j ∅
end L2
namespace eZ
open PySem L2 M11 PySem.W
abbrev rX:Stmt:=top 64
section
def EC (K:aV)(mg:z0c)(C:Addr)(x:Str):Prop:=∃a:Addr,mg x=some (.ref a)/\kitOne K (.ref C) (.ref a)=some false
structure Oi (K:aV)(mg:z0c)(C W:Addr):Prop where
 o1:EC K mg C "NoPattern"
 o2:EC K mg C "NoWord"
 o3:EC K mg C "NoRules"
 o4:EC K mg C "Twice"
 o5:EC K mg C "Endless"
 o6:EC K mg C "Unmet"
 o7:EC K mg C "Loop"
 o8:EC K mg C "NoRow"
 o9:EC K mg C "TooMany"
 o10:EC K mg C "Clash"
 o11:EC K mg C "Refused"
 o12:EC K mg C "NoDeed"
 mC:mg "Vast"=some (.ref C)
 mW:mg "WrightError"=some (.ref W)
 mV:mg "ValueError"=none
 xg:XG K C
 kV:kitOne K (.ref C) (.type "ValueError")=some true
 na:de K C "names"
 xm:exmOne K (.ref C) (.ref W)=some true
def uP (C:Addr):Sp:=λvs H Q _=>∃(ea dx:Addr)(fs:List (Str×V)),vs=[.ref ea]/\LQ H ea C dx fs/\∀H',aE H H'->Q (.bl false) H'
def p_ {ea C dx:Addr}{fs:List (Str×V)}(h:LQ H ea C dx fs)(s:aE H H'):LQ H' ea C dx fs:=⟨s _ _ h.1,s _ _ h.2⟩
def kO:aJ ["_law_caught","_law_some"] ["_law_caught"] (av rX):=182
def AX (F:iu K "_law_another" "_law_another" rX f fd)(T:Txt mg)(L:Oi K mg C W):bF P w K mg base fN 1 f fd ["_law_caught"] (uP C):=by
 obtain⟨a1,m1,k1⟩:=L.o1;obtain⟨a2,m2,k2⟩:=L.o2;obtain⟨a3,m3,k3⟩:=L.o3;obtain⟨a4,m4,k4⟩:=L.o4;obtain⟨a5,m5,k5⟩:=L.o5;obtain⟨a6,m6,k6⟩:=L.o6;obtain⟨a7,m7,k7⟩:=L.o7;obtain⟨a8,m8,k8⟩:=L.o8;obtain⟨a9,m9,k9⟩:=L.o9;obtain⟨XM,u0,G4⟩:=L.o10;obtain⟨XJ,m11,A_⟩:=L.o11;obtain⟨XI,m12,Ss⟩:=L.o12;refine F.ok kO 186 195
 .obtain⟨ea,dx,fs,rfl,_⟩:=h;rfl
 obtain⟨ea,dx,fs,rfl,xo,q⟩:=h;refine⟨_,ao (aD (i:=1) kO.nd rfl 116 (bu (af (aM dw rfl T.Bb iz (af (pv 0) (af (df (v:=.ref a1) rfl m1 rfl) ak))) (af (aM dw rfl T.Bb iz (af (pv 0) (af (df (v:=.ref a2) rfl m2 rfl) ak))) (af (aM dw rfl T.Bb iz (af (pv 0) (af (df (v:=.ref a3) rfl m3 rfl) ak))) ak)))))
  (ao (aD (i:=1) kO.nd rfl 116 (aU pA (pv 1) (bu (af (aM dw rfl T.Bb iz (af (pv 0) (af (df (v:=.ref a4) rfl m4 rfl) ak))) (af (aM dw rfl T.Bb iz (af (pv 0) (af (df (v:=.ref a5) rfl m5 rfl) ak))) (af (aM dw rfl T.Bb iz (af (pv 0) (af (df (v:=.ref a6) rfl m6 rfl) ak))) ak))))))
  (ao (aD (i:=1) kO.nd rfl 116 (aU pA (pv 1) (bu (af (aM dw rfl T.Bb iz (af (pv 0) (af (df (v:=.ref a7) rfl m7 rfl) ak))) (af (aM dw rfl T.Bb iz (af (pv 0) (af (df (v:=.ref a8) rfl m8 rfl) ak))) (af (aM dw rfl T.Bb iz (af (pv 0) (af (df (v:=.ref a9) rfl m9 rfl) ak))) ak))))))
  (ar (br (aM (Er rfl) rfl T.any PyProof.Rows.boot_any (af (aU pA (pv 1) (bu (af (aM dw rfl T.Bb iz (af (pv 0) (af (df (v:=.ref XM) rfl u0 rfl) ak))) (af (aM dw rfl T.Bb iz (af (pv 0) (af (df (v:=.ref XJ) rfl m11 rfl) ak))) (af (aM dw rfl T.Bb iz (af (pv 0) (af (df (v:=.ref XI) rfl m12 rfl) ak))) ak))))) ak)))))),?_⟩
 have xg:=L.xg;refine⟨_,rfl,ea,C,dx,fs,.ref a1,.ref a1,false,rfl,xo,xg,λ_ h=>h,k1,_,rfl,ea,C,dx,fs,.ref a2,.ref a2,false,rfl,xo,xg,λ_ h=>h,k2,_,rfl,ea,C,dx,fs,.ref a3,.ref a3,false,rfl,xo,xg,λ_ h=>h,k3,O4,λL1 h1=>?_⟩;have x1:=p_ xo (ah h1 (.lst [.bl false,.bl false,.bl false]));refine⟨_,rfl,_,rfl,ea,C,dx,fs,.ref a4,.ref a4,false,rfl,x1,xg,λ_ h=>h,k4,_,rfl,ea,C,dx,fs,.ref a5,.ref a5,false,rfl,x1,xg,λ_ h=>h,k5,_,rfl,ea,C,dx,fs,.ref a6,.ref a6,false,rfl,x1,xg,λ_ h=>h,k6,O4,λL2 h2=>?_⟩;refine⟨L1,L2,_,_,rfl,rfl,ah h2 _ _ _ ae,ae,zl6,λL3 h3=>?_⟩;have x2:=p_ (p_ x1 (ah h2 (.lst [.bl false,.bl false,.bl false]))) (ah h3 (.lst ([.bl false,.bl false,.bl false]++[.bl false,.bl false,.bl false])));refine⟨_,rfl,_,rfl,ea,C,dx,fs,.ref a7,.ref a7,false,rfl,x2,xg,λ_ h=>h,k7,_,rfl,ea,C,dx,fs,.ref a8,.ref a8,false,rfl,x2,xg,λ_ h=>h,k8,_,rfl,ea,C,dx,fs,.ref a9,.ref a9,false,rfl,x2,xg,λ_ h=>h,k9,O4,λL4 h4=>?_⟩;refine⟨L3,L4,_,_,rfl,rfl,ah h4 _ _ _ ae,ae,zl9,λL5 h5=>?_⟩;have x3:=p_ (p_ x2 (ah h4 (.lst [.bl false,.bl false,.bl false]))) (ah h5 (.lst ([.bl false,.bl false,.bl false,.bl false,.bl false,.bl false]++[.bl false,.bl false,.bl false])));refine⟨_,rfl,_,rfl,ea,C,dx,fs,.ref XM,.ref XM,false,rfl,x3,xg,λ_ h=>h,G4,_,rfl,ea,C,dx,fs,.ref XJ,.ref XJ,false,rfl,x3,xg,λ_ h=>h,A_,_,rfl,ea,C,dx,fs,.ref XI,.ref XI,false,rfl,x3,xg,λ_ h=>h,Ss,O4,λL6 h6=>?_⟩;refine⟨L5,L6,_,_,rfl,rfl,ah h6 _ _ _ ae,ae,TJ,λL7 h7=>?_⟩;exact⟨L7,List.replicate 12 false,rfl,aF.of ae,q _ ((ah h1 _).trans ((ah h2 _).trans ((ah h3 _).trans ((ah h4 _).trans ((ah h5 _).trans ((ah h6 _).trans (ah h7 _)))))))⟩
end
abbrev FD:Stmt:=top 60
section
def Fe:z0s:=[31,15,7,3,1]
def IW {i:Nat}{r:Int}(h:Fe[i]?=some r):1<=r/\(i=0->r=31):=by
 unfold Fe at h;rcases i with _ | _ | _ | _ | _ | i
 all_goals first | (simp at h;omega) | (simp at h)
def RU:Nat->Nat->Int->Prop
 | 0,n,y=>n=0/\y<=68
 | 1,n,y=>n<=2/\y<=30/\(n=2->y<=6)
 | 2,n,y=>n<=3/\y<=14/\(n=3->y=0)
 | 3,n,y=>n<=4/\y<=6/\(n=4->y=0)
 | 4,n,y=>n<=5/\y<=2/\(n=5->y=0)
 | _,n,y=>n<=6
def RU.next {i n c:Nat}{y y' r:Int}(h:Fe[i]?=some r)(j:RU i n y)(e:y'=y - (c:Int) * r)(y0:0<=y')(yr:y' < r):RU (i+1) (n+c) y':=by
 unfold Fe at h;rcases i with _ | _ | _ | _ | _ | i
 .have hr:31=r:=by simpa using h
  subst hr;obtain⟨a,b⟩:=j;show n+c<=2/\y'<=30/\(n+c=2->y'<=6);refine⟨?_,?_,λ_=>?_⟩ <;> omega
 .have hr:15=r:=by simpa using h
  subst hr;obtain⟨a,b,d⟩:=j;show n+c<=3/\y'<=14/\(n+c=3->y'=0);refine⟨?_,?_,λ_=>?_⟩ <;> (rcases Nat.lt_or_ge n 2 with h2 | h2 <;> first | omega | (have:=d ∅;omega))
 .have hr:7=r:=by simpa using h
  subst hr;obtain⟨a,b,d⟩:=j;show n+c<=4/\y'<=6/\(n+c=4->y'=0);refine⟨?_,?_,λ_=>?_⟩ <;> (rcases Nat.lt_or_ge n 3 with h2 | h2 <;> first | omega | (have:=d ∅;omega))
 .have hr:3=r:=by simpa using h
  subst hr;obtain⟨a,b,d⟩:=j;show n+c<=5/\y'<=2/\(n+c=5->y'=0);refine⟨?_,?_,λ_=>?_⟩ <;> (rcases Nat.lt_or_ge n 4 with h2 | h2 <;> first | omega | (have:=d ∅;omega))
 .have hr:1=r:=by simpa using h
  subst hr;obtain⟨a,b,d⟩:=j;show n+c<=6;rcases Nat.lt_or_ge n 5 with h2 | h2 <;> first | omega | (have:=d ∅;omega)
 simp at h
def U9:St->Nat
 | [_,_,_,some (V.int y),_,_]=>y.toNat
 | _=>0
def Fo (K:aV):Sp:=λvs H Q _=>∃(L:Addr) (ns:z0r) (z:Int),vs=[.ref L,.int z]/\aF K H L (ns.map V.str)/\ns.length=5/\32<=z/\z<=69 /\
 ∀(t:Addr) (last:z0r)(H':Hp),H t=none->aE H H'->H' t=some (.tup (last.map V.str))->last.length<=6->(∀p∈last,p∈ns)->(∃n4,ns[4]?=some n4/\n4∈last)->Q (.ref t) H'
def pb:aJ ["_law_names","_law_size","_law_parts","_law_left","_law_name","_law_rules_here"] ["_law_names","_law_size"] (av FD):=182
def JH (F:iu K "_law_last" "_law_last" FD f fd)(T:Txt mg)(hz:mg "zip"=none)(hv:mg "reversed"=none):bF P w K mg base fN 1 f fd ["_law_names","_law_size"] (Fo K):=by
 refine F.ok pb 186 195
 .obtain⟨L,ns,z,rfl,_⟩:=h;rfl
 obtain⟨L,ns,z,rfl,hL,h5,z1,z2,q⟩:=h;refine⟨_,ao (aD (i:=2) pb.nd rfl 116 (bu ak))
  (ao (aD (i:=3) pb.nd rfl 116 (aU wQ (pv 1) au))
  (ao (b_ cD rfl (Ju rfl hz rfl hv (af (pv 0) ak) (bu (af au (af au (af au (af au (af au ak))))))) (e_ rfl (aI (ay (i:=4) pb.nd rfl 116) (aI (ay (i:=5) pb.nd rfl 116) cy)))
   (ar (iE cD (bf P1 (pv 3) (pv 5) (bz _))
    (ao (cv (dY fY gE gF bR (pv 2) (af (pv 4) ak)))
    (ar (aD (i:=3) pb.nd rfl 116 (aU wQ (pv 3) (pv 5))))))))
  (ar (br (bh fj rfl T.tup rB (af (pv 2) ak)))))),?_⟩
 refine⟨oU,λL2 ON=>?_⟩;have s1:=ah ON 128;have e1:upd H L2 128 L2=some (.lst (List.map V.str [])):=ae;generalize upd H L2 128=H1 at s1 e1;refine⟨_,rfl,_,_,rfl,rfl,?_⟩;refine⟨_,rfl,L,ns.map V.str,rfl,s1.seq hL,zl5,λB hB=>?_⟩;have s2:=ah hB (.lst (Fe.map V.int));have Pz:=s1.trans s2;have e2:=s2 _ _ e1;have eB:upd H1 B (.lst (Fe.map V.int)) B=some (.lst (Fe.map V.int)):=ae;have nB:H B=none:=s1.free hB;refine⟨B,Fe.map V.int,rfl,Pz.seq hL,aF.of ae,?_⟩;have BL:B≠L2:=λe=>by rw [e,e1] at hB;cases hB
 refine Hv (xs:=ns.map V.str) (ys:=Fe.map V.int) (by rw [aC,aC,h5];decide)
  (λi σ H2=>∃(us:z0r) (y:Int)(y4 y5:Option V),σ=[bc L,some (.int z),bc L2,some (.int y),y4,y5]/\aE H H2/\H2 L2=some (.lst (us.map V.str))/\H2 B=some (.lst (Fe.map V.int))/\0<=y/\(us.length:Int)+y<=z - 1/\(∀u∈us,u∈ns)/\RU i us.length y/\(i=0->y=z - 1)/\(1<=i->∃n4,ns[4]?=some n4/\n4∈us))
  ⟨[],z - 1,none,none,rfl,Pz,e2,eB,∅,108,108,⟨rfl,∅⟩,λ_=>rfl,λh=>by omega⟩ ?_ ?_ ?_
 .rintro i σ H2 _ ⟨us,y,y4,y5,_,sm,_,DW,_⟩;exact⟨sm.seq hL,aF.of DW⟩
 .rintro i x y σ H2 tt hi ex ey ⟨us,v,y4,y5,rfl,sm,hU,DW,v0,vl,un,jj,i0,i1⟩ htt;rw [bB] at ex ey;obtain⟨n,en,rfl⟩:=b9.mp ex;obtain⟨r,er,rfl⟩:=b9.mp ey;rw [aC,h5] at en hi;obtain⟨r1,r31⟩:=IW er;refine⟨tt,_,rfl,aZ.of ae,rfl,_,_,rfl,_,_,rfl,rfl,?_⟩;have s2:=ah htt (.tup [.str n,.int r]);have uc:=sm.trans s2;have Zv:=s2 _ _ hU;have ZG:=s2 _ _ DW;generalize upd H2 tt (.tup [.str n,.int r])=H3 at s2 uc Zv ZG;refine E4 (λσ H4=>∃(C7:z0r) (y:Int),(∃c:Nat,C7.length=us.length+c/\y=v - (c:Int) * r)/\σ=[bc L,some (.int z),bc L2,some (.int y),some (.str n),some (.int r)]/\aE H H4/\H4 L2=some (.lst (C7.map V.str))/\H4 B=some (.lst (Fe.map V.int))/\0<=y/\(C7.length:Int)+y<=z - 1/\(∀u∈C7,u∈ns)/\(i=0->y=z - 1\/n∈C7)/\(1<=i->∃n4,ns[4]?=some n4/\n4∈C7))
   (λσ _=>U9 σ) ⟨us,v,⟨0,∅,108⟩,rfl,uc,Zv,ZG,v0,vl,un,λh=>.inl (i0 h),i1⟩ ?_ ?_
  .rintro σ H4 ⟨C7,y,⟨c,c1,c2⟩,rfl,Yu,Wt,ZF,y0,yl,Yj,j0,j1⟩;refine⟨_,rfl,_,rfl,_,_,rfl,rfl,_,rfl,?_⟩;refine cC (λcc=>?_) (λcc=>?_)
   .have le:r<=y:=dJ cc;have hul:(C7.length:Int)<=100:=by omega
    refine⟨_,rfl,.inl ⟨rfl,_,aF.of Wt⟩,_,rfl,L2,C7.map V.str,_,rfl,rfl,Wt,210,?_⟩;have n4:n∈ns:=cf en;refine⟨_,rfl,_,rfl,_,_,rfl,rfl,⟨C7++[n],y - r,⟨c+1,by rw [bO];show C7.length+1=_;omega,by rw [c2];push_cast;rw [Int.add_mul];omega⟩,rfl,λb o hb=>?_,?_,?_,∅,?_,λu hu=>?_,λh=>.inr 125,λh=>?_⟩,?_⟩
    .rw [aj (aq hb ON)];exact Yu b o hb
    .rw [ae,bA];rfl
    .rw [aj BL];exact ZF
    .rw [bO];show (((C7.length+1:Nat)):Int)+(y - r)<=z - 1;omega
    .rcases cK.mp hu with h | h
     .exact Yj u h
     rw [bD.mp h];exact n4
    .obtain⟨n4,a1,a2⟩:=j1 h;exact⟨n4,a1,jX _ a2⟩
    show (y - r).toNat < y.toNat;omega
   have gt:¬r<=y:=λh=>cc (ff h);refine⟨C7,y,_,_,rfl,Yu,Wt,ZF,y0,yl,Yj,by rw [c1];exact RU.next er jj c2 y0 ∅,λh=>by omega,λ_=>?_⟩;rcases Nat.eq_zero_or_pos i with h | h
   .rcases j0 h with hh | hh
    .have:=r31 h;omega
    refine⟨n,?_,hh⟩;rw [h] at en;exact en
   exact j1 h
  rintro σ H Q Q' hq ⟨a,ea,b,eb,i',j',HE,Bx,b',eb',q'⟩;exact⟨a,ea,b,eb,i',j',HE,Bx,b',eb',hq _ _ q'⟩
 rintro σ H2 ⟨us,y,y4,y5,rfl,sm,hU,DW,y0,yl,un,jj,_,i1⟩;refine⟨_,rfl,L2,us.map V.str,rfl,.inl ⟨aF.of hU,λp hp=>?_⟩⟩;exact q p us _ (sm.free hp) (sm.trans (ah hp _)) ae (by rw [aC,h5] at jj;exact jj) un (i1 (by rw [aC,h5];decide))
end
open PySem L2 M11
def sP {aa:113}{ru:aB}(h:ru∈aa):ru.1∈hd aa:=(gT _ _ _).mpr (.inr (i7 h))
def Q6 {aa:113}{x:Str}(h:x∈hd aa):∃ru∈aa,ru.1=x:=by
 rcases (gT _ _ _).mp h with h | h
 .cases h
 obtain⟨ru,a,b⟩:=cQ.mp h;exact⟨ru,a,b⟩
def vh {aa:113}{x:Str}(h:Em aa x):x∈hd aa:=by
 cases h with
 | mk h _=>exact sP h
def N0 {aa:113}{bo:z0h}(h:xI aa bo):∀y∈bo.map 56,Em aa y:=by
 induction h with
 | nil=>intro y hy;cases hy
 | @snoc bo k ru _ e _ p ih =>
  intro y hy;rw [bA] at hy;rcases cK.mp hy with h | h
  .exact ih y h
  rw [bD.mp h];exact .mk (cf e) λq hq=>ih q (p q hq)
def GX {b:Str->Bool}{zs:z0r}{i j:Nat}{x:Str}(h:JS b zs j=true)(e:zs[i]?=some x)(n:i≠j):b x=true:=by
 cases hb:b x with
 | true=>rfl
 | false =>
  have li:=(bM.mp e).1;have m:((i:Nat):Int)∈D_ b zs zs.length:=by
   unfold D_;exact cQ.mpr ⟨i,gU.mpr ⟨jq.mpr li,by rw [e];show (!(b x))=true;rw [hb];rfl⟩,rfl⟩
  unfold JS at h;rcases Bool.or_eq_true_iff.mp h with h | h
  .rw [<-dJ h] at m;cases m
  rw [<-dJ h] at m;have:=bD.mp m;omega
end eZ
namespace M11
open PySem
end M11
namespace eZ
open PySem L2 M11
def gb {aa:113}{g:G}(se:bS M11.bl aa g){x:Str}{ps:z0r}(hm:(x,ps)∈aa)(hv:∀p∈ps,(g p).isSome=true):∃n,g x=some n/\n<=1+(ps.map 198).sum:=by
 have:=se _ hm;unfold bW at this;have a1:iW g (x,ps)=true:=dW.mpr λp hp=>hv p hp;have s0:aH g (x,ps)=1+(ps.map 198).sum:=rfl;rw [a1,s0,oG] at this;cases gn:g x with
 | none=>rw [show g (x,ps).1=none from gn] at this;cases this
 | some m =>
  rw [show g (x,ps).1=some m from gn] at this;refine⟨m,rfl,?_⟩;have:¬(1+(ps.map 198).sum:Int) < m:=by
   simpa [M11.bl] using this
  omega
theorem oV (bY:z0r):∀(ps bG:z0r)(x:Str),(x∈bG\/(x∈ps/\x∉bY))->x∈qa bY bG ps
 | [],bG,x,h=>by
  rcases h with h | ⟨h,_⟩
  .exact h
  cases h
 | p::r,bG,x,h=>by
  show x∈qa bY (addW bY bG p) r;apply oV bY r;unfold addW;by_cases c:p∈bY
  .rw [aA c];rcases h with h | ⟨h,n⟩
   .exact .inl h
   rcases aS.mp h with z | z
   .exact absurd (z ▸ c) n
   exact .inr ⟨z,n⟩
  rw [az c];rcases h with h | ⟨h,n⟩
  .exact .inl ((iH _ _ _).mpr (.inl h))
  rcases aS.mp h with z | z
  .exact .inl ((iH _ _ _).mpr (.inr z))
  exact .inr ⟨z,n⟩
theorem qJ (bY:z0r):∀(ps bG:z0r),(∀x∈bG,x∉bY)->∀x∈qa bY bG ps,x∉bY
 | [],bG,h,x,hx=>h x hx
 | p::r,bG,h,x,hx=>by
  have hx:x∈qa bY (addW bY bG p) r:=hx;refine qJ bY r (addW bY bG p) (λy hy=>?_) x hx;unfold addW at hy;by_cases c:p∈bY
  .rw [aA c] at hy;exact h y hy
  rw [az c] at hy;rcases (iH _ _ _).mp hy with hy | hy
  .exact h y hy
  rw [hy];exact c
theorem gX {f g:Str->Int}:∀{ps:z0r},(∀p∈ps,f p<=g p)->(ps.map f).sum<=(ps.map g).sum
 | [],_=>fX _
 | p::r,h=>by
  have h1:=gX (f:=f) (g:=g) (ps:=r) λq hq=>h q (cw _ hq);have h2:=h p cx;rw [bC,hZ,bC,hZ];omega
structure iX (aa:113)(L:Str->Int)(rk:Str->Nat):Prop where
 wd:∀x,x∉hd aa->L x=0
 low:∀ru∈aa,L ru.1<=1+(ru.2.map L).sum
 To:∀h∈hd aa,∃ps,(h,ps)∈aa/\L h=1+(ps.map L).sum/\∀p∈ps,p∈hd aa->rk p < rk h
def iX.is {aa:113}{L:Str->Int}(O:iX aa L rk){g:G}(st:bE M11.bl aa (jP aa) g)(se:bS M11.bl aa g):∀h∈hd aa,g h=some (L h):=by
 have low:∀h n,g h=some n->L h<=n:=by
  refine bE.keep (J:=λg=>∀h n,g h=some n->L h<=n) (λg ru j hr f h n e=>?_) st ?_
  .by_cases c:h=ru.1
   .have e0:bQ g ru.1 (aH g ru) h=some (aH g ru):=by unfold bQ;rw [aA c]
    rw [e0] at e;cases e;rw [c];refine Int.le_trans (O.low ru hr) ?_;show 1+(ru.2.map L).sum<=1+(ru.2.map 198).sum;have:=gX (f:=L) (g:=198) (ps:=ru.2) λp hp=>by
     unfold bW at f;rw [jK] at f;obtain⟨m,em⟩:=i9.mp (dW.mp f.1 p hp);show L p<=(g p).getD 0;rw [em];exact j p m em
    omega
   have e0:bQ g ru.1 (aH g ru) h=g h:=by unfold bQ;rw [az c]
   rw [e0] at e;exact j h n e
  intro h n e;unfold jP at e
  split at e
  .rename_i c
   cases e;rw [O.wd h (qJ _ _ _ (λ_ hx=>by cases hx) h c)];exact fX _
  cases e
 have words:∀x,x∉hd aa->∀ru∈aa,x∈ru.2->g x=some 0:=by
  intro x nn ru mD hm;refine bE.keep (J:=λg=>g x=some 0) (λg PM j h2 _=>?_) st ?_
  .show bQ g PM.1 _ x=some 0;unfold bQ;rw [az (λz=>nn (by rw [z];exact sP h2))];exact j
  show jP aa x=some 0;unfold jP;rw [aA (oV _ _ _ _ (.inr ⟨oN.mpr ⟨ru,mD,hm⟩,nn⟩))]
 have up:∀(n:Nat)(h:Str),rk h < n->h∈hd aa->g h=some (L h):=by
  intro n
  induction n with
  | zero=>intro h hn;omega
  | succ n ih =>
   intro h hn hh;obtain⟨ps,hm,eL,hp⟩:=O.To h hh;have val:∀p∈ps,g p=some (L p):=λp n6=>by
    by_cases c:p∈hd aa
    .exact ih p (by have:=hp p n6 c;omega) c
    rw [words p c _ hm n6,O.wd p c]
   obtain⟨m,gm,lm⟩:=gb se hm (λp n6=>by rw [val p n6];rfl);have:(ps.map 198)=ps.map L:=oS λp n6=>by rw [val p n6];rfl
   rw [this,<-eL] at lm;have:=low h m gm;rw [gm]
   congr 1
   omega
 exact λh hh=>up (rk h+1) h (jL _) hh
structure jH (aa:113)(M:Str->Int)(rk:Str->Nat):Prop where
 bd:tZ aa M
 To:∀h,Em aa h->∃ps,(h,ps)∈aa/\M h=1+(ps.map M).sum/\∀p∈ps,Em aa p/\rk p < rk h
def cV (gr:Bool) (names:z0r)(d:G)(p:Str):Bool:=(d p).isSome || (!decide (p∈names) && !gr)
def dM (gr:Bool) (names:z0r)(d:G)(aa:113)(x:Str):z0s:=(aa.filter λru=>decide (ru.1=x) && ru.2.all (cV gr names d)).map (aH d)
def bestOf (gr:Bool):z0s->Int->Int
 | [],b=>b
 | a::r,b=>bestOf gr r (if gr then max a b else min a b)
def gW (gr:Bool) (names:z0r)(aa:113)(d:G)(x:Str):G:=match dM gr names d aa x with
 | []=>d
 | a::r=>bQ d x (bestOf gr r a)
theorem tO:∀(l:z0s) (b:Int),(∀a∈l,bestOf false l b<=a)/\bestOf false l b<=b/\(bestOf false l b=b\/bestOf false l b∈l)
 | [],b=>⟨λ_ h=>(by cases h),fX _,.inl rfl⟩
 | a::r,b=>by
  obtain⟨h1,h2,h3⟩:=tO r (min a b);have e:bestOf false (a::r) b=bestOf false r (min a b):=rfl;rw [e];refine⟨λx hx=>?_,∅,?_⟩
  .rcases aS.mp hx with rfl | hx
   .omega
   exact h1 x hx
  rcases h3 with h3 | h3
  .by_cases c:a<=b
   .exact .inr (by rw [h3,Int.min_eq_left c];exact cx)
   exact .inl (by rw [h3,Int.min_eq_right ∅])
  exact .inr (cw _ h3)
theorem tP:∀(l:z0s) (b:Int),(∀a∈l,a<=bestOf true l b)/\b<=bestOf true l b/\(bestOf true l b=b\/bestOf true l b∈l)
 | [],b=>⟨λ_ h=>(by cases h),fX _,.inl rfl⟩
 | a::r,b=>by
  obtain⟨h1,h2,h3⟩:=tP r (max a b);have e:bestOf true (a::r) b=bestOf true r (max a b):=rfl;rw [e];refine⟨λx hx=>?_,∅,?_⟩
  .rcases aS.mp hx with rfl | hx
   .omega
   exact h1 x hx
  rcases h3 with h3 | h3
  .by_cases c:b<=a
   .exact .inr (by rw [h3,Int.max_eq_left c];exact cx)
   exact .inl (by rw [h3,Int.max_eq_right ∅])
  exact .inr (cw _ h3)
structure EE (aa:113)(L:Str->Int)(rk:Str->Nat) (r:Nat)(d:G):Prop where
 low:∀h n,d h=some n->h∈hd aa/\L h<=n
 fin:∀h∈hd aa,rk h < r->d h=some (L h)
def Dg {aa:113}{L:Str->Int}{r:Nat}{d:G}(O:iX aa L rk)(J:EE aa L rk r d){x:Str}{n:Int}(h:n∈dM false (hd aa) d aa x):L x<=n:=by
 unfold dM at h;obtain⟨ru,hf,rfl⟩:=cQ.mp h;obtain⟨hr,hc⟩:=gU.mp hf;rw [jK] at hc;rw [<-dJ hc.1];refine Int.le_trans (O.low ru hr) ?_;show 1+(ru.2.map L).sum<=1+(ru.2.map λp=>(d p).getD 0).sum;have:=gX (f:=L) (g:=λp=>(d p).getD 0) (ps:=ru.2) λp hp=>by
  have hk:=dW.mp hc.2 p hp;show L p<=(d p).getD 0;cases e:d p with
  | some m=>exact(J.low p m e).2
  | none =>
   unfold cV at hk;rw [e] at hk;have hk:p∉hd aa:=by simpa using hk
   rw [O.wd p hk];exact fX _
 omega
def EE.upd {aa:113}{L:Str->Int}{r:Nat}{d:G}(O:iX aa L rk)(J:EE aa L rk r d){x:Str}(hx:x∈hd aa) :
  EE aa L rk r (gW false (hd aa) aa d x)/\(rk x<=r->gW false (hd aa) aa d x x=some (L x))/\∀y,y≠x->gW false (hd aa) aa d x y=d y:=by
 have right:rk x<=r->L x∈dM false (hd aa) d aa x:=λhr=>by
  obtain⟨ps,hm,eL,hp⟩:=O.To x hx;have val:∀p∈ps,(p∈hd aa->d p=some (L p))/\(p∉hd aa->d p=none):=λp n6=>⟨λc=>J.fin p c (by have:=hp p n6 c;omega),λc=>by
   cases e:d p with
   | none=>rfl
   | some m=>exact absurd (J.low p m e).1 c⟩
  refine cQ.mpr ⟨(x,ps),gU.mpr ⟨hm,?_⟩,?_⟩
  .rw [jK];refine⟨ff rfl,dW.mpr λp n6=>?_⟩;unfold cV;by_cases c:p∈hd aa
   .rw [(val p n6).1 c];rfl
   rw [(val p n6).2 c,gB c];rfl
  show 1+(ps.map λp=>(d p).getD 0).sum=L x;have:(ps.map λp=>(d p).getD 0)=ps.map L:=oS λp n6=>by
   by_cases c:p∈hd aa
   .rw [(val p n6).1 c];rfl
   rw [(val p n6).2 c,O.wd p c];rfl
  rw [this,eL]
 unfold gW;cases e:dM false (hd aa) d aa x with
 | nil =>
  refine⟨J,λhr=>?_,λ_ _=>rfl⟩;have:=right hr;rw [e] at this;cases this
 | cons a l =>
  have bm:=tO l a;have mem:bestOf false l a∈dM false (hd aa) d aa x:=by
   rw [e];rcases bm.2.2 with h | h
   .rw [h];exact cx
   exact cw _ h
  have lo:=Dg O J mem;have ex:rk x<=r->bestOf false l a=L x:=λhr=>by
   have Iv:=right hr;rw [e] at Iv;have:bestOf false l a<=L x:=by
    rcases aS.mp Iv with h | h
    .rw [h];exact bm.2.1
    exact bm.1 _ h
   omega
  have IF:bQ d x (bestOf false l a) x=some (bestOf false l a):=by unfold bQ;rw [aA rfl]
  have at2:∀y,y≠x->bQ d x (bestOf false l a) y=d y:=λy hy=>by unfold bQ;rw [az hy]
  refine⟨⟨λh n eh=>?_,λh hh hr=>?_⟩,λhr=>by rw [<-ex hr];exact IF,at2⟩
  .have eh:bQ d x (bestOf false l a) h=some n:=eh;by_cases c:h=x
   .rw [c] at eh ⊢;rw [IF] at eh;cases eh;exact⟨hx,lo⟩
   rw [at2 h c] at eh;exact J.low h n eh
  show bQ d x (bestOf false l a) h=some (L h);by_cases c:h=x
  .rw [c] at hr ⊢;rw [IF,ex ∅]
  rw [at2 h c];exact J.fin h hh hr
theorem EE.round {aa:113}{L:Str->Int}{r:Nat}(O:iX aa L rk):∀(xs:z0r){d:G}(done:z0r),(∀x∈xs,x∈hd aa)->EE aa L rk r d->(∀h∈done,rk h<=r->d h=some (L h)) ->
  EE aa L rk r (xs.foldl (gW false (hd aa) aa) d)/\∀h∈done++xs,rk h<=r->xs.foldl (gW false (hd aa) aa) d h=some (L h)
 | [],d,done,_,J,hd=>⟨J,by rw [eE];exact hd⟩
 | x::xs,d,done,hx,J,Kf=>by
  obtain⟨J2,hr,hn⟩:=J.upd O (hx x cx);have:=EE.round O xs (d:=gW false (hd aa) aa d x) (done++[x]) (λy hy=>hx y (cw _ hy)) J2 (λh hh hk=>by
   by_cases c:h=x
   .rw [c] at hk ⊢;exact hr hk
   rw [hn h c];rcases cK.mp hh with hh | hh
   .exact Kf h hh hk
   exact absurd (bD.mp hh) c)
  rw [iP] at this;exact this
def EE.next {aa:113}{L:Str->Int}{r:Nat}{d:G}(O:iX aa L rk)(J:EE aa L rk r d):EE aa L rk (r+1) ((hd aa).foldl (gW false (hd aa) aa) d):=by
 obtain⟨h1,h2⟩:=EE.round O (hd aa) (d:=d) [] (λ_ h=>h) J (λ_ h=>by cases h);exact⟨h1.low,λh hh hr=>h2 h (by simpa using hh) ∅⟩
structure EG (aa:113)(M:Str->Int)(rk:Str->Nat) (r:Nat)(d:G):Prop where
 hi:∀h n,d h=some n->Em aa h/\n<=M h
 fin:∀h,Em aa h->rk h < r->d h=some (M h)
def Ag {aa:113}{M:Str->Int}{r:Nat}{d:G}(O:jH aa M rk)(J:EG aa M rk r d){x:Str}{n:Int}(h:n∈dM true names d aa x):Em aa x/\n<=M x:=by
 unfold dM at h;obtain⟨ru,hf,rfl⟩:=cQ.mp h;obtain⟨hr,hc⟩:=gU.mp hf;rw [jK] at hc;have ex:=dJ hc.1;have kn:∀p∈ru.2,∃m,d p=some m:=λp hp=>by
  have hk:=dW.mp hc.2 p hp;unfold cV at hk;cases e:d p with
  | some m=>exact⟨m,rfl⟩
  | none=>rw [e] at hk;simp at hk
 have em:∀p∈ru.2,Em aa p:=λp hp=>by
  obtain⟨m,e⟩:=kn p hp;exact(J.hi p m e).1
 have b:=O.bd.2 ru hr em;have sm:=gX (f:=λp=>(d p).getD 0) (g:=M) (ps:=ru.2) λp hp=>by
  obtain⟨m,e⟩:=kn p hp;show (d p).getD 0<=M p;rw [e];exact(J.hi p m e).2
 rw [<-ex];refine⟨.mk hr em,?_⟩;show 1+(ru.2.map λp=>(d p).getD 0).sum<=M ru.1;omega
def EG.upd {aa:113}{M:Str->Int}{r:Nat}{d:G}(O:jH aa M rk)(J:EG aa M rk r d)(x:Str) :
  EG aa M rk r (gW true names aa d x)/\(Em aa x->rk x<=r->gW true names aa d x x=some (M x))/\∀y,y≠x->gW true names aa d x y=d y:=by
 have right:Em aa x->rk x<=r->M x∈dM true names d aa x:=λhe hr=>by
  obtain⟨ps,hm,eM,hp⟩:=O.To x he;have val:∀p∈ps,d p=some (M p):=λp n6=>J.fin p (hp p n6).1 (by have:=(hp p n6).2;omega);refine cQ.mpr ⟨(x,ps),gU.mpr ⟨hm,?_⟩,?_⟩
  .rw [jK];refine⟨ff rfl,dW.mpr λp n6=>?_⟩;unfold cV;rw [val p n6];rfl
  show 1+(ps.map λp=>(d p).getD 0).sum=M x;have:(ps.map λp=>(d p).getD 0)=ps.map M:=oS λp n6=>by rw [val p n6];rfl
  rw [this,eM]
 unfold gW;cases e:dM true names d aa x with
 | nil =>
  refine⟨J,λhe hr=>?_,λ_ _=>rfl⟩;have:=right he hr;rw [e] at this;cases this
 | cons a l =>
  have bm:=tP l a;have mem:bestOf true l a∈dM true names d aa x:=by
   rw [e];rcases bm.2.2 with h | h
   .rw [h];exact cx
   exact cw _ h
  have lo:=Ag O J mem;have ex:Em aa x->rk x<=r->bestOf true l a=M x:=λhe hr=>by
   have Iv:=right he hr;rw [e] at Iv;have:M x<=bestOf true l a:=by
    rcases aS.mp Iv with h | h
    .rw [h];exact bm.2.1
    exact bm.1 _ h
   have:=lo.2;omega
  have IF:bQ d x (bestOf true l a) x=some (bestOf true l a):=by unfold bQ;rw [aA rfl]
  have at2:∀y,y≠x->bQ d x (bestOf true l a) y=d y:=λy hy=>by unfold bQ;rw [az hy]
  refine⟨⟨λh n eh=>?_,λh hh hr=>?_⟩,λhe hr=>by rw [<-ex he hr];exact IF,at2⟩
  .have eh:bQ d x (bestOf true l a) h=some n:=eh;by_cases c:h=x
   .rw [c] at eh ⊢;rw [IF] at eh;cases eh;exact lo
   rw [at2 h c] at eh;exact J.hi h n eh
  show bQ d x (bestOf true l a) h=some (M h);by_cases c:h=x
  .rw [c] at hr hh ⊢;rw [IF,ex hh ∅]
  rw [at2 h c];exact J.fin h hh hr
theorem EG.round {aa:113}{M:Str->Int}{r:Nat}(O:jH aa M rk):∀(xs:z0r){d:G}(done:z0r),EG aa M rk r d->(∀h∈done,Em aa h->rk h<=r->d h=some (M h)) ->
  EG aa M rk r (xs.foldl (gW true names aa) d)/\∀h∈done++xs,Em aa h->rk h<=r->xs.foldl (gW true names aa) d h=some (M h)
 | [],d,done,J,hd=>⟨J,by rw [eE];exact hd⟩
 | x::xs,d,done,J,Kf=>by
  obtain⟨J2,hr,hn⟩:=J.upd (names:=names) O x;have:=EG.round (names:=names) O xs (d:=gW true names aa d x) (done++[x]) J2 (λh hh he hk=>by
   by_cases c:h=x
   .rw [c] at hk he ⊢;exact hr he hk
   rw [hn h c];rcases cK.mp hh with hh | hh
   .exact Kf h hh he hk
   exact absurd (bD.mp hh) c)
  rw [iP] at this;exact this
def EG.next {aa:113}{M:Str->Int}{r:Nat}{d:G}(O:jH aa M rk)(J:EG aa M rk r d):EG aa M rk (r+1) ((hd aa).foldl (gW true (hd aa) aa) d):=by
 obtain⟨h1,h2⟩:=EG.round (names:=hd aa) O (hd aa) (d:=d) [] J (λ_ h=>by cases h);exact⟨h1.hi,λh hh hr=>h2 h (by simpa using vh hh) hh ∅⟩
def bK (gr:Bool)(aa:113):Nat->G
 | 0=>λ_=>none
 | n+1=>(hd aa).foldl (gW gr (hd aa) aa) (bK gr aa n)
theorem nP {aa:113}{L:Str->Int}(O:iX aa L rk):∀n,EE aa L rk n (bK false aa n)
 | 0=>⟨λ_ _ h=>(by cases h),λ_ _ h=>absurd h (rf _)⟩
 | n+1=>(nP O n).next O
theorem jy {aa:113}{M:Str->Int}(O:jH aa M rk):∀n,EG aa M rk n (bK true aa n)
 | 0=>⟨λ_ _ h=>(by cases h),λ_ _ h=>absurd h (rf _)⟩
 | n+1=>(jy O n).next O
def nQ {aa:113}{M:Str->Int}(O:jH aa M rk) (n:Nat){h:Str}(he:¬Em aa h):bK true aa n h=none:=by
 cases e:bK true aa n h with
 | none=>rfl
 | some m=>exact absurd ((jy O n).hi h m e).1 he
theorem Aa {f:Str->Int}:∀{ps:z0r},(∀p∈ps,0<=f p)->0<=(ps.map f).sum
 | [],_=>fX _
 | p::r,h=>by
  have h1:=Aa (f:=f) (ps:=r) λq hq=>h q (cw _ hq);have h2:=h p cx;rw [bC,hZ];omega
theorem Fg {f:Str->Int}:∀{ps:z0r},(∀p∈ps,0<=f p)->∀p∈ps,f p<=(ps.map f).sum
 | [],_,p,hp=>by cases hp
 | q::r,h,p,hp=>by
  have h1:=Aa (f:=f) (ps:=r) λx hx=>h x (cw _ hx);have h2:=h q cx;rw [bC,hZ];rcases aS.mp hp with rfl | hp
  .omega
  have:=Fg (f:=f) (ps:=r) (λx hx=>h x (cw _ hx)) p hp;omega
def o_ (g:G)(x:Str) (n:Int):bQ g x n x=some n:=by unfold bQ;rw [aA rfl]
def lZ (g:G){x y:Str}(n:Int)(h:y≠x):bQ g x n y=g y:=by unfold bQ;rw [az h]
def DK {aa:113}{g:G}(st:bE M11.bl aa (jP aa) g):(∀h n,g h=some n->0<=n)/\∀h n,g h=some n->h∈hd aa->1<=n:=by
 refine bE.keep (J:=λg=>(∀h n,g h=some n->0<=n)/\∀h n,g h=some n->h∈hd aa->1<=n) (λg ru j hr f=>?_) st ?_
 .have nn:∀p,0<=(g p).getD 0:=λp=>by
   cases e:g p with
   | none=>exact fX _
   | some m=>exact j.1 p m e
  have s1:1<=aH g ru:=by
   show 1<=1+(ru.2.map 198).sum;have:=Aa (f:=198) (ps:=ru.2) λp _=>nn p;omega
  refine⟨λh n e=>?_,λh n e hh=>?_⟩
  .by_cases c:h=ru.1
   .rw [c,o_] at e;cases e;omega
   rw [lZ _ _ c] at e;exact j.1 h n e
  by_cases c:h=ru.1
  .rw [c,o_] at e;cases e;exact s1
  rw [lZ _ _ c] at e;exact j.2 h n e hh
 refine⟨λh n e=>?_,λh n e hh=>?_⟩
 .unfold jP at e
  split at e
  .cases e;exact fX _
  cases e
 unfold jP at e
 split at e
 .rename_i c
  exact absurd hh (qJ _ _ _ (λ_ hx=>by cases hx) h c)
 cases e
def DL {aa:113}{g:G}(st:bE M11.bl aa (jP aa) g)(se:bS M11.bl aa g){h:Str}{n:Int}(e:g h=some n)(hh:h∈hd aa):∃ps,(h,ps)∈aa/\(∀p∈ps,(g p).isSome=true)/\n=1+(ps.map 198).sum:=by
 have key:∀h n,g h=some n->h∈hd aa->∃ps,(h,ps)∈aa/\(∀p∈ps,(g p).isSome=true)/\1+(ps.map 198).sum<=n:=by
  refine bE.keep (J:=λg=>∀h n,g h=some n->h∈hd aa->∃ps,(h,ps)∈aa/\(∀p∈ps,(g p).isSome=true)/\1+(ps.map 198).sum<=n) (λg ru j hr f h n e hh=>?_) st ?_
  .unfold bW at f;rw [jK] at f;have al:∀p∈ru.2,(g p).isSome=true:=λp hp=>dW.mp f.1 p hp;have mono:∀p,(g p).isSome=true->(bQ g ru.1 (aH g ru) p).isSome=true/\(bQ g ru.1 (aH g ru) p).getD 0<=(g p).getD 0:=λp hp=>by
    by_cases c:p=ru.1
    .rw [c,o_];refine⟨rfl,?_⟩;rw [c] at hp;have f2:=f.2;rw [hp] at f2;have:aH g ru < (g ru.1).getD 0:=by simpa [M11.bl] using f2
     show aH g ru<=_;omega
    rw [lZ _ _ c];exact⟨hp,fX _⟩
   by_cases c:h=ru.1
   .rw [c,o_] at e;cases e;refine⟨ru.2,by rw [c];exact hr,λp hp=>(mono p (al p hp)).1,?_⟩;have:=gX (f:=λp=>(bQ g ru.1 (aH g ru) p).getD 0) (g:=198) (ps:=ru.2) λp hp=>(mono p (al p hp)).2;show 1+_<=1+(ru.2.map 198).sum;omega
   rw [lZ _ _ c] at e;obtain⟨ps,h1,h2,h3⟩:=j h n e hh;refine⟨ps,h1,λp hp=>(mono p (h2 p hp)).1,?_⟩;have:=gX (f:=λp=>(bQ g ru.1 (aH g ru) p).getD 0) (g:=198) (ps:=ps) λp hp=>(mono p (h2 p hp)).2;omega
  intro h n e hh;unfold jP at e
  split at e
  .rename_i c
   exact absurd hh (qJ _ _ _ (λ_ hx=>by cases hx) h c)
  cases e
 obtain⟨ps,h1,h2,h3⟩:=key h n e hh;obtain⟨m,em,lm⟩:=gb se h1 h2;rw [e] at em;cases em;exact⟨ps,h1,h2,∅⟩
def DX {aa:113}{g:G}(st:bE M11.bg aa (λ_=>none) g)(se:bS M11.bg aa g){h:Str}{n:Int}(e:g h=some n):∃ps,(h,ps)∈aa/\(∀p∈ps,(g p).isSome=true)/\n=1+(ps.map 198).sum:=by
 have key:∀h n,g h=some n->∃ps,(h,ps)∈aa/\(∀p∈ps,(g p).isSome=true)/\n<=1+(ps.map 198).sum:=by
  refine bE.keep (J:=λg=>∀h n,g h=some n->∃ps,(h,ps)∈aa/\(∀p∈ps,(g p).isSome=true)/\n<=1+(ps.map 198).sum) (λg ru j hr f h n e=>?_) st ?_
  .unfold bW at f;rw [jK] at f;have al:∀p∈ru.2,(g p).isSome=true:=λp hp=>dW.mp f.1 p hp;have mono:∀p,(g p).isSome=true->(bQ g ru.1 (aH g ru) p).isSome=true/\(g p).getD 0<=(bQ g ru.1 (aH g ru) p).getD 0:=λp hp=>by
    by_cases c:p=ru.1
    .rw [c,o_];refine⟨rfl,?_⟩;rw [c] at hp;have f2:=f.2;rw [hp] at f2;have:aH g ru > (g ru.1).getD 0:=by simpa [M11.bg] using f2
     show _<=aH g ru;omega
    rw [lZ _ _ c];exact⟨hp,fX _⟩
   by_cases c:h=ru.1
   .rw [c,o_] at e;cases e;refine⟨ru.2,by rw [c];exact hr,λp hp=>(mono p (al p hp)).1,?_⟩;have:=gX (f:=198) (g:=λp=>(bQ g ru.1 (aH g ru) p).getD 0) (ps:=ru.2) λp hp=>(mono p (al p hp)).2;show 1+(ru.2.map 198).sum<=1+_;omega
   rw [lZ _ _ c] at e;obtain⟨ps,h1,h2,h3⟩:=j h n e;refine⟨ps,h1,λp hp=>(mono p (h2 p hp)).1,?_⟩;have:=gX (f:=198) (g:=λp=>(bQ g ru.1 (aH g ru) p).getD 0) (ps:=ps) λp hp=>(mono p (h2 p hp)).2;omega
  intro h n e;cases e
 obtain⟨ps,h1,h2,h3⟩:=key h n e;have hs:=se _ h1;unfold bW at hs;have a1:iW g (h,ps)=true:=dW.mpr λp hp=>h2 p hp;rw [a1,oG,show g (h,ps).1=some n from e] at hs;have h4:¬aH g (h,ps) > n:=by simpa [M11.bg] using hs
 have h5:aH g (h,ps)=1+(ps.map 198).sum:=rfl;exact⟨ps,h1,h2,∅⟩
structure XZ (aa:113)(rk:Str->Nat):Prop where
 all:∀ru∈aa,(∀p∈ru.2,p∈hd aa->rk p < rk ru.1)\/((∃MS,(ru.1,MS)∈aa/\∀p∈MS,p∉hd aa)/\(∃p∈ru.2,p∈hd aa)/\∃w∈ru.2,w∉hd aa)
def jt {aa:113}{g:G}(st:bE M11.bl aa (jP aa) g){x:Str}(nn:x∉hd aa){ru:aB}(mD:ru∈aa)(hm:x∈ru.2):g x=some 0:=by
 refine bE.keep (J:=λg=>g x=some 0) (λg PM j h2 _=>?_) st ?_
 .show bQ g PM.1 _ x=some 0;unfold bQ;rw [az (λz=>nn (by rw [z];exact sP h2))];exact j
 show jP aa x=some 0;unfold jP;rw [aA (oV _ _ _ _ (.inr ⟨oN.mpr ⟨ru,mD,hm⟩,nn⟩))]
def zR {aa:113}{g:G}(st:bE M11.bl aa (jP aa) g):∀x n,g x=some n->x∉hd aa->n=0:=by
 refine bE.keep (J:=λg=>∀x n,g x=some n->x∉hd aa->n=0) (λg ru j hr _ x n e hn=>?_) st ?_
 .have c:x≠ru.1:=λz=>hn (by rw [z];exact sP hr);rw [lZ _ _ c] at e;exact j x n e hn
 intro x n e _;unfold jP at e
 split at e
 .cases e;rfl
 cases e
def ik {aa:113}{g:G}{N:Nat}(R:XZ aa rk)(hN:∀h∈hd aa,rk h < N)(xY:∀h∈hd aa,∃n,g h=some n)(st:bE M11.bl aa (jP aa) g)(se:bS M11.bl aa g) :
  ∀h∈hd aa,bK false aa N h=g h:=by
 have pos:=DK st;have O:iX aa (λh=>(g h).getD 0) rk:=by
  refine⟨λx hx=>?_,λru hr=>?_,λh hh=>?_⟩
  .show (g x).getD 0=0;cases e:g x with
   | none=>rfl
   | some n=>exact zR st x n e hx
  .have kn:∀p∈ru.2,(g p).isSome=true:=λp hp=>by
    by_cases c:p∈hd aa
    .obtain⟨n,e⟩:=xY p c;rw [e];rfl
    rw [jt st c hr hp];rfl
   obtain⟨m,em,lm⟩:=gb (x:=ru.1) (ps:=ru.2) se hr kn;show (g ru.1).getD 0<=_;rw [em];exact lm
  obtain⟨n,e⟩:=xY h hh;obtain⟨ps,h1,h2,h3⟩:=DL st se e hh;refine⟨ps,h1,by show (g h).getD 0=_;rw [e];exact h3,λp hp hph=>?_⟩;rcases R.all _ h1 with ra | ⟨⟨MS,r1,r2⟩,⟨q,q1,q2⟩,_⟩
  .exact ra p hp hph
  exfalso;obtain⟨m,em,lm⟩:=gb se r1 (λx hx=>by rw [jt st (r2 x hx) r1 hx];rfl);have z:(MS.map 198)=MS.map λ_=>(0:Int):=oS λx hx=>by rw [jt st (r2 x hx) r1 hx];rfl
  have z2:∀l:z0r,(l.map λ_=>(0:Int)).sum=0:=λl=>by
   induction l with
   | nil=>rfl
   | cons a r ih=>rw [bC,hZ,ih];rfl
  rw [z,z2] at lm;rw [show g (h,ps).1=some n from e] at em;cases em;obtain⟨v,ev⟩:=xY q q2;have v1:=pos.2 q v ev q2;have sg:=Fg (f:=198) (ps:=ps) (λp hp=>by
   cases e2:g p with
   | none=>exact fX _
   | some k=>exact pos.1 p k e2) q q1
  have sg:(g q).getD 0<=_:=sg;rw [ev] at sg;have sg:v<=_:=sg;omega
 intro h hh;obtain⟨n,e⟩:=xY h hh;rw [(nP O N).fin h hh (hN h hh),e];rfl
def s_ {aa:113}{g:G}(se:bS M11.bg aa g){x:Str}(h:Em aa x):(g x).isSome=true:=by
 induction h with
 | @mk ru hr hp ih =>
  have hs:=se _ hr;unfold bW at hs;have a1:iW g ru=true:=dW.mpr λp xi=>ih p xi;rw [a1,oG,Bool.or_eq_false_iff] at hs;simpa using hs.1
def xp {aa:113}{b:Str->Int}{g:G}{N:Nat}(R:XZ aa rk)(hN:∀h∈hd aa,rk h < N)(gj:GJ aa b g)(st:bE M11.bg aa (λ_=>none) g)(se:bS M11.bg aa g) :
  ∀h,bK true aa N h=g h:=by
 have nn:∀p,0<=(g p).getD 0:=λp=>by
  cases e:g p with
  | none=>exact fX _
  | some k=>exact(gj p k e).1
 have O:jH aa (λh=>(g h).getD 0) rk:=by
  refine⟨⟨nn,λru hr em=>?_⟩,λh he=>?_⟩
  .have hs:=se _ hr;unfold bW at hs;have a1:iW g ru=true:=dW.mpr λp hp=>s_ se (em p hp);rw [a1,oG,Bool.or_eq_false_iff] at hs;have h4:¬aH g ru > (g ru.1).getD 0:=by simpa [M11.bg] using hs.2
   have h5:aH g ru=1+(ru.2.map 198).sum:=rfl;show 1+(ru.2.map 198).sum<=(g ru.1).getD 0;omega
  obtain⟨n,e⟩:=i9.mp (s_ se he);obtain⟨ps,h1,h2,h3⟩:=DX st se e;have em:∀p∈ps,Em aa p:=λp hp=>by
   obtain⟨m,em⟩:=i9.mp (h2 p hp);exact(gj p m em).2.2
  refine⟨ps,h1,by show (g h).getD 0=_;rw [e];exact h3,λp hp=>⟨em p hp,?_⟩⟩;rcases R.all _ h1 with ra | ⟨_,_,⟨w,w1,w2⟩⟩
  .exact ra p hp (vh (em p hp))
  exact absurd (vh (em w w1)) w2
 intro h;by_cases he:Em aa h
 .obtain⟨n,e⟩:=i9.mp (s_ se he);rw [(jy O N).fin h he (hN h (vh he)),e];rfl
 rw [nQ O N he];cases e:g h with
 | none=>rfl
 | some m=>exact absurd (gj h m e).2.2 he
def ua (w:Str) (ns last:z0r) (k:Nat) (ps:z0r):Prop:=(k=0/\(ps=[]\/ps=[w]))\/(1<=k/\k < 5/\∃m,ns[k - 1]?=some m/\ps=[m,m])\/(k=5/\ps=last)
def qX (w:Str) (ns:z0r) (k:Nat) (ps:z0r):Prop:=ps=[w]\/ps=[]\/∃n0,ns[0]?=some n0/\ps=[w,n0,n0,n0]
structure jF (w S:Str) (ns last:z0r)(aa:113):Prop where
 l6:ns.length=6
 nd:(w::S::ns).Nodup
 fst:∃n5,ns[5]?=some n5/\(aa[0]?=some (S,[w,n5])\/aa[0]?=some (S,[n5]))
 rest:∀ru∈aa,(∃n5,ns[5]?=some n5/\(ru=(S,[w,n5])\/ru=(S,[n5])))\/∃k,ns[k]?=some ru.1/\(ua w ns last k ru.2\/qX w ns k ru.2)
 base:∀k n,ns[k]?=some n->∃ps,(n,ps)∈aa/\ua w ns last k ps
 la:∀p∈last,∃i,i < 5/\ns[i]?=some p
 l4:∃n4,ns[4]?=some n4/\n4∈last
section
variable {w S:Str}{ns last:z0r}{aa:113}
def k_ (S:Str) (ns:z0r)(x:Str):Nat:=if x=S then 6 else ns.idxOf x
def jF.nsd (R:jF w S ns last aa):ns.Nodup:=(iO.mp (iO.mp R.nd).2).2
def jF.sn (R:jF w S ns last aa):S∉ns:=(iO.mp (iO.mp R.nd).2).1
def jF.wn (R:jF w S ns last aa):w∉S::ns:=(iO.mp R.nd).1
def jF.PQ (R:jF w S ns last aa):k_ S ns S=6:=aA rfl
def jF.FQ (R:jF w S ns last aa){k:Nat}{n:Str}(h:ns[k]?=some n):k_ S ns n=k:=by
 unfold k_;rw [az (λe=>R.sn (by rw [<-e];exact cf h))];obtain⟨lk,e⟩:=bM.mp h;rw [<-e];exact R.nsd.idxOf_getElem k lk
def jF.mI (R:jF w S ns last aa){x:Str}:x∈hd aa↔x=S\/x∈ns:=by
 constructor
 .intro h;obtain⟨ru,hr,rfl⟩:=Q6 h;rcases R.rest ru hr with ⟨n5,_,h | h⟩ | ⟨k,hk,_⟩
  .rw [h];exact .inl rfl
  .rw [h];exact .inl rfl
  exact .inr (cf hk)
 rintro(rfl | h)
 .obtain⟨n5,_,h | h⟩:=R.fst
  .exact sP (cf h)
  exact sP (cf h)
 obtain⟨k,hk⟩:=nq h;obtain⟨ps,hm,_⟩:=R.base k x hk;exact sP hm
def jF.zU (R:jF w S ns last aa):w∉hd aa:=λh=>R.wn (by
 rcases R.mI.mp h with h | h
 .rw [h];exact cx
 exact cw _ h)
def jF.down (R:jF w S ns last aa){k:Nat}(hb:ua w ns last k ps):∀p∈ps,p∈hd aa->k_ S ns p < k:=by
 intro p hp hh;rcases hb with ⟨_,h | h⟩ | ⟨k1,k5,m,hm,h⟩ | ⟨rfl,rfl⟩
 .rw [h] at hp;cases hp
 .rw [h,bD] at hp;rw [hp] at hh;exact absurd hh R.zU
 .have:p=m:=by rw [h] at hp;simpa using hp
  rw [this,R.FQ hm];omega
 obtain⟨i,hi,e⟩:=R.la p hp;rw [R.FQ e];exact hi
def jF.OC (R:jF w S ns last aa):XZ aa (k_ S ns) where
 all ru hr:=by
  rcases R.rest ru hr with ⟨n5,h5,h⟩ | ⟨k,hk,hb | hs⟩
  .left;intro p hp hh;have hp5:p=n5:=by
    rcases h with h | h
    .rw [h] at hp;rcases aS.mp hp with e | hp
     .rw [e] at hh;exact absurd hh R.zU
     exact bD.mp hp
    rw [h] at hp;exact bD.mp hp
   have e1:ru.1=S:=by rcases h with h | h <;> rw [h]
   rw [hp5,R.FQ h5,e1,R.PQ];omega
  .left;intro p hp hh;rw [R.FQ hk];exact R.down hb p hp hh
  rcases hs with h | h | ⟨n0,h0,h⟩
  .left;intro p hp hh;rw [h,bD] at hp;rw [hp] at hh;exact absurd hh R.zU
  .left;intro p hp;rw [h] at hp;cases hp
  by_cases ck:k=0
  .right;subst ck;obtain⟨MS,hm,hb⟩:=R.base 0 ru.1 hk;refine⟨⟨MS,hm,λp hp hh=>absurd (R.down hb p hp hh) (rf _)⟩,⟨n0,by rw [h];simp,R.mI.mpr (.inr (cf h0))⟩,w,by rw [h];simp,R.zU⟩
  left;intro p hp hh;rw [R.FQ hk];rw [h] at hp;rcases aS.mp hp with e | hp
  .rw [e] at hh;exact absurd hh R.zU
  have:p=n0:=by simpa using hp
  rw [this,R.FQ h0];omega
def jF.rank (R:jF w S ns last aa):∀h∈hd aa,k_ S ns h < 7:=λh hh=>by
 rcases R.mI.mp hh with rfl | hn
 .rw [R.PQ];omega
 obtain⟨k,hk⟩:=nq hn;rw [R.FQ hk];have:=(bM.mp hk).1;have:=R.l6;omega
def jF.xY (R:jF w S ns last aa){g:G}(st:bE M11.bl aa (jP aa) g)(se:bS M11.bl aa g):∀h∈hd aa,∃n,g h=some n:=by
 have key:∀(n:Nat)(h:Str),k_ S ns h < n->h∈hd aa->∃m,g h=some m:=by
  intro n
  induction n with
  | zero=>intro h hn;omega
  | succ n ih =>
   intro h hn hh;have one:∀ps,(h,ps)∈aa->(∀p∈ps,p∈hd aa->k_ S ns p < k_ S ns h)->∃m,g h=some m:=λps hm Kf=>by
    obtain⟨m,em,_⟩:=gb se hm (λp hp=>by
     by_cases c:p∈hd aa
     .obtain⟨v,ev⟩:=ih p (by have:=Kf p hp c;omega) c;rw [ev];rfl
     rw [jt st c hm hp];rfl)
    exact⟨m,em⟩
   rcases R.mI.mp hh with e | Lu
   .obtain⟨n5,h5,hf⟩:=R.fst;rcases hf with hf | hf
    .refine one [w,n5] (by rw [e];exact cf hf) λp hp c=>?_;rcases aS.mp hp with e2 | hp
     .rw [e2] at c;exact absurd c R.zU
     rw [bD.mp hp,R.FQ h5,e,R.PQ];omega
    refine one [n5] (by rw [e];exact cf hf) λp hp c=>?_;rw [bD.mp hp,R.FQ h5,e,R.PQ];omega
   obtain⟨k,hk⟩:=nq Lu;obtain⟨ps,hm,hb⟩:=R.base k h hk;exact one ps hm λp hp c=>by rw [R.FQ hk];exact R.down hb p hp c
 exact λh hh=>key (k_ S ns h+1) h (jL _) hh
def jF.met (R:jF w S ns last aa)(h0:S∈ms)(mc:ED aa aa.length ms):∀h∈hd aa,h∈ms:=by
 have Sn:∀ru∈aa,ru.1∈ms->∀x∈ru.2,x∈ms:=λru mD=>mc ru (by rw [dI];exact mD);have m5:∀n,ns[5]?=some n->n∈ms:=λn hn=>by
  obtain⟨n5,h5,hf⟩:=R.fst;rw [hn] at h5;cases h5;rcases hf with hf | hf
  .exact Sn _ (cf hf) h0 n 125
  exact Sn _ (cf hf) h0 n 125
 have m4:∀n,ns[4]?=some n->n∈ms:=λn hn=>by
  obtain⟨n5,h5⟩:∃n5,ns[5]?=some n5:=⟨ns[5]'(by have:=R.l6;omega),cN _⟩;obtain⟨ps,hm,hb⟩:=R.base 5 n5 h5;obtain⟨n4,h4,hl⟩:=R.l4;rw [hn] at h4;cases h4;rcases hb with ⟨k,_⟩ | ⟨_,k,_⟩ | ⟨_,rfl⟩
  .omega
  .omega
  exact Sn _ hm (m5 n5 h5) n hl
 have step:∀k n m,1<=k->k < 5->ns[k]?=some n->n∈ms->ns[k - 1]?=some m->m∈ms:=λk n m k1 k5 hk hn hm=>by
  obtain⟨ps,hr,hb⟩:=R.base k n hk;rcases hb with ⟨k,_⟩ | ⟨_,_,m',Zf,rfl⟩ | ⟨k,_⟩
  .omega
  .rw [hm] at Zf;cases Zf;exact Sn _ hr hn m 125
  omega
 have get:∀k,k < 6->∃n,ns[k]?=some n:=λk hk=>⟨ns[k]'(by have:=R.l6;omega),cN _⟩;have low:∀j,j<=4->∀n,ns[4 - j]?=some n->n∈ms:=by
  intro j
  induction j with
  | zero=>intro _ n hn;exact m4 n hn
  | succ j ih =>
   intro hj n hn;obtain⟨m,hm⟩:=get (4 - j) ∅;exact step (4 - j) m n ∅ ∅ hm (ih ∅ m hm) (by rw [show 4 - j - 1=4 - (j+1) by omega];exact hn)
 intro h hh;rcases R.mI.mp hh with rfl | hn
 .exact h0
 obtain⟨k,hk⟩:=nq hn;have lk:=(bM.mp hk).1;have:=R.l6;by_cases c:k=5
 .rw [c] at hk;exact m5 h hk
 exact low (4 - k) ∅ h (by rw [show 4 - (4 - k)=k by omega];exact hk)
def jF.loop (R:jF w S ns last aa):BM aa (k_ S ns):=by
 intro bo he _ n k j hit ru z ek Rl;obtain⟨Cq,z',e1,rfl,e2,hz,hl⟩:=hit;rw [ek] at e1;cases e1;rw [Rl] at e2;cases e2;rcases R.OC.all ru (cf ek) with ra | ⟨_,_,⟨v,v1,v2⟩⟩
 .exact ra z (cf Rl) hz
 exfalso;obtain⟨i,hi⟩:=nq v1;by_cases c:i=j
 .rw [c,Rl] at hi;cases hi;exact v2 hz
 exact v2 (vh (N0 he v (dJ (GX hl hi c))))
def xP (S:Str) (ns last:z0r)(x:Str):Int:=match k_ S ns x with
 | 0=>1
 | 1=>3
 | 2=>7
 | 3=>15
 | 4=>31
 | 5=>1+31 * last.length
 | _=>2+31 * last.length
def jF.Tn (R:jF w S ns last aa):tZ aa (xP S ns last):=by
 have nn:∀z,0<=xP S ns last z:=λz=>by
  unfold xP
  split <;> omega
 have v:∀{k:Nat}{n:Str},ns[k]?=some n->xP S ns last n=match k with | 0=>1 | 1=>3 | 2=>7 | 3=>15 | 4=>31 | 5=>1+31 * last.length | _=>2+31 * last.length:=λh=>by
  unfold xP;rw [R.FQ h]
 refine⟨nn,λru hr em=>?_⟩;have now:w∉ru.2:=λh=>R.zU (vh (em w h));rcases R.rest ru hr with ⟨n5,h5,h⟩ | ⟨k,hk,hb | hs⟩
 .rcases h with h | h
  .rw [h] at now;exact absurd cx now
  rw [h];show 1+(xP S ns last n5+0)<=xP S ns last S;rw [v h5];have:xP S ns last S=2+31 * last.length:=by unfold xP;rw [R.PQ];rfl
  rw [this];show 1+(1+31 * (last.length:Int)+0)<=_;omega
 .have lk:=(bM.mp hk).1;have l6:=R.l6;rw [v hk];rcases hb with ⟨rfl,h | h⟩ | ⟨k1,k5,m,hm,h⟩ | ⟨rfl,h⟩
  .rw [h];show (1:Int)+0<=1;decide
  .rw [h] at now;exact absurd cx now
  .rw [h];show 1+(xP S ns last m+(xP S ns last m+0))<=_;rw [v hm]
   match k,k1,k5 with
   | 1,_,_=>show (1:Int)+(1+(1+0))<=3;decide
   | 2,_,_=>show (1:Int)+(3+(3+0))<=7;decide
   | 3,_,_=>show (1:Int)+(7+(7+0))<=15;decide
   | 4,_,_=>show (1:Int)+(15+(15+0))<=31;decide
  rw [h];show 1+(last.map (xP S ns last)).sum<=1+31 * (last.length:Int);have:∀l:z0r,(∀p∈l,p∈last)->(l.map (xP S ns last)).sum<=31 * (l.length:Int):=by
   intro l
   induction l with
   | nil=>intro _;exact fX _
   | cons a r ih =>
    intro hl;have h1:=ih λp hp=>hl p (cw _ hp);obtain⟨i,hi,e⟩:=R.la a (hl a cx);have h2:xP S ns last a<=31:=by
     rw [v e]
     match i,hi with
     | 0,_=>show (1:Int)<=31;decide
     | 1,_=>show (3:Int)<=31;decide
     | 2,_=>show (7:Int)<=31;decide
     | 3,_=>show (15:Int)<=31;decide
     | 4,_=>show (31:Int)<=31;decide
    rw [bC,hZ,c_];omega
  have:=this last λ_ h=>h;omega
 rcases hs with h | h | ⟨n0,h0,h⟩
 .rw [h] at now;exact absurd cx now
 .rw [h];have lk:=(bM.mp hk).1;have l6:=R.l6;rw [v hk];show (1:Int)+0<=_;have:k < 6:=by omega
  match k,this with
  | 0,_=>show (1:Int)+0<=1;decide
  | 1,_=>show (1:Int)+0<=3;decide
  | 2,_=>show (1:Int)+0<=7;decide
  | 3,_=>show (1:Int)+0<=15;decide
  | 4,_=>show (1:Int)+0<=31;decide
  | 5,_=>show (1:Int)+0<=1+31 * (last.length:Int);omega
 rw [h] at now;exact absurd cx now
end
open PySem L2 M11 PySem.W
abbrev rQ:Stmt:=top 61
def Of {zs:115}{m:Int}(h:(zs.length:Int)=m)(hm:0 < m) (n:Int):∃z∈zs,lK zs (n % m)=some z:=by
 subst h;have h1:=Int.emod_lt_of_pos n hm;have h2:=Int.emod_nonneg n (show (zs.length:Int)≠0 by omega);have l:(n % (zs.length:Int)).toNat < zs.length:=by omega
 have e:n % (zs.length:Int)=(((n % (zs.length:Int)).toNat:Nat):Int):=by omega
 refine⟨zs[(n % (zs.length:Int)).toNat],j6 l,?_⟩;have t:lK zs (((n % (zs.length:Int)).toNat:Nat):Int)=some zs[(n % (zs.length:Int)).toNat]:=cS (cN l);rw [<-e] at t;exact t
def lJ (first:z0r)(n0 n1 n2 n3 n4:Str):113:=[(n0,first),(n1,[n0,n0]),(n2,[n1,n1]),(n3,[n2,n2]),(n4,[n3,n3])]
structure EI (w:Str) (ns last:z0r) (j:Nat)(aa:113):Prop where
 rest:∀ru∈aa,∃k,ns[k]?=some ru.1/\(ua w ns last k ru.2\/qX w ns k ru.2)
 base:∀k n,ns[k]?=some n->∃ps,(n,ps)∈aa/\ua w ns last k ps
 len:aa.length<=6+j
def EI.r19 {w S:Str}{ns last:z0r}{aa:113}(d:EI w ns last j aa)(l6:ns.length=6)(nd:(w::S::ns).Nodup)(la:∀p∈last,p∈ns.take 5)(l4:∃n4,ns[4]?=some n4/\n4∈last)(h5:ns[5]?=some n5)(hp:ps=[w,n5]\/ps=[n5]) (i:Nat) :
  jF w S ns last ((S,ps)::(aa.drop i++aa.take i)) where
 l6:=l6
 nd:=nd
 fst:=⟨n5,h5,hp.imp (λe=>by rw [e];rfl) (λe=>by rw [e];rfl)⟩
 rest:=λru hr=>by
  rcases aS.mp hr with e | e
  .exact .inl ⟨n5,h5,hp.imp (λz=>by rw [e,z]) (λz=>by rw [e,z])⟩
  refine .inr (d.rest ru ?_);rcases cK.mp e with e | e
  .exact List.mem_of_mem_drop e
  exact vR e
 base:=λk n h=>by
  obtain⟨qs,a,b⟩:=d.base k n h;refine⟨qs,cw _ ?_,b⟩;rw [<-List.take_append_drop i aa] at a;rcases cK.mp a with a | a
  .exact fO _ a
  exact jX _ a
 la:=λp hp=>by
  obtain⟨i,hi⟩:=List.mem_iff_getElem?.mp (la p hp);have:i < 5:=by
   have:=(bM.mp hi).1;rw [d7] at this;omega
  exact⟨i,this,by rw [List.getElem?_take_of_lt this] at hi;exact hi⟩
 l4:=l4
def EI.put {w n:Str}{ns last:z0r}{j k:Nat}{aa:113}(d:EI w ns last j aa)(hn:ns[k]?=some n)(h:qX w ns k ps):EI w ns last (j+1) (aa++[(n,ps)]) where
 rest:=λru hr=>by
  rcases cK.mp hr with e | e
  .exact d.rest ru e
  rw [bD.mp e];exact⟨k,hn,.inr h⟩
 base:=λk n h=>by
  obtain⟨ps,a,b⟩:=d.base k n h;exact⟨ps,jX _ a,b⟩
 len:=by rw [bO];have:=d.len;show aa.length+1<=_;omega
def EI.more {w:Str}{ns last:z0r}{aa:113}(d:EI w ns last j aa):EI w ns last (j+1) aa:=⟨d.rest,d.base,by have:=d.len;omega⟩
def EI.new {w n0 n1 n2 n3 n4 n5:Str}(hf:first=[]\/first=[w]):EI w [n0,n1,n2,n3,n4,n5] last 0 (lJ first n0 n1 n2 n3 n4++[(n5,last)]) where
 rest:=λru hr=>by
  unfold lJ at hr;simp only [List.cons_append,mZ,aS,ni,or_false] at hr;rcases hr with rfl | rfl | rfl | rfl | rfl | rfl
  .exact⟨0,rfl,.inl (.inl ⟨rfl,hf⟩)⟩
  .exact⟨1,rfl,.inl (.inr (.inl ⟨nofun,nofun,n0,rfl,rfl⟩))⟩
  .exact⟨2,rfl,.inl (.inr (.inl ⟨nofun,nofun,n1,rfl,rfl⟩))⟩
  .exact⟨3,rfl,.inl (.inr (.inl ⟨nofun,nofun,n2,rfl,rfl⟩))⟩
  .exact⟨4,rfl,.inl (.inr (.inl ⟨nofun,nofun,n3,rfl,rfl⟩))⟩
  exact⟨5,rfl,.inl (.inr (.inr ⟨rfl,rfl⟩))⟩
 base:=λk n h=>by
  unfold lJ;rcases k with _ | _ | _ | _ | _ | _ | k
  .cases h;exact⟨first,108,.inl ⟨rfl,hf⟩⟩
  .cases h;exact⟨_,108,.inr (.inl ⟨nofun,nofun,n0,rfl,rfl⟩)⟩
  .cases h;exact⟨[n1,n1],108,.inr (.inl ⟨nofun,nofun,n1,rfl,rfl⟩)⟩
  .cases h;exact⟨[n2,n2],108,.inr (.inl ⟨nofun,nofun,n2,rfl,rfl⟩)⟩
  .cases h;exact⟨[n3,n3],108,.inr (.inl ⟨nofun,nofun,n3,rfl,rfl⟩)⟩
  .cases h;exact⟨last,108,.inr (.inr ⟨rfl,rfl⟩)⟩
  simp at h
 len:=by unfold lJ;simp
section
theorem px {α β:Type}{F:α->β->Prop}:∀{a a':List α}{c c':List β},Paired F a c->Paired F a' c'->Paired F (a++a') (c++c')
 | _,_,_,_,.nil,h=>h
 | _,_,_,_,.cons x t,h=>.cons x (px t h)
theorem si {α β:Type}{F:α->β->Prop}:∀(i:Nat){a:List α}{c:List β},Paired F a c->Paired F (a.drop i) (c.drop i)
 | 0,_,_,h=>h
 | i+1,_,_,.nil=>.nil
 | i+1,_,_,.cons _ t=>si i t
theorem sf {α β:Type}{F:α->β->Prop}:∀(i:Nat){a:List α}{c:List β},Paired F a c->Paired F (a.take i) (c.take i)
 | 0,_,_,h=>.nil
 | i+1,_,_,.nil=>.nil
 | i+1,_,_,.cons x t=>.cons x (sf i t)
def LJ (xs:115) (k:Nat):fM xs (some (k:Int)) none=xs.drop k:=by
 have e1:HT.kZ xs.length 0 (some (k:Int))=min k xs.length:=HT.nN _ _ k;have e2:HT.kZ xs.length xs.length none=xs.length:=rfl;unfold fM;rw [e1,e2];rcases Nat.le_total k xs.length with h | h
 .rw [Nat.min_eq_left h,lE (by rw [ng];omega)]
 rw [Nat.min_eq_right h,zK (aG _),zK h];simp
def LK (xs:115) (k:Nat):fM xs none (some (k:Int))=xs.take k:=by
 have e1:HT.kZ xs.length xs.length (some (k:Int))=min k xs.length:=HT.nN _ _ k;have e2:HT.kZ xs.length 0 none=0:=rfl;unfold fM;rw [e1,e2,List.drop_zero,Nat.sub_zero];rcases Nat.le_total k xs.length with h | h
 .rw [Nat.min_eq_left h]
 rw [Nat.min_eq_right h,lE h,lE (aG _)]
def BH (first:z0r)(n0 n1 n2 n3 n4 n5:Str){i:Nat}(hi:i < 4):∃a b,lK ([n0,n1,n2,n3,n4,n5].map V.str) (1+(i:Int))=some (.str a)/\lK ([n0,n1,n2,n3,n4,n5].map V.str) (1+(i:Int) - 1)=some (.str b) /\
  (lJ first n0 n1 n2 n3 n4).take (i+1+1)=(lJ first n0 n1 n2 n3 n4).take (i+1)++[(a,[b,b])]:=by
 rcases i with _ | _ | _ | _ | i
 .exact⟨n1,n0,rfl,rfl,rfl⟩
 .exact⟨n2,n1,rfl,rfl,rfl⟩
 .exact⟨n3,n2,rfl,rfl,rfl⟩
 .exact⟨n4,n3,rfl,rfl,rfl⟩
 omega
def iI.same {r:Addr}(h:iI K H r ru)(s:aE H H'):iI K H' r ru:=let ⟨p,a,b⟩:=h;⟨p,s.tup a,s.tup b⟩
def l_ {H H':Hp}{aa:113}{r:Addr}(h:bj K H rs aa)(s:aE H H')(v:iI K H' r ru):bj K H' (rs++[r]) (aa++[ru]):=px (h.same s) (.cons v .nil)
def uM (K:aV):Sp:=λvs H Q _=>∃(L:Addr)(wd S:Str) (ns:z0r) (c t:Int),vs=[.ref L,.int c,.int t]/\aF K H L ((wd::S::ns).map V.str)/\ns.length=6/\(wd::S::ns).Nodup /\
 ∀(R:Addr)(rs:z0o)(aa:113) (last:z0r)(H':Hp),H R=none->aE H H'->H' R=some 235->bj K H' rs aa->aa.length<=13->last.length<=6->jF wd S ns last aa->Q (.ref R) H'
def cZ:aJ ["_law_pool_here","_law_cell","_law_turn","_law_word","_law_start","_law_names","_law_size","_law_first","_law_rules_here","_law_k","_law_way","_law_short","_law_at"] ["_law_pool_here","_law_cell","_law_turn"] (av rQ):=182
def AQ (F:iu K "_law_rules" "_law_rules" rQ f fd)(T:Txt mg)(GL:aL P w K mg base 1 "_law_last" ["_law_names","_law_size"] (Fo K)):bF P w K mg base fN 2 f fd ["_law_pool_here","_law_cell","_law_turn"] (uM K):=by
 refine F.ok cZ 186 195
 .obtain⟨L,wd,S,ns,c,t,rfl,_⟩:=h;rfl
 obtain⟨L,wd,S,ns,c,t,rfl,hL,h6,Ls,q⟩:=h;refine⟨_,ao (aD (i:=3) cZ.nd rfl 116 (aO aQ (pv 0) au 144))
  (ao (aD (i:=4) cZ.nd rfl 116 (aO aQ (pv 0) au 144))
  (ao (aD (i:=5) cZ.nd rfl 116 (dO f_ (pv 0) (dH au) gQ))
  (ao (aD (i:=6) cZ.nd rfl 116 (aO aQ (bu (af (aU dQ au (aU eQ (aU gS (pv 1) au) au)) (af (aU dQ au (aU eQ (aU gS (pv 1) au) au)) (af (aU dQ au (aU eQ (aU gS (pv 1) au) au)) (af (aU dQ au (aU eQ (aU gS (pv 1) au) au)) ak))))) (aU eQ (pv 1) au) 144))
  (ao (aD (i:=7) cZ.nd rfl 116 (aO aQ (bu (af (bJ ak) (af (bJ (af (pv 3) ak)) ak))) (aU eQ (aU gS (pv 1) au) au) 144))
  (ao (aD (i:=8) cZ.nd rfl 116 (bu (af (bJ (af (aO aQ (pv 5) au 144) (af (pv 7) ak))) ak)))
  (ao (b_ cD rfl (Dp rfl T.Im (af au (af au ak))) (ay (i:=9) cZ.nd rfl 116)
   (ar (cv (dY fY gE gF bR (pv 8) (af (bJ (af (aO aQ (pv 5) (pv 9) 144) (af (bJ (af (aO aQ (pv 5) (aU wQ (pv 9) au) 144) (af (aO aQ (pv 5) (aU wQ (pv 9) au) 144) ak))) ak))) ak)))))
  (ao (cv (dY fY gE gF bR (pv 8) (af (bJ (af (aO aQ (pv 5) au 144) (af (bU GL hr rfl (af (dO f_ (pv 5) gQ (dH au)) (af (pv 6) ak))) ak))) ak)))
  (ao (b_ cD rfl (kQ rfl T.Im (af au ak)) (ay (i:=9) cZ.nd rfl 116)
   (ao (aD (i:=10) cZ.nd rfl 116 (aU eQ (aU gS (aU gS (pv 1) au) (aU dQ (pv 9) au)) au))
   (ao (aD (i:=11) cZ.nd rfl 116 (bu (af (bJ (af (pv 3) ak)) (af (bJ ak) (af (bJ (af (pv 3) (af (aO aQ (pv 5) au 144) (af (aO aQ (pv 5) au 144) (af (aO aQ (pv 5) au 144) ak))))) ak)))))
   (ar (cR (PW.pt (gK (bf qi (pv 10) au (bz _)) (gK (PW.pt (qg (bf K_ (pv 10) au (bz _)) (ma (bf sk (pv 9) au (bz _))))) (gO (bf qj (aU eQ (aU gS (pv 1) au) au) au (bz _))))))
    (ar (cv (dY fY gE gF bR (pv 8) (af (bJ (af (aO aQ (pv 5) (pv 9) 144) (af (aO aQ (pv 11) (pv 10) 144) ak))) ak)))) bL)))))
  (ao (aD (i:=12) cZ.nd rfl 116 (aU eQ (pv 2) (aM cA rfl T.len h_ (af (pv 8) ak))))
  (ao (aD (i:=8) cZ.nd rfl 116 (aU pA (dO f_ (pv 8) (dH (pv 12)) gQ) (dO f_ (pv 8) gQ (dH (pv 12)))))
  (ar (br (aU pA (bu (af (bJ (af (pv 4) (af (aO aQ (bu (af (bJ (af (pv 3) (af (aO aQ (pv 5) au 144) ak))) (af (bJ (af (aO aQ (pv 5) au 144) ak)) ak))) (aU eQ (aU gS (pv 1) au) au) 144) ak))) ak)) (pv 8)))))))))))))),?_⟩
 obtain⟨n0,n1,n2,n3,n4,n5,rfl⟩:∃n0 n1 n2 n3 n4 n5,ns=[n0,n1,n2,n3,n4,n5]:=by
  match ns,h6 with
  | [n0,n1,n2,n3,n4,n5],_=>exact⟨n0,n1,n2,n3,n4,n5,rfl⟩
 refine⟨_,rfl,L,_,_,.str wd,rfl,rfl,hL,rfl,?_⟩;refine⟨_,rfl,L,_,_,.str S,rfl,rfl,hL,rfl,?_⟩;refine⟨_,rfl,2,rfl,L,_,rfl,hL,λN hN=>?_⟩;rw [show (2:Int)=((2:Nat):Int) from rfl,LJ,show List.drop 2 (List.map V.str [wd,S,n0,n1,n2,n3,n4,n5])=[n0,n1,n2,n3,n4,n5].map V.str from rfl];have s1:=ah hN (.lst ([n0,n1,n2,n3,n4,n5].map V.str));have eN:upd H N (.lst ([n0,n1,n2,n3,n4,n5].map V.str)) N=some (.lst ([n0,n1,n2,n3,n4,n5].map V.str)):=ae;show _;generalize upd H N (.lst ([n0,n1,n2,n3,n4,n5].map V.str))=H1 at s1 eN ⊢;obtain⟨z,hz,Hk⟩:=Of (zs:=[.int (58+c / 4 % 6),.int (58+c / 4 % 6),.int (58+c / 4 % 6),.int (50+c / 4 % 20)]) (m:=4) rfl nofun c;obtain⟨zz,ez,z1,z2⟩:∃zz:Int,z=.int zz/\32<=zz/\zz<=69:=by
  simp only [aS,ni,or_false] at hz;rcases hz with h | h | h | h <;> exact⟨_,h,∅,∅⟩
 subst ez;refine⟨_,rfl,_,_,rfl,rfl,⟨nofun,nofun⟩,_,_,rfl,rfl,(by show (0:Int) < 6;decide),_,_,rfl,rfl,_,rfl,_,_,rfl,rfl,⟨nofun,nofun⟩,_,_,rfl,rfl,(by show (0:Int) < 6;decide),_,_,rfl,rfl,
  _,rfl,_,_,rfl,rfl,⟨nofun,nofun⟩,_,_,rfl,rfl,(by show (0:Int) < 6;decide),_,_,rfl,rfl,_,rfl,_,_,rfl,rfl,⟨nofun,nofun⟩,_,_,rfl,rfl,(by show (0:Int) < 20;decide),_,_,rfl,rfl,TH,λB hB=>?_⟩
 have s2:=s1.trans (ah hB (.lst [.int (58+c / 4 % 6),.int (58+c / 4 % 6),.int (58+c / 4 % 6),.int (50+c / 4 % 20)]));have Xc:=ah hB (.lst [.int (58+c / 4 % 6),.int (58+c / 4 % 6),.int (58+c / 4 % 6),.int (50+c / 4 % 20)]) _ _ eN;refine⟨_,rfl,_,_,rfl,rfl,(by show (0:Int) < 4;decide),B,_,_,_,rfl,rfl,aF.of ae,Hk,?_⟩;generalize upd H1 B (.lst [.int (58+c / 4 % 6),.int (58+c / 4 % 6),.int (58+c / 4 % 6),.int (50+c / 4 % 20)])=H2 at s2 Xc ⊢;clear s1 eN hB Hk hz;refine⟨oU,λp1 h1=>⟨_,rfl,EJ,λp2 h2=>⟨lX,λB hB=>?_⟩⟩⟩;have t1:=ah h1 (.tup []);have t2:=ah h2 (.tup [.str wd]);have t3:=ah hB (.lst [.ref p1,.ref p2]);have tt:=t1.trans (t2.trans t3);obtain⟨fr,hf,Hk⟩:=Of (zs:=[.ref p1,.ref p2]) (m:=2) rfl nofun (c / 80);refine⟨_,rfl,_,_,rfl,rfl,⟨nofun,nofun⟩,_,_,rfl,rfl,(by show (0:Int) < 2;decide),B,_,_,_,rfl,rfl,aF.of ae,Hk,?_⟩;obtain⟨pf,first,ef,hfi,VW⟩:∃pf first,fr=.ref pf/\(first=[]\/first=[wd])/\upd (upd (upd H2 p1 (.tup [])) p2 (.tup [.str wd])) B (.lst [.ref p1,.ref p2]) pf=some (.tup (first.map V.str)):=by
  simp only [aS,ni,or_false] at hf;rcases hf with h | h
  .exact⟨p1,[],h,.inl rfl,t3 _ _ (t2 _ _ ae)⟩
  exact⟨p2,[wd],h,.inr rfl,t3 _ _ ae⟩
 subst ef;have s3:=s2.trans tt;have Ti:=tt _ _ Xc;generalize upd (upd (upd H2 p1 (.tup [])) p2 (.tup [.str wd])) B (.lst [.ref p1,.ref p2])=H3 at s3 Ti VW ⊢;clear s2 Xc t1 t2 t3 tt h1 h2 hB Hk hf;refine⟨_,rfl,N,_,_,.str n0,rfl,rfl,aF.of Ti,rfl,_,rfl,lX,λp1 h1=>⟨EJ,λR hR=>?_⟩⟩;have t1:=ah h1 (.tup [.str n0,.ref pf]);have t2:=ah hR (.lst [.ref p1]);have s4:=s3.trans (t1.trans t2);have Z3:=(t1.trans t2) _ _ Ti;have jx:iI K (upd (upd H3 p1 (.tup [.str n0,.ref pf])) R (.lst [.ref p1])) p1 (n0,first):=⟨pf,aZ.of (t2 _ _ ae),aZ.of ((t1.trans t2) _ _ VW)⟩;have eR:upd (upd H3 p1 (.tup [.str n0,.ref pf])) R (.lst [.ref p1]) R=some (.lst ([p1].map V.ref)):=ae;have nR:H R=none:=(s3.trans t1).free hR;generalize upd (upd H3 p1 (.tup [.str n0,.ref pf])) R (.lst [.ref p1])=H4 at s4 Z3 jx eR ⊢;clear s3 Ti t1 t2 h1 hR VW;refine⟨1,5,rfl,⟨nofun,nofun,nofun,nofun⟩,?_⟩;refine jk (n:=4) (λi σ H2=>∃(rs:z0o)(y9:Option V),σ=[bc L,some (.int c),some (.int t),some (.str wd),some (.str S),bc N,some (.int zz),bc pf,bc R,y9,none,none,none]/\aE H H2/\H2 N=some (.lst ([n0,n1,n2,n3,n4,n5].map V.str))/\H2 R=some 235/\rs.length=i+1/\bj K H2 rs ((lJ first n0 n1 n2 n3 n4).take (i+1)))
  ⟨[p1],none,rfl,s4,Z3,eR,rfl,.cons jx .nil⟩ ?_ ?_
 .rintro i σ H5 hi ⟨rs,y9,rfl,s5,HC,Ry,lr,Sa⟩;obtain⟨a,b,ha,hb,et⟩:=BH first n0 n1 n2 n3 n4 n5 hi;refine⟨_,rfl,.inl ⟨rfl,_,aF.of Ry⟩,_,rfl,_,rfl,N,_,_,.str a,rfl,rfl,aF.of HC,ha,_,rfl,_,rfl,_,_,rfl,rfl,N,_,_,.str b,rfl,rfl,aF.of HC,hb,_,rfl,_,rfl,_,_,rfl,rfl,N,_,_,.str b,rfl,rfl,aF.of HC,hb,
   lX,λp hp=>⟨lX,λr hr=>?_⟩⟩
  have t1:=ah hp (.tup [.str b,.str b]);have t2:=ah hr (.tup [.str a,.ref p]);have uG:=t1.trans t2;have IC:=uG _ _ Ry;have rv:iI K (upd (upd H5 p (.tup [.str b,.str b])) r (.tup [.str a,.ref p])) r (a,[b,b]):=⟨p,aZ.of ae,aZ.of (t2 _ _ ae)⟩;have PK:=l_ Sa uG rv;have s6:=s5.trans uG;have N7:=uG _ _ HC;generalize upd (upd H5 p (.tup [.str b,.str b])) r (.tup [.str a,.ref p])=H6 at IC PK s6 N7 ⊢;refine⟨R,143,_,rfl,rfl,IC,210,?_⟩;refine⟨rs++[r],_,rfl,λb o hb=>?_,?_,?_,?_,?_⟩
  .rw [aj (aq hb nR)];exact s6 b o hb
  .rw [aj (λe=>by rw [e,IC] at N7;cases rs with | nil=>cases lr | cons x l=>cases N7)];exact N7
  .rw [ae,bA];rfl
  .rw [bO,lr];rfl
  rw [et];exact PK.keep λa xs h=>aT IC h
 rintro σ H5 ⟨rs,y9,rfl,s5,HC,Ry,lr,Sa⟩;have eb:(lJ first n0 n1 n2 n3 n4).take (4+1)=lJ first n0 n1 n2 n3 n4:=rfl;rw [eb] at Sa;refine⟨_,rfl,.inl ⟨rfl,_,aF.of Ry⟩,_,rfl,N,_,_,.str n5,rfl,rfl,aF.of HC,rfl,_,rfl,5,rfl,N,_,rfl,aF.of HC,λp hp=>⟨_,rfl,?_⟩⟩;rw [show (5:Int)=((5:Nat):Int) from rfl,LK,show List.take 5 (List.map V.str [n0,n1,n2,n3,n4,n5])=[n0,n1,n2,n3,n4].map V.str from rfl];have t0:=ah hp (.lst ([n0,n1,n2,n3,n4].map V.str));have eP:upd H5 p (.lst ([n0,n1,n2,n3,n4].map V.str)) p=some (.lst ([n0,n1,n2,n3,n4].map V.str)):=ae;have s6:=s5.trans t0;have N7:=t0 _ _ HC;have IC:=t0 _ _ Ry;have PK:=Sa.same t0;generalize upd H5 p (.lst ([n0,n1,n2,n3,n4].map V.str))=H6 at t0 eP s6 N7 IC PK ⊢;refine⟨p,[n0,n1,n2,n3,n4],zz,rfl,aF.of eP,rfl,z1,z2,λlt last H7 nl sl el ll lm V9=>⟨lX,λr hr=>?_⟩⟩;have t2:=ah hr (.tup [.str n5,.ref lt]);have uG:=sl.trans t2;have Tf:=uG _ _ IC;have rv:iI K (upd H7 r (.tup [.str n5,.ref lt])) r (n5,last):=⟨lt,aZ.of ae,aZ.of (t2 _ _ el)⟩;have YD:=l_ PK uG rv;have s7:=s6.trans uG;have Th:=uG _ _ N7;generalize upd H7 r (.tup [.str n5,.ref lt])=H8 at Tf YD s7 Th ⊢;refine⟨R,143,_,rfl,rfl,Tf,210,?_⟩;have NR:N≠R:=λe=>by rw [e,Tf] at Th;cases rs with | nil=>cases lr | cons x l=>cases Th
 refine⟨6,rfl,nofun,nofun,?_⟩;refine jk (n:=6) (λi σ H2=>∃(rs:z0o)(aa:113)(y9 L0 LZ:Option V),σ=[bc L,some (.int c),some (.int t),some (.str wd),some (.str S),bc N,some (.int zz),bc pf,bc R,y9,L0,LZ,none]/\aE H H2/\H2 N=some (.lst ([n0,n1,n2,n3,n4,n5].map V.str))/\H2 R=some 235/\bj K H2 rs aa/\EI wd [n0,n1,n2,n3,n4,n5] last i aa)
  ⟨rs++[r],lJ first n0 n1 n2 n3 n4++[(n5,last)],y9,none,none,rfl,λb o hb=>by rw [aj (aq hb nR)];exact s7 b o hb,by rw [aj NR];exact Th,by rw [ae,bA];rfl,YD.keep λa xs h=>aT Tf h,EI.new hfi⟩ ?_ ?_
 .rintro i σ H9 hi ⟨rs,aa,y9,L0,LZ,rfl,s9,OX,Kq,R_,d9⟩;refine⟨_,rfl,_,_,rfl,rfl,⟨nofun,nofun⟩,_,rfl,_,_,rfl,rfl,_,_,rfl,rfl,⟨∅,∅⟩,_,_,rfl,rfl,(by show (0:Int) < 7;decide),?_⟩;refine⟨_,rfl,EJ,λq1 h1=>⟨oU,λq2 h2=>?_⟩⟩;have t1:=ah h1 (.tup [.str wd]);have t2:=ah h2 (.tup []);have uG:=t1.trans t2;refine⟨_,rfl,_,rfl,N,_,_,.str n0,rfl,rfl,aF.of (uG _ _ OX),rfl,_,rfl,N,_,_,.str n0,rfl,rfl,aF.of (uG _ _ OX),rfl,_,rfl,N,_,_,.str n0,rfl,rfl,aF.of (uG _ _ OX),rfl,TH,λq3 h3=>⟨O4,λB hB=>?_⟩⟩;have t3:=ah h3 (.tup [.str wd,.str n0,.str n0,.str n0]);have t4:=ah hB (.lst [.ref q1,.ref q2,.ref q3]);have e1:=t4 _ _ (t3 _ _ (t2 _ _ (ae (H:=H9) (a:=q1) (o:=.tup [.str wd]))));have e2:=t4 _ _ (t3 _ _ (ae (H:=upd H9 q1 (.tup [.str wd])) (a:=q2) (o:=.tup [])));have e3:=t4 _ _ (ae (H:=upd (upd H9 q1 (.tup [.str wd])) q2 (.tup [])) (a:=q3) (o:=.tup [.str wd,.str n0,.str n0,.str n0]));have IV:=uG.trans (t3.trans t4);have eB:upd (upd (upd (upd H9 q1 (.tup [.str wd])) q2 (.tup [])) q3 (.tup [.str wd,.str n0,.str n0,.str n0])) B (.lst [.ref q1,.ref q2,.ref q3]) B=some (.lst [.ref q1,.ref q2,.ref q3]):=ae;have oC:=s9.trans IV;have uv:=IV _ _ OX;have Bw:=IV _ _ Kq;have wJ:=R_.same IV;generalize upd (upd (upd (upd H9 q1 (.tup [.str wd])) q2 (.tup [])) q3 (.tup [.str wd,.str n0,.str n0,.str n0])) B (.lst [.ref q1,.ref q2,.ref q3])=lN at e1 e2 e3 eB oC uv Bw wJ ⊢;clear t1 t2 uG t3 t4 IV h1 h2 h3 hB;refine⟨_,rfl,_,_,rfl,rfl,_,rfl,cC (λcc=>?_) (λ_=>cC (λh=>by cases h) λ_=>⟨rs,aa,_,_,_,rfl,oC,uv,Bw,wJ,d9.more⟩)⟩;have cc:=dJ cc;have w0:0<=c / 160 / (0+(i:Int)+1) % 7:=Int.emod_nonneg _ nofun;obtain⟨q,ps,hq,hs,hv⟩:∃q ps,lK [V.ref q1,V.ref q2,V.ref q3] (c / 160 / (0+(i:Int)+1) % 7)=some (.ref q)/\qX wd [n0,n1,n2,n3,n4,n5] i ps/\lN q=some (.tup (ps.map V.str)):=by
   have hw:c / 160 / (0+(i:Int)+1) % 7=0\/c / 160 / (0+(i:Int)+1) % 7=1\/c / 160 / (0+(i:Int)+1) % 7=2:=by omega
   rcases hw with h | h | h
   .rw [h];exact⟨q1,[wd],rfl,.inl rfl,e1⟩
   .rw [h];exact⟨q2,[],rfl,.inr (.inl rfl),e2⟩
   rw [h];exact⟨q3,[wd,n0,n0,n0],rfl,.inr (.inr ⟨n0,rfl,rfl⟩),e3⟩
  obtain⟨n,hn,hna⟩:∃n,[n0,n1,n2,n3,n4,n5][i]?=some n/\lK ([n0,n1,n2,n3,n4,n5].map V.str) (0+(i:Int))=some (.str n):=by
   have l:i < [n0,n1,n2,n3,n4,n5].length:=hi;refine⟨_,cN l,?_⟩;rw [Int.zero_add];exact cS (by rw [bB,cN l];rfl)
  have yes:∀r,lN r=none->∃Jg jw,aE H (upd (upd lN r (.tup [.str n,.ref q])) R (.lst (143++[.ref r])))/\upd (upd lN r (.tup [.str n,.ref q])) R (.lst (143++[.ref r])) N=some (.lst ([n0,n1,n2,n3,n4,n5].map V.str))/\upd (upd lN r (.tup [.str n,.ref q])) R (.lst (143++[.ref r])) R=some (.lst (Jg.map V.ref))/\bj K (upd (upd lN r (.tup [.str n,.ref q])) R (.lst (143++[.ref r]))) Jg jw/\EI wd [n0,n1,n2,n3,n4,n5] last (i+1) jw:=λr hr=>by
   have t2:=ah hr (.tup [.str n,.ref q]);have Xa:=t2 _ _ Bw;have rv:iI K (upd lN r (.tup [.str n,.ref q])) r (n,ps):=⟨q,aZ.of ae,aZ.of (t2 _ _ hv)⟩;have FP:=l_ wJ t2 rv;refine⟨rs++[r],aa++[(n,ps)],λb o hb=>?_,?_,?_,FP.keep λa xs h=>aT Xa h,d9.put hn hs⟩
   .rw [aj (aq hb nR)];exact t2 _ _ (oC b o hb)
   .rw [aj NR];exact t2 _ _ uv
   rw [ae,bA];rfl
  have So:rs.length<=100:=by have:=bT wJ;have:=d9.len;omega
  refine⟨_,rfl,rfl,_,rfl,?_⟩;refine cC (λ_=>cC (λ_=>?_) (λh=>absurd rfl h)) (λ_=>⟨_,rfl,_,_,rfl,rfl,_,rfl,cC (λ_=>?_) (λ_=>cC (λh=>by cases h) λ_=>⟨rs,aa,_,_,_,rfl,oC,uv,Bw,wJ,d9.more⟩)⟩)
  all_goals
   refine⟨_,rfl,_,_,rfl,rfl,⟨nofun,nofun⟩,_,_,rfl,rfl,(by show (0:Int) < 2;decide),rfl,_,rfl,cC (λ_=>?_) (λ_=>⟨rs,aa,_,_,_,rfl,oC,uv,Bw,wJ,d9.more⟩)⟩;refine⟨_,rfl,.inl ⟨rfl,_,aF.of Bw⟩,_,rfl,_,rfl,N,_,_,.str n,rfl,rfl,aF.of uv,hna,_,rfl,_,rfl,B,_,_,.ref q,rfl,rfl,aF.of eB,hq,lX,λr hr=>?_⟩;obtain⟨Jg,jw,a1,a2,a3,a4,a5⟩:=yes r hr;refine⟨R,143,_,rfl,rfl,ah hr _ _ _ Bw,210,?_⟩;exact⟨Jg,jw,_,_,_,rfl,a1,a2,a3,a4,a5⟩
 rintro σ H9 ⟨rs,aa,y9,L0,LZ,rfl,s9,OX,Kq,R_,d9⟩;have lrr:=bT R_;have So:rs.length<=12:=by have:=d9.len;omega
 have lr0:0 < rs.length:=by
  obtain⟨ps,hm,_⟩:=d9.base 0 n0 rfl;have:=List.length_pos_of_mem hm;omega
 refine⟨_,rfl,_,rfl,R,_,rfl,.inl (aF.of Kq),_,_,rfl,rfl,(by rw [aC];omega),?_⟩;rw [aC];obtain⟨k,hk⟩:∃k:Nat,t % (rs.length:Int)=(k:Int):=⟨(t % (rs.length:Int)).toNat,by have:=Int.emod_nonneg t (show (rs.length:Int)≠0 by omega);omega⟩;show _;simp only [hk];refine⟨_,rfl,_,rfl,_,rfl,R,_,rfl,aF.of Kq,λl1 h1=>?_⟩;rw [LJ];have t1:=ah h1 (.lst ((143).drop k));refine⟨_,rfl,_,rfl,_,rfl,R,_,rfl,aF.of (t1 _ _ Kq),λl2 h2=>?_⟩;rw [LK];have t2:=ah h2 (.lst ((143).take k));refine⟨l1,l2,_,_,rfl,rfl,t2 _ _ ae,ae,fits (by rw [ng,d7,aC];omega),λl3 h3=>?_⟩;have t3:=ah h3 (.lst ((143).drop k++(143).take k));have kX:=t1.trans (t2.trans t3);have oC:=s9.trans kX;have uv:=kX _ _ OX;have wJ:=R_.same kX;have e3:upd (upd (upd H9 l1 (.lst ((143).drop k))) l2 (.lst ((143).take k))) l3 (.lst ((143).drop k++(143).take k)) l3=some (.lst ((143).drop k++(143).take k)):=ae;generalize upd (upd (upd H9 l1 (.lst ((143).drop k))) l2 (.lst ((143).take k))) l3 (.lst ((143).drop k++(143).take k))=lN at oC uv wJ e3 ⊢;clear t1 t2 t3 kX h1 h2 h3;refine⟨_,rfl,_,rfl,_,rfl,N,_,_,.str n5,rfl,rfl,aF.of uv,rfl,lX,λq1 h1=>?_⟩;have t1:=ah h1 (.tup [.str wd,.str n5]);refine⟨_,rfl,N,_,_,.str n5,rfl,rfl,aF.of (t1 _ _ uv),rfl,EJ,λq2 h2=>⟨lX,λB hB=>?_⟩⟩;have t2:=ah h2 (.tup [.str n5]);have t3:=ah hB (.lst [.ref q1,.ref q2]);obtain⟨fr,hf,Hk⟩:=Of (zs:=[.ref q1,.ref q2]) (m:=2) rfl nofun (c / 320);refine⟨_,rfl,_,_,rfl,rfl,⟨nofun,nofun⟩,_,_,rfl,rfl,(by show (0:Int) < 2;decide),B,_,_,_,rfl,rfl,aF.of ae,Hk,lX,λr hr=>⟨EJ,λl4 h4=>?_⟩⟩;have kX:=t1.trans (t2.trans t3);obtain⟨qf,ps,ef,n6,Za⟩:∃qf ps,fr=.ref qf/\(ps=[wd,n5]\/ps=[n5])/\upd (upd (upd lN q1 (.tup [.str wd,.str n5])) q2 (.tup [.str n5])) B (.lst [.ref q1,.ref q2]) qf=some (.tup (ps.map V.str)):=by
  simp only [aS,ni,or_false] at hf;rcases hf with h | h
  .exact⟨q1,[wd,n5],h,.inl rfl,t3 _ _ (t2 _ _ ae)⟩
  exact⟨q2,[n5],h,.inr rfl,t3 _ _ ae⟩
 subst ef;have wI:=oC.trans kX;have FP:=wJ.same kX;have vi:=kX _ _ e3;generalize upd (upd (upd lN q1 (.tup [.str wd,.str n5])) q2 (.tup [.str n5])) B (.lst [.ref q1,.ref q2])=ue at wI FP vi Za hr h4 ⊢;have t4:=ah hr (.tup [.str S,.ref qf]);have t5:=ah h4 (.lst [.ref r]);have Ov:=t4.trans t5;have rv:iI K (upd (upd ue r (.tup [.str S,.ref qf])) l4 (.lst [.ref r])) r (S,ps):=⟨qf,aZ.of (t5 _ _ ae),aZ.of (Ov _ _ Za)⟩;refine⟨_,rfl,l4,l3,_,_,rfl,rfl,ae,Ov _ _ vi,fits (by rw [bO,ng,d7,aC];show 1+_<=1000000;omega),λl5 h5=>?_⟩;have t6:=ah h5 (.lst ([V.ref r]++((143).drop k++(143).take k)));have sF:=wI.trans (Ov.trans t6);refine q l5 (r::(rs.drop k++rs.take k)) ((S,ps)::(aa.drop k++aa.take k)) last _ ((wI.trans Ov).free h5) sF (by rw [ae,bC,bA,List.map_drop,List.map_take];rfl) ?_ ?_ ll (d9.r19 rfl Ls lm V9 rfl n6 k)
 .exact .cons (rv.same t6) (px (si k (FP.same (Ov.trans t6))) (sf k (FP.same (Ov.trans t6))))
 rw [c_,bO,ng,d7];have:=d9.len;omega
end
abbrev An:Stmt:=top 62
section
def B_ (K:aV):Sp:=λvs H Q _=>∃(r d:Addr)(kvs:140)(g:G)(ru:aB),vs=[.ref r,.ref d]/\H d=184/\(∀z,ba kvs 145=(g z).map V.int)/\iI K H r ru/\ru.2.length<=8/\∀H',aE H H'->Q (.int (aH g ru)) H'
def IZ:aJ ["_law_rule","_law_sizes_here"] ["_law_rule","_law_sizes_here"] (av An):=182
def Gp (F:iu K "_law_sum" "_law_sum" An f fd)(T:Txt mg):bF P w K mg base fN 1 f fd ["_law_rule","_law_sizes_here"] (B_ K):=by
 refine F.ok IZ 186 195
 .obtain⟨r,d,kvs,g,ru,rfl,_⟩:=h;rfl
 obtain⟨r,d,kvs,g,ru,rfl,hd,hv,⟨p,v1,v2⟩,h8,q⟩:=h;have hu:=fU hr;refine⟨_,ar (br (aU dQ au (aM (pL rfl) rfl T.sum PyProof.Rows.boot_sum (af (bV ["_law_part"] [(1,"_law_sizes_here")] rfl (hV (aO cz (pv 0) au 144)) (bH rfl rfl) nofun rfl nofun
   (λ_ _ _ _ _=>ay (i:=0) (show (["_law_part","_law_sizes_here"]:z0r).Nodup by decide +kernel) rfl 116) (λ_ _ _ _ _=>cJ) (λ_ _ _ _ _=>r9 hu (pv 1) (pv 0) au ⟨rfl,rfl,rfl,rfl⟩)) ak)))),?_⟩
 dsimp only [pK];refine⟨_,rfl,r,_,_,_,rfl,rfl,v1,rfl,p,rfl,⟨_,v2⟩,λD hD=>?_⟩;have nd:d≠D:=λe=>by rw [e,hD] at hd;cases hd
 refine gN (xs:=ru.2.map V.str) (λi ys σ2 H2=>∃x,σ2=[x,bc d]/\ys=(ru.2.take i).map (λz=>V.int ((g z).getD 0))/\H2=upd H D (.lst ys)) ⟨none,rfl,108,rfl⟩ ?_ ?_ ?_
 .rintro i ys σ2 H2 _ ⟨x,rfl,_,rfl⟩;exact(ah hD _).tup v2
 .rintro i x ys σ2 H2 ex ⟨x0,rfl,ey,rfl⟩;rw [bB] at ex;obtain⟨z,ez,rfl⟩:=b9.mp ex;have ed:upd H D (.lst ys) d=184:=by rw [aj nd];exact hd
  have hg:cq (upd H D (.lst ys)) d (.str z) ((g z).map V.int):=by
   have:=cq.k (k:=127) ed;rw [hv] at this;exact this
  have hi:=(bM.mp ez).1;have ly:ys.length<=8:=by rw [ey,aC,d7];omega
  refine⟨_,rfl,d,rfl,.inl ⟨_,.inl ed⟩,_,rfl,_,hg,ae,bx ∅,?_⟩;have eg:(((g z).map V.int).getD (.int 0))=V.int ((g z).getD 0):=by cases g z <;> rfl
  rw [eg];refine⟨_,rfl,?_,by rw [ie]⟩;rw [cM,ez,bA,<-ey];rfl
 rintro ys σ2 H2 ⟨x,_,ey,rfl⟩;rw [aC,lE (aG _)] at ey;have ey2:ys=(ru.2.map λz=>(g z).getD 0).map V.int:=by rw [ey,iN];rfl
 refine⟨D,_,rfl,aF.of (by rw [ae,ey2]),_,_,rfl,rfl,?_⟩;exact q _ (ah hD _)
end
def kI (H:Hp)(d:Addr)(g:G) (m:Nat):Prop:=∃kvs:140,H d=184/\kvs.length<=m/\∀z,ba kvs 145=(g z).map V.int
def kI.same {d:Addr}{g:G}{m:Nat}(h:kI H d g m)(s:aE H H'):kI H' d g m:=let ⟨k,a,b,c⟩:=h;⟨k,s _ _ a,b,c⟩
def kI.more {d:Addr}{g:G}{m:Nat}(h:kI H d g m):kI H d g (m+1):=let ⟨k,a,b,c⟩:=h;⟨k,a,∅,c⟩
def kI.new {d:Addr}:kI (upd H d (.dK [])) d (λ_=>none) 0:=⟨[],ae,aG _,λ_=>rfl⟩
def N9 {d:Addr}{g:G}{m:Nat}{kvs:140}(hl:kvs.length<=m)(hv:∀z,ba kvs 145=(g z).map V.int)(x:Str) (n:Int):kI (upd H d (.dK (bP kvs (Sum.inr x) (.int n)))) d (bQ g x n) (m+1):=by
 refine⟨_,ae,cI (dZ _ _ _) ∅,λz=>?_⟩;rw [rD];unfold bQ;by_cases c:z=x
 .rw [aA c,aA (by rw [c])];rfl
 rw [az c,az (λe=>c (by injection e))];exact hv z
def qe {d:G}{aa:113}{x:Str}{i:Nat}{ru:aB}(e:aa[i]?=some ru) :
  dM gr names d (aa.take (i+1)) x=dM gr names d (aa.take i) x++(if (decide (ru.1=x) && ru.2.all (cV gr names d))=true then [aH d ru] else []):=by
 unfold dM;rw [cM,e,i6,bA]
 congr 1
 show List.map (aH d) (List.filter _ [ru])=_;by_cases c:(decide (ru.1=x) && ru.2.all (cV gr names d))=true
 .rw [aA c,m_,aA (show (decide (ru.1=x) && ru.2.all (cV gr names d))=true from c)];rfl
 rw [az c,m_,az (show ¬(decide (ru.1=x) && ru.2.all (cV gr names d))=true from c)];rfl
def Ah {d:G}{aa:113}{x:Str}:(dM gr names d aa x).length<=aa.length:=by
 unfold dM;rw [aC];exact i8 _ _
def Kv {l:z0s}{a m:Int}(hm:m∈a::l)(h:∀n∈a::l,m<=n):bestOf false l a=m:=by
 obtain⟨h1,h2,h3⟩:=tO l a;have hb:bestOf false l a∈a::l:=h3.elim (λe=>by rw [e];exact cx) λe=>cw _ e;have:=h _ hb;rcases aS.mp hm with e | e
 .omega
 have:=h1 m e;omega
def HL {l:z0s}{a m:Int}(hm:m∈a::l)(h:∀n∈a::l,n<=m):bestOf true l a=m:=by
 obtain⟨h1,h2,h3⟩:=tP l a;have hb:bestOf true l a∈a::l:=h3.elim (λe=>by rw [e];exact cx) λe=>cw _ e;have:=h _ hb;rcases aS.mp hm with e | e
 .omega
 have:=h1 m e;omega
def DN (q:Str->Bool) (ps:z0r):(decide ((ps.filter q).length=ps.length))=ps.all q:=by
 rw [ib,decide_eq_true_eq,dW];exact List.length_filter_eq_length_iff
def jO {X:Cx}(K:aV)(hK:X.K=K:=by rfl):oy X (compareOp .NotIn) (Uy K true):=by
 subst hK;exact nX
def qo (zs:z0r):(zs.map V.str).all iG=true:=dW.mpr λv hv=>by
 obtain⟨z,_,rfl⟩:=cQ.mp hv;rfl
def va (z:Str) (zs:z0r):JY (.str z) (zs.map V.str)=decide (z∈zs):=by
 rw [ib];unfold JY;have e:∀x:Str,zH (V.str x) (V.str z)=true↔x=z:=λx=>by first | (show (x == z)=true↔_;simp) | (show decide (x=z)=true↔_;simp) | (show decide (V.str x=V.str z)=true↔_;simp)
 simp [e]
abbrev rP:Stmt:=top 63
section
def uL (K:aV):Sp:=λvs H Q _=>∃(R N:Addr)(gr:Bool)(rs:z0o)(aa:113),vs=[.ref R,.ref N,.bl gr]/\aF K H R 162/\bj K H rs aa/\aa.length<=64/\250/\aF K H N ((hd aa).map V.str) /\
 ∀(d:Addr)(H':Hp),H d=none->aE H H'->kI H' d (bK gr aa (hd aa).length) 4096->Q (.ref d) H'
abbrev X0:z0r:=["_law_rules_here","_law_names","_law_greatest","_law_sizes_here","_law_again","_law_name","_law_some","_law_rule","_law_known"]
def gI:aJ X0 ["_law_rules_here","_law_names","_law_greatest"] (av rP):=182
def AM (F:iu K "_law_sizes" "_law_sizes" rP f fd)(T:Txt mg)(GS:aL P w K mg base 1 "_law_sum" ["_law_rule","_law_sizes_here"] (B_ K)):bF P w K mg base fN 2 f fd ["_law_rules_here","_law_names","_law_greatest"] (uL K):=by
 refine F.ok gI 186 195
 .obtain⟨R,N,gr,rs,aa,rfl,_⟩:=h;rfl
 obtain⟨R,N,gr,rs,aa,rfl,hR,cT,bN,h8,hN,q⟩:=h;have hu:=fU hr;have OH:=Nat.lt_of_succ_lt hu;refine⟨_,ao (aD (i:=3) gI.nd rfl (Or.inr rfl) fg)
  (ao (b_ cD rfl (bq (pv 1)) (ay (i:=4) gI.nd rfl 116)
   (ar (b_ cD rfl (bq (pv 1)) (ay (i:=5) gI.nd rfl 116)
    (ao (aD (i:=6) gI.nd rfl 116 (bu ak))
    (ao (b_ cD rfl (bq (pv 0)) (ay (i:=7) gI.nd rfl 116)
     (ao (ig (iy:=8) ["_law_part"] [(3,"_law_sizes_here"),(1,"_law_names"),(2,"_law_greatest")] gI.nd rfl rfl rfl (hV (aO cz (pv 7) au 144)) (bH rfl rfl) nofun rfl nofun
       (λ_ _ _ _ _=>ay (i:=0) (show (["_law_part","_law_sizes_here","_law_names","_law_greatest"]:z0r).Nodup by decide +kernel) rfl 116)
       (λ_ _ _ _ _=>gR (PW.pt (qg (eK (mf hu (pv 0) (pv 1))) (ma (PW.pt (gK (bf (jO K) (pv 0) (pv 2) rfl) (gO (md (fE (pv 3))))))))))
       (λ_ _ _ _ _=>pv 0))
     (ar (cR (PW.pt (gK (bf qj (aO cz (pv 7) au 144) (pv 5) (bz _)) (gO (bf qj (aM cA rfl T.len h_ (af (pv 8) ak)) (aM cA rfl T.len h_ (af (aO cz (pv 7) au 144) ak)) (bz _)))))
      (ar (cv (dY fY gE gF bR (pv 6) (af (bU GS hr rfl (af (pv 7) (af (pv 3) ak))) ak)))) bL))))
    (ar (cR (PW.pt (gK (bf (pz OH) (pv 6) (bu ak) (bz _)) (gO (fE (pv 2)))))
     (ar (gP hu (pv 3) (pv 5) (aM (Eo rfl) rfl T.max PyProof.Rows.boot_max (af (pv 6) ak)) rfl))
     (ar (cR (bf (pz OH) (pv 6) (bu ak) (bz _)) (ar (gP hu (pv 3) (pv 5) (aM (En rfl) rfl T.min PyProof.Rows.boot_min (af (pv 6) ak)) rfl)) bL)))))))))
  (ar (br (pv 3)))),?_⟩
 dsimp only [pK];intro d qD;have s1:=ah qD (.dK []);have g1:kI (upd H d (.dK [])) d (bK gr aa 0) 0:=kI.new;generalize upd H d (.dK [])=H1 at s1 g1 ⊢;have lh:(hd aa).length<=64:=by
  have:=fw (aa.map 56) [];rw [ix,aC] at this;show (qU [] (aa.map 56)).length<=64;omega
 have lr:=bT cT;refine⟨_,rfl,N,rfl,⟨_,s1.seq hN⟩,du (xs:=(hd aa).map V.str) (λi σ H2=>∃y4 y5 y6 y7 y8,σ=[bc R,bc N,some (.bl gr),bc d,y4,y5,y6,y7,y8]/\aE H H2/\kI H2 d (bK gr aa i) (i * (hd aa).length)) ⟨none,none,none,none,none,rfl,s1,by rw [Nat.zero_mul];exact g1⟩ ?_ ?_ ?_⟩
 .rintro i σ H2 _ ⟨y4,y5,y6,y7,y8,_,s2,_⟩;exact s2.seq hN
 .rintro i x σ H2 ex ⟨y4,y5,y6,y7,y8,rfl,s2,g2⟩;refine⟨_,rfl,N,rfl,⟨_,s2.seq hN⟩,du (xs:=(hd aa).map V.str) (λj σ H3=>∃y5 y6 y7 y8,σ=[bc R,bc N,some (.bl gr),bc d,some x,y5,y6,y7,y8]/\aE H H3/\kI H3 d (((hd aa).take j).foldl (gW gr (hd aa) aa) (bK gr aa i)) (i * (hd aa).length+j)) ⟨y5,y6,y7,y8,rfl,s2,g2⟩ ?_ ?_ ?_⟩
  .rintro j σ H3 _ ⟨y5,y6,y7,y8,_,s3,_⟩;exact s3.seq hN
  .rintro j xn σ H3 en ⟨y5,y6,y7,y8,rfl,s3,g3⟩;rw [bB] at en;obtain⟨n,hn,rfl⟩:=b9.mp en;generalize J_:((hd aa).take j).foldl (gW gr (hd aa) aa) (bK gr aa i)=g at g3;refine⟨oU,λD hD=>?_⟩;have s4:=s3.trans (ah hD 128);have g4:=g3.same (ah hD 128);have e4:upd H3 D 128 D=some (.lst ((dM gr (hd aa) g (aa.take 0) n).map V.int)):=ae;have nD:H D=none:=s3.free hD;have dD:d≠D:=λe=>by obtain⟨kvs,a,_⟩:=g3;rw [e,hD] at a;cases a
   generalize upd H3 D 128=H4 at s4 g4 e4 ⊢;refine⟨_,rfl,R,rfl,⟨_,s4.seq hR⟩,du (xs:=143) (λk σ H5=>∃y7 y8,σ=[bc R,bc N,some (.bl gr),bc d,some x,some (.str n),bc D,y7,y8]/\aE H H5/\kI H5 d g (i * (hd aa).length+j)/\H5 D=some (.lst ((dM gr (hd aa) g (aa.take k) n).map V.int))) ⟨y7,y8,rfl,s4,g4,e4⟩ ?_ ?_ ?_⟩
   .rintro k σ H5 _ ⟨y7,y8,_,s5,_⟩;exact s5.seq hR
   .rintro k xr σ H5 er ⟨y7,y8,rfl,s5,g5,e5⟩;rw [bB] at er;obtain⟨r,hr5,rfl⟩:=b9.mp er;obtain⟨ru,mD,p,v1,v2⟩:=(cT.same s5).get hr5;have Ly:=h8 ru (cf mD);have gg5:=g5;obtain⟨kvs,ed,kl,hv⟩:=gg5;refine⟨_,rfl,r,_,_,_,rfl,rfl,v1,rfl,p,rfl,⟨_,v2⟩,λC hC=>?_⟩;have dC:d≠C:=λe=>by rw [e,hC] at ed;cases ed
    refine gN (xs:=ru.2.map V.str) (λk ys σ2 H6=>∃z0,σ2=[z0,bc d,bc N,some (.bl gr)]/\ys=((ru.2.take k).filter (cV gr (hd aa) g)).map V.str/\H6=upd H5 C (.lst ys)) ⟨none,rfl,108,rfl⟩ ?_ ?_ ?_
    .rintro k ys σ2 H6 _ ⟨z0,rfl,_,rfl⟩;exact(ah hC _).tup v2
    .rintro k xz ys σ2 H6 ez ⟨z0,rfl,ey,rfl⟩;rw [bB] at ez;obtain⟨z,hz,rfl⟩:=b9.mp ez;have Ko:upd H5 C (.lst ys) d=184:=by rw [aj dC];exact ed
     have hg:cq (upd H5 C (.lst ys)) d (.str z) ((g z).map V.int):=by
      have:=cq.k (k:=127) Ko;rw [hv] at this;exact this
     have hN6:aF K (upd H5 C (.lst ys)) N ((hd aa).map V.str):=(ah hC _).seq (s5.seq hN);have ly:ys.length<=8:=by rw [ey,aC];exact cI (i8 _ _) (by rw [d7];omega)
     have yes:cV gr (hd aa) g z=true->ys++[V.str z]=((ru.2.take (k+1)).filter (cV gr (hd aa) g)).map V.str:=λh=>by
      rw [cM,hz,i6,bA,<-ey];show _=ys++List.map V.str (List.filter _ [z]);rw [m_,aA h];rfl
     have no:cV gr (hd aa) g z=false->ys=((ru.2.take (k+1)).filter (cV gr (hd aa) g)).map V.str:=λh=>by
      rw [cM,hz,i6,bA,<-ey];show _=ys++List.map V.str (List.filter _ [z]);rw [m_,az (by rw [h];decide)];simp
     have Y:cV gr (hd aa) g z=true->_:=λh=>(⟨ae,bx ∅,⟨_,rfl,yes h,by rw [ie]⟩⟩:upd H5 C (.lst ys) C=some (.lst ys)/\ys.length < sizeLine/\∃z0,[some (V.str z),bc d,bc N,some (.bl gr)]=[z0,bc d,bc N,some (.bl gr)]/\ys++[V.str z]=((ru.2.take (k+1)).filter (cV gr (hd aa) g)).map V.str/\upd (upd H5 C (.lst ys)) C (.lst (ys++[V.str z]))=upd H5 C (.lst (ys++[V.str z])));refine⟨_,rfl,_,rfl,d,_,rfl,hg,_,rfl,cC (λc1=>cC (λ_=>⟨_,rfl,Y ?_⟩) (λh=>absurd rfl h)) (λc1=>?_)⟩
     .unfold cV;rw [pU] at c1;rw [c1];rfl
     have c1:(g z).isSome=false:=by rw [pU] at c1;simpa using c1
     have nk:cV gr (hd aa) g z=(!decide (z∈hd aa) && !gr):=by unfold cV;rw [c1];rfl
     have No:cV gr (hd aa) g z=false->∃z0,[some (V.str z),bc d,bc N,some (.bl gr)]=[z0,bc d,bc N,some (.bl gr)]/\ys=((ru.2.take (k+1)).filter (cV gr (hd aa) g)).map V.str/\upd H5 C (.lst ys)=upd H5 C (.lst ys):=λh=>⟨_,rfl,no h,rfl⟩;refine⟨_,rfl,_,rfl,N,_,rfl,.inl hN6,rfl,qo _,_,rfl,?_⟩;rw [va];refine cC (λc2=>⟨_,rfl,_,rfl,cC (λc3=>⟨_,rfl,Y (by rw [nk];simpa using And.intro c2 c3)⟩) (λc3=>No (by rw [nk];simp at c3;rw [c3];simp))⟩) (λc2=>cC (λh=>by cases h) λ_=>No (by rw [nk];simp at c2;simp [c2]))
    rintro ys σ2 H6 ⟨z0,_,ey,rfl⟩;rw [aC,lE (aG _)] at ey;have tC:=ah hC (.lst ys);have s6:=s5.trans tC;have g6:=g5.same tC;have e6:=tC _ _ e5;have R5:=tC.tup v1;have TU:=tC.tup v2;have eC:upd H5 C (.lst ys) C=some (.lst ys):=ae;have Ko:=tC _ _ ed;generalize upd H5 C (.lst ys)=H6 at s6 g6 e6 R5 TU eC Ko tC ⊢;have gH:(decide (ru.1=n) && ru.2.all (cV gr (hd aa) g))=false->H6 D=some (.lst ((dM gr (hd aa) g (aa.take (k+1)) n).map V.int)):=λh=>by
     rw [qe mD,h,az nofun,eE];exact e6
    refine⟨_,rfl,r,_,_,.str ru.1,rfl,rfl,R5,rfl,_,rfl,rfl,_,rfl,cC (λc1=>?_) (λc1=>cC (λh=>by cases h) λ_=>⟨_,_,rfl,s6,g6,gH ?_⟩)⟩
    .have hn1:ru.1=n:=by have:=dJ c1;injection this
     have kk:decide (ys.length=ru.2.length)=ru.2.all (cV gr (hd aa) g):=by rw [ey,aC];exact DN _ _
     refine⟨_,rfl,C,_,rfl,.inl (aF.of eC),_,rfl,r,_,_,_,rfl,rfl,R5,rfl,p,_,rfl,.inr TU,rfl,_,rfl,cC (λc2=>?_) (λc2=>⟨_,_,rfl,s6,g6,gH ?_⟩)⟩
     .have al:(decide (ru.1=n) && ru.2.all (cV gr (hd aa) g))=true:=by
       have h1:=dJ c2;injection h1 with h1;rw [aC] at h1;rw [<-kk,ff (by omega:ys.length=ru.2.length),ff hn1];rfl
      have ll:=Ah (gr:=gr) (names:=hd aa) (d:=g) (aa:=aa.take k) (x:=n);have lk:(aa.take k).length<=64:=by rw [d7];omega
      refine⟨_,rfl,.inl ⟨rfl,_,aF.of e6⟩,_,rfl,_,rfl,r,d,kvs,g,ru,rfl,Ko,hv,⟨p,R5,TU⟩,Ly,λH7 s7=>⟨D,_,_,rfl,rfl,s7 _ _ e6,210,?_⟩⟩;refine⟨_,_,rfl,λb o hb=>?_,?_,?_⟩
      .rw [aj (aq hb nD)];exact s7 _ _ (s6 b o hb)
      .exact⟨kvs,by rw [aj dD];exact s7 _ _ Ko,kl,hv⟩
      rw [ae,qe mD,al,aA rfl,bA];rfl
     have h1:¬ys.length=ru.2.length:=λh=>c2 (ff (by rw [aC,h]));rw [<-kk,gB h1,Bool.and_false]
    have h1:¬ru.1=n:=λh=>c1 (ff (by rw [h]));rw [gB h1,Bool.false_and]
   rintro σ H5 ⟨y7,y8,rfl,s5,g5,e5⟩;rw [aC,lr,lE (aG _)] at e5;have fo:((hd aa).take (j+1)).foldl (gW gr (hd aa) aa) (bK gr aa i)=gW gr (hd aa) aa g n:=by
    rw [cM,hn,vF,J_];rfl
   refine⟨_,rfl,oU,λB hB=>?_⟩;have tB:=ah hB 128;have s6:=s5.trans tB;have g6:=g5.same tB;have e6:=tB _ _ e5;have eB:upd H5 B 128 B=some 128:=ae;generalize upd H5 B 128=H6 at s6 g6 e6 eB tB ⊢;cases hs:dM gr (hd aa) g aa n with
   | nil =>
    rw [hs] at e6;refine⟨D,B,_,rfl,rfl,aF.of e6,aF.of eB,_,rfl,?_⟩;refine cC (λh=>by cases h) λ_=>cC (λh=>by cases h) λ_=>⟨_,rfl,oU,λB2 DW=>⟨D,B2,_,rfl,rfl,aF.of (ah DW _ _ _ e6),aF.of ae,_,rfl,cC (λh=>by cases h) λ_=>⟨_,_,_,_,rfl,s6.trans (ah DW _),?_⟩⟩⟩;have eu:gW gr (hd aa) aa g n=g:=by unfold gW;rw [hs]
    rw [fo,eu];exact(g6.same (ah DW _)).more
   | cons a l =>
    rw [hs] at e6;refine⟨D,B,_,rfl,rfl,aF.of e6,aF.of eB,_,rfl,?_⟩;have eu:gW gr (hd aa) aa g n=bQ g n (bestOf gr l a):=by unfold gW;rw [hs]
    have ml:i * (hd aa).length+j<=5000:=by
     have h1:i<=64:=by
      have:=(bM.mp ex).1;rw [aC] at this;omega
     have h2:j<=64:=by
      have:=(bM.mp hn).1;omega
     have:=Nat.mul_le_mul h1 lh;omega
    have fin:∀(H7:Hp) (m:Int),aE H H7->kI H7 d g (i * (hd aa).length+j)->bestOf gr l a=m->∃H8,pP H7 d (.str n) (.int m) H8/\aE H H8/\kI H8 d (((hd aa).take (j+1)).foldl (gW gr (hd aa) aa) (bK gr aa i)) (i * (hd aa).length+(j+1)):=λH7 m s7 g7 hm=>by
     obtain⟨kvs,ed,kl,hv⟩:=g7;refine⟨_,pP.k (k:=Sum.inr n) ed (bx ∅),λb o hb=>?_,?_⟩
     .rw [aj (aq hb qD)];exact s7 b o hb
     rw [fo,eu,hm];exact N9 kl hv n m
    refine cC (λ_=>⟨_,rfl,gr,rfl,cC (λc2=>?_) (λc2=>?_)⟩) (λh=>absurd rfl h)
    .subst c2;refine⟨_,rfl,D,a::l,rfl,aF.of e6,108,λm hm hle=>?_⟩;obtain⟨H8,a1,a2,a3⟩:=fin H6 m s6 g6 (HL hm hle);exact⟨_,rfl,_,rfl,d,H8,rfl,a1,_,_,_,_,rfl,a2,a3⟩
    have c2:gr=false:=by simpa using c2
    subst c2;refine⟨_,rfl,oU,λB2 DW=>⟨D,B2,_,rfl,rfl,aF.of (ah DW _ _ _ e6),aF.of ae,_,rfl,cC (λ_=>?_) (λh=>absurd rfl h)⟩⟩;refine⟨_,rfl,D,a::l,rfl,aF.of (ah DW _ _ _ e6),108,λm hm hle=>?_⟩;obtain⟨H8,a1,a2,a3⟩:=fin _ m (s6.trans (ah DW _)) (g6.same (ah DW _)) (Kv hm hle);exact⟨_,rfl,_,rfl,d,H8,rfl,a1,_,_,_,_,rfl,a2,a3⟩
  rintro σ H3 ⟨y5,y6,y7,y8,rfl,s3,g3⟩;refine⟨_,_,_,_,_,rfl,s3,?_⟩;rw [aC,lE (aG _)] at g3;rw [Nat.add_mul,Nat.one_mul];exact g3
 rintro σ H2 ⟨y4,y5,y6,y7,y8,rfl,s2,g2⟩;rw [aC] at g2;refine⟨_,rfl,q d _ qD s2 ?_⟩;obtain⟨kvs,a,b,cc⟩:=g2;exact⟨kvs,a,cI b (Nat.mul_le_mul lh lh),cc⟩
end
def Nf (u:Str):((u.length:Int) != 0)=decide (sg u≠[]):=by
 have e:(sg u).length=u.length:=by unfold sg;simp [Str.length]
 rw [ib,bne_iff_ne,decide_eq_true_eq,ne_eq,ne_eq,<-List.length_eq_zero_iff,e];omega
def zS (z:Str):(wordsOf z).map sg=wd (sg z):=by
 unfold wordsOf wd;rw [<-rL,List.filter_map]
 congr 1
 refine List.filter_congr λu _=>?_;rw [Nf];rfl
theorem mq:∀{a b:z0r},a.map sg=b.map sg->a=b
 | [],[],_=>rfl
 | [],_::_,h=>by cases h
 | _::_,[],h=>by cases h
 | x::a,y::b,h=>by
  rw [bC,bC] at h;injection h with h1 h2;rw [Mu h1,mq h2]
def zT {ws:z0r}(h:wd (sg z)=ws.map sg):wordsOf z=ws:=mq (by rw [zS,h])
structure Wd (z:Str):Prop where
 ne:sg z≠[]
 nb:32∉sg z
 nl:10∉sg z
theorem KP:∀{ps:List z0t},(∀p∈ps,32∉p/\p≠[])->wd (jn 32 ps)=ps
 | [],_=>rfl
 | [x],h=>wb (h x cx).1 (h x cx).2
 | x::y::r,h=>by
  show wd (x++32::jn 32 (y::r))=_;rw [zV,wb (h x cx).1 (h x cx).2,KP λp hp=>h p (cw _ hp)];rfl
def E5 {ws:z0r}(h:∀z∈ws,Wd z):wd (sg (Txt.join ⟨#[32]⟩ ws))=ws.map sg:=by
 rw [yb];refine KP λp hp=>?_;obtain⟨z,hz,rfl⟩:=cQ.mp hp;exact⟨(h z hz).nb,(h z hz).ne⟩
def Jh {n:Str}(hn:Wd n)(h:∀z∈ws,Wd z):wordsOf (n++(" : ":Str)++Txt.join ⟨#[32]⟩ ws)=n::(":":Str)::ws:=by
 refine zT ?_;rw [lY,lY,show sg (" : ":Str)=[32,58,32] from rfl,iP];show wd (sg n++32::([58]++32::sg (Txt.join ⟨#[32]⟩ ws)))=_;rw [zV,zV,E5 h,wb hn.nb hn.ne,wb nofun nofun];rfl
theorem ph:∀(ws:z0r)(d:List z0r) (c:z0r)(rws:List z0r) (ps:z0r),cX d c ws=some rws->(∀p∈ps,p≠("|":Str)/\fc p=true)->cX d c (ws++("|":Str)::ps)=some (rws++[ps])
 | [],d,c,rws,ps,h,hp=>by
  rw [cX] at h;cases h;show cX d c (("|":Str)::ps)=_;rw [cX,aA rfl];have key:∀(ps:z0r)(d:List z0r) (c:z0r),(∀p∈ps,p≠("|":Str)/\fc p=true)->cX d c ps=some (d++[c++ps]):=by
   intro ps
   induction ps with
   | nil=>intro d c _;rw [cX,eE]
   | cons p r ih =>
    intro d c hp;obtain⟨h1,h2⟩:=hp p cx;rw [cX,az h1,aA h2,ih d (c++[p]) λq hq=>hp q (cw _ hq),iP];rfl
  rw [key ps _ _ hp,mZ]
 | w::ws,d,c,rws,ps,h,hp=>by
  rw [cX] at h;rw [List.cons_append,cX]
  split at h
  .rename_i e
   rw [aA e];exact ph ws _ _ rws ps h hp
  rename_i e
  rw [az e]
  split at h
  .rename_i e2
   rw [aA e2];exact ph ws _ _ rws ps h hp
  cases h
def Dm (hp:∀p∈ps,p≠("|":Str)/\fc p=true):cX [] [] ps=some [ps]:=by
 have h:=ph [] [] [] [[]] ps rfl hp;have e:cX [] [] ([]++("|":Str)::ps)=cX [[]] [] ps:=by
  rw [mZ,cX,aA rfl];rfl
 have key:∀(ps:z0r)(d:List z0r) (c:z0r),(∀p∈ps,p≠("|":Str)/\fc p=true)->cX d c ps=some (d++[c++ps]):=by
  intro ps
  induction ps with
  | nil=>intro d c _;rw [cX,eE]
  | cons p r ih =>
   intro d c hp;obtain⟨h1,h2⟩:=hp p cx;rw [cX,az h1,aA h2,ih d (c++[p]) λq hq=>hp q (cw _ hq),iP];rfl
 exact key ps [] [] hp
def eU.snoc {r s r1 s1 r2 s2:113}{rows:List z0r}{z:Str}{ws:z0r}(t:eU r s rows r1 s1)(h:(sg z).head?≠some 35)(o:vB r1 s1 (z::ws) r2 s2)(lr:r1.length<=100000)(ls:s1.length<=100000):eU r s (rows++[z::ws]) r2 s2:=by
 induction t with
 | nil r s=>exact .row _ _ _ _ _ _ _ _ _ h o lr ls (.nil _ _)
 | none r s rows r' s' t ih=>exact .none _ _ _ _ _ (ih o lr ls)
 | mark r s z ws rows r' s' h' t ih=>exact .mark _ _ _ _ _ _ _ h' (ih o lr ls)
 | row r s z ws rows r1 s1 r' s' h' o' lr' ls' t ih=>exact .row _ _ _ _ _ _ _ _ _ h' o' lr' ls' (ih o lr ls)
def JU (u:Str):(sg u).length=u.length:=by unfold sg;simp [Str.length]
theorem yK {y:Str}{x:Nat}:∀{ts:z0r},x∈sg (Str.join y ts)->x∈sg y\/∃t∈ts,x∈sg t
 | [],h=>by cases h
 | [t],h=>.inr ⟨t,cx,h⟩
 | t::u::r,h=>by
  have h:x∈sg (t++y++Str.join y (u::r)):=h;rw [lY,lY] at h;rcases cK.mp h with h | h
  .rcases cK.mp h with h | h
   .exact .inr ⟨t,cx,h⟩
   exact .inl h
  rcases yK (ts:=u::r) h with h | ⟨v,hv,h⟩
  .exact .inl h
  exact .inr ⟨v,cw _ hv,h⟩
def Ae (hn:ts≠[])(h:∀t∈ts,10∉sg t):Txt.split (Txt.join ⟨#[10]⟩ ts) ⟨#[10]⟩=ts:=by
 refine mq ?_;rw [rL,yb,Fj (by simpa using hn)];intro p hp;obtain⟨t,ht,rfl⟩:=cQ.mp hp;exact h t ht
structure zr (p:Str):Prop where
 wd:Wd p
 ns:p≠("|":Str)
 ip:fc p=true
 le:p.length<=14
structure zt (n:Str):Prop where
 pt:zr n
 ag:again n=false
 nh:(sg n).head?≠some 35
def oz (r0:113) (ws:z0r)(r:113)(h:Str):Prop :=
 (∃rest rws ps,ws=("|":Str)::rest/\r0.getLast?=some (h,ps)/\cX [] [] rest=some rws/\r=r0++rws.map λp=>(h,p)) \/
 (∃rest rws,ws=h::(":":Str)::rest/\zt h/\cX [] [] rest=some rws/\r=r0++rws.map λp=>(h,p))
def oz.text {r0 r s0:113}{h:Str}(l:oz r0 ws r h)(t:eU [] [] rows r0 s0)(l1:r0.length<=100000)(l2:s0.length<=100000):eU [] [] (rows++[ws]) r s0:=by
 rcases l with ⟨rest,rws,ps,rfl,e,er,rfl⟩ | ⟨rest,rws,rfl,hn,er,rfl⟩
 .exact t.snoc nofun (.more h ps rest rws e er) l1 l2
 exact t.snoc hn.nh (.head h rest rws hn.pt.ns hn.pt.ip hn.ag er) l1 l2
def oz.JP (r0:113){h:Str}(hn:zt h)(hp:∀p∈ps,zr p):oz r0 (h::(":":Str)::ps) (r0++[(h,ps)]) h :=
 .inr ⟨ps,[ps],rfl,hn,Dm λp h=>⟨(hp p h).ns,(hp p h).ip⟩,rfl⟩
def GK {a b:Str}(ha:10∉sg a)(hb:10∉sg b):10∉sg (a++b):=λh=>by
 rw [lY] at h;exact(cK.mp h).elim ha hb
def JO (h:∀p∈ps,Wd p):10∉sg (Txt.join ⟨#[32]⟩ ps):=λhx=>by
 have e:Txt.join ⟨#[32]⟩ ps=Str.join ⟨#[32]⟩ ps:=q8 _ _;rw [e] at hx;rcases yK hx with hx | ⟨t,ht,hx⟩
 .exact absurd hx nofun
 exact(h t ht).nl hx
def yI {ps:z0r}(h:∀p∈ps,p.length<=14):(Txt.join ⟨#[32]⟩ ps).length<=15 * ps.length:=by
 have e:Txt.join ⟨#[32]⟩ ps=Str.join ⟨#[32]⟩ ps:=q8 _ _;have h1:=vS ⟨#[32]⟩ ps;have h2:(ps.map (·.length)).sum<=14 * ps.length:=by
  clear h1 e
  induction ps with
  | nil=>exact d6 _
  | cons p r ih =>
   have:=ih λq hq=>h q (cw _ hq);have hp:=h p cx;rw [bC,hZ,c_];omega
 have e1:((⟨#[32]⟩:Str)).length=1:=rfl;rw [e1] at h1;rw [e];omega
section
variable {w S:Str}{ns last:z0r}{aa:113}
def jF.good (R:jF w S ns last aa):C0 aa (k_ S ns) (xP S ns last) where
 xY:=λg st se=>R.xY st se
 met:=λjx ms h0 hm mc=>by
  obtain⟨n5,_,e | e⟩:=R.fst
  .rw [e] at h0;cases h0;exact R.met hm mc
  rw [e] at h0;cases h0;exact R.met hm mc
 loop:=R.loop
 Tn:=R.Tn
 uniq:=λg g' st se qL PB h hh=>by
  rw [<-ik R.OC R.rank (R.xY st se) st se h hh,<-ik R.OC R.rank (R.xY qL PB) qL PB h hh]
def xw (R:jF w S ns last aa){N:Nat}(h7:7<=N)(xK:bE M11.bl aa (jP aa) gl)(sel:bS M11.bl aa gl)(gj:GJ aa (xP S ns last) gg)(kY:bE M11.bg aa (λ_=>none) gg)(seg:bS M11.bg aa gg) :
  (hd aa).filter (λx=>decide ((60:Int) < (bK true aa N x).getD 0) || decide ((60:Int) < (bK false aa N x).getD 0))=(hd aa).filter (fP gl gg):=by
 refine List.filter_congr λx hx=>?_;have rk:∀h∈hd aa,k_ S ns h < N:=λh hh=>dX (R.rank h hh) h7;rw [ik R.OC rk (R.xY xK sel) xK sel x hx,xp R.OC rk gj kY seg x];unfold fP;rw [ib,Bool.or_eq_true,decide_eq_true_eq,decide_eq_true_eq,decide_eq_true_eq]
 split <;> constructor <;> intro h <;> omega
def jF.yc (R:jF w S ns last aa):7<=(hd aa).length:=by
 have h:(S::ns).length<=(hd aa).length:=gL _ _ (iO.mp R.nd).2 λx hx=>R.mI.mpr (aS.mp hx);rw [c_,R.l6] at h;exact h
def jF.parts (R:jF w S ns last aa)(hl:last.length<=6):∀ru∈aa,ru.2.length<=8/\(ru.1=S\/ru.1∈ns)/\∀p∈ru.2,p=w\/p∈ns:=λru hr=>by
 rcases R.rest ru hr with ⟨n5,h5,e | e⟩ | ⟨k,hk,hb | hs⟩
 .rw [e];exact⟨by show 2<=8;decide,.inl rfl,λp hp=>by
   rcases aS.mp hp with h | h
   .exact .inl h
   rw [bD.mp h];exact .inr (cf h5)⟩
 .rw [e];exact⟨by show 1<=8;decide,.inl rfl,λp hp=>by rw [bD.mp hp];exact .inr (cf h5)⟩
 .refine⟨?_,.inr (cf hk),?_⟩
  .rcases hb with ⟨_,e | e⟩ | ⟨_,_,m,_,e⟩ | ⟨_,e⟩ <;> rw [e] <;> first | decide | (simp;done) | omega
  rcases hb with ⟨_,e | e⟩ | ⟨_,_,m,hm,e⟩ | ⟨_,e⟩ <;> rw [e] <;> intro p hp
  .cases hp
  .exact .inl (bD.mp hp)
  .right;have:p=m:=by simpa using hp
   rw [this];exact cf hm
  obtain⟨i,_,h⟩:=R.la p hp;exact .inr (cf h)
 refine⟨?_,.inr (cf hk),?_⟩
 .rcases hs with e | e | ⟨n0,_,e⟩ <;> rw [e] <;> first | decide | (simp;done)
 rcases hs with e | e | ⟨n0,h0,e⟩ <;> rw [e] <;> intro p hp
 .exact .inl (bD.mp hp)
 .cases hp
 have:p=w\/p=n0:=by simpa using hp
 exact this.imp id λh=>by rw [h];exact cf h0
def jd (ru:aB):Str:=ru.1++(" : ":Str)++Txt.join ⟨#[32]⟩ ru.2
theorem E8 (hn:∀ru∈aa,zt ru.1)(hp:∀ru∈aa,∀p∈ru.2,zr p)(hl:aa.length<=1000):∀i,i<=aa.length->eU [] [] (((aa.take i).map jd).map wordsOf) (aa.take i) []
 | 0,_=>by rw [List.take_zero];exact .nil _ _
 | i+1,hi=>by
  have t:=E8 hn hp hl i ∅;have e:aa[i]?=some aa[i]:=cN ∅;have hm:aa[i]∈aa:=j6 ∅;rw [cM,e,bA,bA];have ew:wordsOf (jd aa[i])=aa[i].1::(":":Str)::aa[i].2:=Jh (hn _ hm).pt.wd λp h=>(hp _ hm p h).wd;show eU [] [] (_++[wordsOf (jd aa[i])]) (_++[aa[i]]) [];rw [ew];exact(oz.JP (aa.take i) (hn _ hm) (hp _ hm)).text t (by rw [d7];omega) nofun
end
end eZ
namespace L2
open PySem PySem.Spec PyProof.Rows
section
variable {prog:Program}{w:World}{A:Around}{E:z0b}{s:Shared}
end
open PySem PySem.Spec PyProof.Rows PySem.W
def uy {X:Cx}(K:aV)(hK:X.K=K:=by rfl):fu X (.type "list") (λxs H Q=>Ky xs (λp ys=>aF K H p ys\/aZ K H p ys) λys=>∀l,H l=none->Q (.ref l) (upd H l (.lst ys))):=by
 subst hK;exact gp
def GQ {X:Cx}(K:aV)(hK:X.K=K:=by rfl):KD X "str.join" (rJoin K):=by
 subst hK;exact CC
def DC {X:Cx}(K:aV)(hK:X.K=K:=by rfl):KD X "str.join" (FV K):=by
 subst hK;exact yB
def F6 {X:Cx}{tg l:Expr}{tl:TE}(K:aV)(hl:PE X l tl)(hK:X.K=K:=by rfl):PI X tg l (Lo K tl):=by
 subst hK;exact bq hl
section
variable {X:Cx}{W:Addr}{Cn n:Str}{j:Nat}{b₀:Stmt}{jN body:z0q}{tb:TS}{np hp pos:Pos}
def Jo {O8:(St->XK)->TS}(mF:∀ai D,jG (jR X.prog X.w) (X.oW ai D (.ExceptHandler (some (.Name Cn np)) (some n) (b₀::jN) hp)) (Ek X.K W j tb D))
  (hb:∀ai D E,jG (jR X.prog X.w) (X.oW ai D (.ExceptHandler (some (.Name Cn np)) (some n) (b₀::jN) hp)) E->vC (X.oW ai D (.ExceptHandler (some (.Name Cn np)) (some n) (b₀::jN) hp)) body (O8 E)) :
  PS X (.Try body [.ExceptHandler (some (.Name Cn np)) (some n) (b₀::jN) hp] [] [] pos) (λD σ H=>O8 (Ek X.K W j tb D) D σ H):=Jp λai D=>hb ai D _ (mF ai D)
end
end L2
namespace eZ
open PySem L2 M11
def mX.bz {z:Str}(h:mX z){c:Nat}(hc:c∈[32,10,124,58,35,42,43,63]):c∉L2.sg z:=λhx=>(show ∀c∈[32,10,124,58,35,42,43,63],c∉i_.cps.toList by decide +kernel) c hc (h.sg c hx)
theorem mX.again (h:mX z):again z=false:=by
 have hl:∀c∈[32,10,124,58,35,42,43,63],(L2.sg z).getLast?≠some c:=λc hc e=>h.bz hc (List.mem_of_getLast? e);unfold eZ.again;rw [beq_false_of_ne (hl 42 nofun),beq_false_of_ne (hl 43 nofun),beq_false_of_ne (hl 63 nofun)];simp
def mX.K9 (h:mX z):zr z:=by
 have zn:L2.sg z≠[]:=λe=>h.ne (by rw [<-JU,e];rfl);have hh:∀c∈[58,124,35],(L2.sg z).head?≠some c:=λc hc hx=>h.bz (c:=c) ((show ∀c∈[58,124,35],c∈[32,10,124,58,35,42,43,63] by decide) c hc) (List.mem_of_mem_head? hx);exact⟨⟨zn,h.bz nofun,h.bz nofun⟩,λe=>hh 124 nofun (by rw [e];rfl),DQ h.le (hh 58 nofun) (hh 124 nofun),h.le⟩
def mX.Qa (h:mX z):zt z:=⟨h.K9,h.again,λe=>h.bz (c:=35) nofun (List.mem_of_mem_head? e)⟩
def mX.txt (h:mX z):tU z:=by
 refine⟨cI h.le nofun,λc hc=>?_⟩;exact(show ∀c∈i_.cps.toList,c < 16 ^ 8 by decide +kernel) c (h.sg c hc)
structure HV (aa:113):Prop where
 name:∀ru∈aa,zt ru.1
 part:∀ru∈aa,∀p∈ru.2,zr p
 ag:∀ru∈aa,∀p∈ru.2,p.length<=sizeLine/\again p=false
 l8:∀ru∈aa,ru.2.length<=8
 txt:∀h∈hd aa,tU h
def jF.tx {w S:Str}{ns last:z0r}{aa:113}(R:jF w S ns last aa)(hl:last.length<=6)(ht:∀z∈w::S::ns,mX z):HV aa:=by
 have hp:=R.parts hl;have hn:∀ru∈aa,mX ru.1:=λru hr=>by
  rcases (hp ru hr).2.1 with e | e
  .rw [e];exact ht S 125
  exact ht _ (by simp [e])
 have hq:∀ru∈aa,∀p∈ru.2,mX p:=λru hr p hpm=>by
  rcases (hp ru hr).2.2 p hpm with e | e
  .rw [e];exact ht w 125
  exact ht _ (by simp [e])
 refine⟨λru hr=>(hn ru hr).Qa,λru hr p h=>(hq ru hr p h).K9,λru hr p h=>⟨cI (hq ru hr p h).le nofun,(hq ru hr p h).again⟩,λru hr=>(hp ru hr).1,λh hh=>?_⟩;rcases R.mI.mp hh with e | e
 .rw [e];exact(ht S 125).txt
 exact(ht h (by simp [e])).txt
theorem KS:∀{ts:z0r},(∀t∈ts,t.length<=14)->(ts.map (·.length)).sum<=14 * ts.length
 | [],_=>d6 _
 | t::r,h=>by
  have ih:=KS λx hx=>h x (cw _ hx);have ht:=h t cx;rw [bC,hZ,c_];omega
theorem Ab:∀{ts:z0r},(∀t∈ts,t.length<=200)->(ts.map (·.length)).sum<=200 * ts.length
 | [],_=>d6 _
 | t::r,h=>by
  have ih:=Ab λx hx=>h x (cw _ hx);have ht:=h t cx;rw [bC,hZ,c_];omega
section
variable {aa:113}
theorem HV.nl (h:HV aa):∀t∈aa.map jd,10∉sg t/\t.length<=200:=λt ht=>by
 obtain⟨ru,mD,rfl⟩:=cQ.mp ht;have hn:=(h.name ru mD).pt;have hj:=yI λp hp=>(h.part ru mD p hp).le;have l8:=h.l8 ru mD;have ln:=hn.le;refine⟨GK (GK hn.wd.nl nofun) (JO λp mF=>(h.part ru mD p mF).wd),?_⟩;unfold jd;rw [fQ,fQ];show ru.1.length+3+_<=200;omega
def HV.whole (h:HV aa)(qS:aa≠[])(hl:aa.length<=13):(Txt.join ⟨#[10]⟩ (aa.map jd)).length<=90000/\eU [] [] ((Txt.split (Txt.join ⟨#[10]⟩ (aa.map jd)) ⟨#[10]⟩).map wordsOf) aa []:=by
 constructor
 .have e:Txt.join ⟨#[10]⟩ (aa.map jd)=Str.join ⟨#[10]⟩ (aa.map jd):=q8 _ _;have h1:=vS ⟨#[10]⟩ (aa.map jd);have h2:=Ab λt ht=>(h.nl t ht).2;have e1:((⟨#[10]⟩:Str)).length=1:=rfl;rw [e1] at h1;rw [e];rw [aC] at h2 h1;omega
 rw [Ae (by simpa using qS) λt ht=>(h.nl t ht).1];have:=E8 h.name h.part ∅ aa.length (aG _);rw [dI] at this;exact this
end
open PySem L2 M11 PySem.W
abbrev MD:Stmt:=top 65
theorem Cm {aa:113}:∀(n:Nat){g0:G},mY bt aa n g0->∃g,bE bt aa g0 g/\bS bt aa g
 | 0,g0,h=>⟨g0,.refl,(jD bt aa (g0,false) h).2⟩
 | n+1,g0,h=>by
  rcases h with h | h
  .exact⟨g0,.refl,(jD bt aa (g0,false) h).2⟩
  obtain⟨g,a,b⟩:=Cm n h;exact⟨g,(mO bt aa aa (g0,false) λ_ h=>h).trans a,b⟩
def CF (aa:113)(ru:aB):hd (aa++[ru])=gu (hd aa) ru.1:=by
 unfold hd qU;rw [bA,vF];rfl
def vj (aa:113):z0r:=(hd aa).filter λx=>decide ((60:Int) < (bK true aa (hd aa).length x).getD 0) || decide ((60:Int) < (bK false aa (hd aa).length x).getD 0)
def Og (CV:Addr)(S:Str) (Xf:z0r)(H:Hp)(v10 v11:V):Prop:=(Xf=[]/\v10=.dq/\v11=.str S)\/(Xf≠[]/\v11=.dq/\∃ea m dx,v10=.ref ea/\LQ H ea CV dx [("names",.ref m)]/\H m=some (.lst (Xf.map V.str)))
def wL (zs:z0r):∀v∈zs.map V.str,mT v:=λv hv=>by
 obtain⟨z,_,rfl⟩:=cQ.mp hv;exact .inl rfl
def Es:bootBuiltins "ValueError"=some (.type "ValueError"):=by decide +kernel
section
def Cd (K:aV)(T1 T2 T3:Addr):Sp:=λvs H Q _=>∃(a:Addr)(ns:z0s),vs=[.ref a]/\aF K H a (ns.map V.int)/\ns.length<=63/\xQ T1 T2 T3 H/\∀H',Q (.bl true) H'
def ic:aJ ["_law_script","_law_pool_here","_law_rules_here","_law_names","_law_head","_law_parts","_law_great","_law_least","_law_due","_law_door","_law_caught","_law_start","e"] ["_law_script"] (av MD):=182
def M5 (F:iu K "law" "law" MD f fd)(T:Txt mg)(L:Oi K mg CV W)(X6:aL P w K mg base 10 "_law_cell_at" ["_law_script","_law_k"] (Fq K))(GP:aL P w K mg base 10 "_law_pool" ["_law_cell","_law_many"] Fl)
  (GR:aL P w K mg base 10 "_law_rules" ["_law_pool_here","_law_cell","_law_turn"] (uM K))(GZ:aL P w K mg base 10 "_law_sizes" ["_law_rules_here","_law_names","_law_greatest"] (uL K))(GA:aL P w K mg base 10 "_law_another" ["_law_caught"] (uP CV))
  (G:GC K Cg)(MG:Mk K Cg fG)(FG:bF P w K mg base (jR P w) 9 fG WL ["self","rules","strengths"] (rO K Cg T1 T2 T3 CV))(B1:Binds K WL ["self","rules","strengths"] [.none])(mG:mg "Grammar"=some (.ref Cg))
  (FR:bF P w K mg base (jR P w) 10 fR fdR ["text"] (x9 K Cg T1 T2 T3 CV))(mR:mg "read_grammar"=some (.ref fR))(kR:keepIn K (.ref fR)=true)(BR:Binds K fdR ["text"] [])
  (mS:Meth K Cg "start" fS)(FS:bF P w K mg base fN 10 fS fdS ["self"] (Cb K Cg))(BS:Binds K fdS ["self"] []):bF P w K mg base fN 11 f fd ["_law_script"] (Cd K T1 T2 T3):=by
 refine F.ok ic 186 195
 .obtain⟨a,ns,rfl,_⟩:=h;rfl
 obtain⟨a,ns,rfl,hS,hl,hT,q⟩:=h;have hu:=fU hr;have OH:=Nat.lt_of_succ_lt hu;refine⟨_,ao (aD (i:=1) ic.nd rfl 116 (bU GP hr rfl (af (bU X6 hr rfl (af (pv 0) (af au ak))) (af au ak))))
  (ao (aD (i:=2) ic.nd rfl 116 (bU GR hr rfl (af (pv 1) (af (bU X6 hr rfl (af (pv 0) (af au ak))) (af (bU X6 hr rfl (af (pv 0) (af au ak))) ak)))))
  (ao (aD (i:=3) ic.nd rfl 116 (bu ak))
  (ao (b_ cD rfl (bq (pv 2)) (iT (n:=2) K rfl (aI (ay (i:=4) ic.nd rfl 116) (aI (ay (i:=5) ic.nd rfl 116) cy)))
  (ar (cR (bf (jO K) (pv 4) (pv 3) rfl)
  (ar (cv (dY fY gE gF bR (pv 3) (af (pv 4) ak)))) bL)))
  (ao (aD (i:=6) ic.nd rfl (Or.inr rfl) (bU GZ hr rfl (af (pv 2) (af (pv 3) (af eO ak)))))
  (ao (aD (i:=7) ic.nd rfl (Or.inr rfl) (bU GZ hr rfl (af (pv 2) (af (pv 3) (af eO ak)))))
  (ao (ig (iy:=8) ["_law_name"] [(6,"_law_great"),(7,"_law_least")] ic.nd rfl rfl rfl (bq (pv 3)) (bH rfl rfl) nofun rfl nofun (λ_ _ _ _ _=>ay (i:=0) (show (["_law_name","_law_great","_law_least"]:z0r).Nodup by decide +kernel) rfl 116) (λ_ _ _ _ _=>gR (PW.pt (qg (bf sk (r9 hu (pv 1) (pv 0) au ⟨rfl,rfl,rfl,rfl⟩) au (bz _)) (ma (bf sk (eG hu (pv 2) (pv 0) 144) au (bz _)))))) (λ_ _ _ _ _=>pv 0))
  (ao (b_ cD rfl (kQ rfl T.Im (af au ak)) (ay (i:=9) ic.nd rfl 116)
  (ao (aD (i:=10) ic.nd rfl 116 AI)
  (ao (aD (i:=11) ic.nd rfl 116 AI)
  (ao (Cs (Jo (j:=12) (λ_ _=>PZ rfl rfl ic.nd rfl L.mW rfl rfl (λea=>ar (aD (i:=10) ic.nd rfl 116 (pv 12)))) (λai D E hx=>ar (cR (bf qj (pv 9) au (bz _))
  (ar (aD (i:=11) ic.nd rfl 116 (ym (F_ (dvs:=[.dq]) MG FG hr rfl mG B1 (.cons rfl .nil) hx (af (bh (uy K) rfl T.lst gq (af (pv 2) ak)) ak)) G.cls mS FS hr BS .nil qh)))
  (ar (aD (i:=11) ic.nd rfl 116 (ym (Ge (dvs:=[]) FR hr rfl mR kR BR .nil hx (af (Gf K p5 vU vV (GQ K) gk (af (bV ["_law_head","_law_parts"] [] rfl (F6 K (pv 2)) (bH rfl rfl) nofun rfl nofun (λ_ _ _ _ _=>iT (n:=2) K rfl (aI (ay (i:=0) (show (["_law_head","_law_parts"]:z0r).Nodup by decide +kernel) rfl 116) (aI (ay (i:=1) (show (["_law_head","_law_parts"]:z0r).Nodup by decide +kernel) rfl 116) cy))) (λ_ _ _ _ _=>cJ) (λ_ _ _ _ _=>aU jz (aU jz (pv 0) gk) (Gf K p5 vU vV (DC K) gk (af (pv 1) ak)))) ak)) ak)) G.cls mS FS hr BS .nil qh)))))))
  (ao (cR (PW.pt (gK (bf (Ds OH) (pv 8) (bu ak) (bz _)) (gO (PW.pt (qg (bf JB (pv 10) AI (bz _)) (ma (bf K_ (pv 11) (aO aQ (pv 1) au 144) (bz _))))))))
  (ar (br eO)) bL)
  (ar (cR (bf (pz OH) (pv 8) (bu ak) (bz _))
  (ao (cR (PW.pt (qg (md (fE (aM dw rfl T.Bb iz (af (pv 10) (af (df (v:=(.ref CV)) rfl L.mC rfl) ak))))) (qg (md (fE (aM dw rfl T.Bb iz (af (pv 10) (af (Cz (v:=(.ty "ValueError")) rfl L.mV Es rfl) ak))))) (ma (fE (bU GA hr rfl (af (pv 10) ak)))))))
  (ar (br eO)) bL)
  (ar (cR (PW.pt (qg (md (fE (aM xA rfl T.Bb iz (af (Cv (pv 10) rfl) (af (Cz (v:=(.ty "list")) rfl T.lst gq rfl) ak))))) (ma (bf (AK OH) (Cv (pv 10) rfl) (pv 8) (bz _)))))
  (ar (br eO)) bL))) bL)))))))
  (ar (br eO))))))))),?_⟩
 refine⟨_,rfl,a,ns,0,rfl,hS,∅,λc0=>⟨c0,8,rfl,nofun,λPL zs H1 _ s1 e1 l8 tx nd=>?_⟩⟩;obtain⟨wd,S,JL,rfl,l6⟩:∃wd S JL,zs=wd::S::JL/\JL.length=6:=by
  match zs,l8 with
  | wd::S::r,h=>exact⟨wd,S,r,rfl,by simpa using h⟩
 refine⟨_,rfl,_,rfl,a,ns,1,rfl,s1.seq hS,∅,λc1=>⟨_,rfl,a,ns,2,rfl,s1.seq hS,∅,λc2=>?_⟩⟩;refine⟨PL,wd,S,JL,c1,c2,rfl,aF.of e1,l6,nd,λR rs aa last H2 fR2 s2 Tg Ut Qm ll6 R9=>?_⟩;have X9:=R9.tx ll6 tx;have So:=bT Ut;refine⟨oU,λN hN=>?_⟩;have nRN:R≠N:=aq Tg hN;refine⟨_,rfl,R,rfl,⟨_,(ah hN _).seq (aF.of Tg)⟩,du (xs:=143) (λi σ H3=>∃y4 y5,σ=[bc a,bc PL,bc R,bc N,y4,y5,none,none,none,none,none,none,none]/\aE H2 H3/\H3 N=some (.lst ((hd (aa.take i)).map V.str))) ⟨none,none,rfl,ah hN _,ae⟩ ?_ ?_ ?_⟩
 .rintro i σ H3 _ ⟨y4,y5,_,s3,_⟩;exact s3.seq (aF.of Tg)
 .rintro i x σ H3 ex ⟨y4,y5,rfl,s3,eN⟩;rw [bB] at ex;obtain⟨r,er,rfl⟩:=b9.mp ex;obtain⟨ru,mD,p,v1,v2⟩:=(Ut.same s3).get er;have tk:aa.take (i+1)=aa.take i++[ru]:=by rw [cM,mD];rfl
  have lh:(hd (aa.take i)).length<=13:=by
   have:=fw ((aa.take i).map 56) [];rw [ix,aC,d7] at this;show (qU [] ((aa.take i).map 56)).length<=13;omega
  refine⟨r,_,rfl,v1,rfl,_,_,rfl,_,_,rfl,rfl,?_⟩;refine⟨_,rfl,_,rfl,N,_,rfl,.inl (aF.of eN),rfl,qo _,_,rfl,?_⟩;rw [va];refine cC (λc=>?_) (λc=>?_)
  .have c':ru.1∉hd (aa.take i):=by simpa using c
   refine⟨_,rfl,.inl ⟨rfl,_,aF.of eN⟩,_,rfl,N,_,_,rfl,rfl,eN,210,_,_,rfl,λb o hb=>?_,?_⟩
   .rw [aj (aq hb hN)];exact s3 b o hb
   rw [ae,tk,CF];unfold gu;rw [az c',bA];rfl
  have c':ru.1∈hd (aa.take i):=by simpa using c
  refine⟨_,_,rfl,s3,?_⟩;rw [tk,CF];unfold gu;rw [aA c'];exact eN
 rintro σ H3 ⟨y4,y5,rfl,s3,eN⟩;rw [aC,So,dI] at eN;have W_:=s3 _ _ Tg;have Us:=Ut.same s3;have sH3:aE H H3:=(s1.trans s2).trans s3;refine⟨_,rfl,_,rfl,R,N,true,rs,aa,rfl,aF.of W_,Us,∅,X9.l8,aF.of eN,λdg H4 _ s4 g4=>?_⟩;refine⟨_,rfl,_,rfl,R,N,false,rs,aa,rfl,aF.of (s4 _ _ W_),Us.same s4,∅,X9.l8,aF.of (s4 _ _ eN),λdl H5 _ s5 l5=>?_⟩;have g5:=g4.same s5;have HC:=s5 _ _ (s4 _ _ eN);have sH5:=(sH3.trans s4).trans s5;have EM:(hd aa).length<=13:=by
  have:=fw (aa.map 56) [];rw [ix,aC] at this;show (qU [] (aa.map 56)).length<=13;omega
 have xY:∀h∈hd aa,∃n,bK false aa (hd aa).length h=some n:=λh hh=>by
  obtain⟨k,hk⟩:=sG aa (jP aa) (YL aa);obtain⟨gz,KU,Oy⟩:=Cm k hk;rw [ik R9.OC (λh hh=>dX (R9.rank h hh) R9.yc) (R9.xY KU Oy) KU Oy h hh];exact R9.xY KU Oy h hh
 obtain⟨kg,W5,_,vg⟩:=g5;obtain⟨kl,Td,_,vl⟩:=l5;refine⟨_,rfl,N,rfl,⟨_,aF.of HC⟩,λD hD=>?_⟩;have dD:dg≠D:=λe=>by rw [e,hD] at W5;cases W5
 have lD:dl≠D:=λe=>by rw [e,hD] at Td;cases Td
 refine bX (xs:=(hd aa).map V.str) (λi ys σ2 H6=>∃x,σ2=[x,bc dg,bc dl]/\ys=(((hd aa).take i).filter λx=>decide ((60:Int) < (bK true aa (hd aa).length x).getD 0) || decide ((60:Int) < (bK false aa (hd aa).length x).getD 0)).map V.str/\H6=upd H5 D (.lst ys)) ⟨none,rfl,108,rfl⟩ ?_ ?_ ?_
 .rintro i ys σ2 H6 _ ⟨x,rfl,_,rfl⟩;exact(ah hD _).seq (aF.of HC)
 .rintro i x ys σ2 H6 ex ⟨x0,rfl,ey,rfl⟩;rw [bB] at ex;obtain⟨z,hz,rfl⟩:=b9.mp ex;have zi:=(bM.mp hz).1;have Rw:upd H5 D (.lst ys) dg=some (.dK kg):=by rw [aj dD];exact W5
  have W4:upd H5 D (.lst ys) dl=some (.dK kl):=by rw [aj lD];exact Td
  obtain⟨n,en⟩:=xY z (cf hz);have hgg:cq (upd H5 D (.lst ys)) dg (.str z) ((bK true aa (hd aa).length z).map V.int):=by
   have:=cq.k (k:=127) Rw;rw [vg] at this;exact this
  have hgl:cq (upd H5 D (.lst ys)) dl (.str z) (some (.int n)):=by
   have:=cq.k (k:=127) W4;rw [vl,en] at this;exact this
  have ly:ys.length<=13:=by rw [ey,aC];exact cI (i8 _ _) (by rw [d7];omega)
  have step:∀b:Bool,b=(decide ((60:Int) < (bK true aa (hd aa).length z).getD 0) || decide ((60:Int) < (bK false aa (hd aa).length z).getD 0))->(((hd aa).take (i+1)).filter λx=>decide ((60:Int) < (bK true aa (hd aa).length x).getD 0) || decide ((60:Int) < (bK false aa (hd aa).length x).getD 0)).map V.str=ys++if b=true then [V.str z] else []:=λb hb=>by
   rw [cM,hz,i6,bA,<-ey];show ys++List.map V.str (List.filter _ [z])=_;rw [m_,<-hb];cases b <;> rfl
  have yes:=λh=>(step true h).symm;have no:=λh=>((step false h).trans (eE _)).symm;refine⟨_,rfl,dg,rfl,.inl ⟨_,.inl Rw⟩,_,rfl,_,hgg,?_⟩;have eg:((((bK true aa (hd aa).length z).map V.int)).getD (.int 0))=V.int ((bK true aa (hd aa).length z).getD 0):=by cases bK true aa (hd aa).length z <;> rfl
  rw [eg];refine⟨_,_,rfl,rfl,_,rfl,cC (λc=>cC (λ_=>⟨_,rfl,ae,bx ∅,_,rfl,yes ?_,by rw [ie]⟩) λh=>absurd rfl h) λc=>?_⟩
  .rw [c,Bool.true_or]
  have c':decide ((60:Int) < (bK true aa (hd aa).length z).getD 0)=false:=by simpa using c
  refine⟨_,rfl,_,rfl,dl,_,rfl,hgl,_,_,rfl,rfl,_,rfl,cC (λc2=>⟨_,rfl,ae,bx ∅,_,rfl,yes ?_,by rw [ie]⟩) λc2=>⟨_,rfl,no ?_,rfl⟩⟩
  .rw [en];rw [show (some n).getD 0=n from rfl,c2,Bool.or_true]
  rw [c',en];rw [show (some n).getD 0=n from rfl,Bool.false_or];exact(by simpa using c2:decide ((60:Int) < n)=false).symm
 rintro ys σ2 H6 ⟨x0,_,ey,rfl⟩;rw [aC,lE (aG _)] at ey;have ey:ys=(vj aa).map V.str:=ey;have tD:=ah hD (.lst ys);have Z4:upd H5 D (.lst ys) D=some (.lst ((vj aa).map V.str)):=by rw [ae,ey]
 have Yv:=sH5.trans tD;have Z2:=tD _ _ (s5 _ _ (s4 _ _ (s3 _ _ (s2 _ _ e1))));have IC:=tD _ _ (s5 _ _ (s4 _ _ W_));have Ur:=((Us.same s4).same s5).same tD;have Yo:=hT.same Yv;generalize upd H5 D (.lst ys)=H6 at tD Z4 Yv Z2 IC Ur Yo ⊢;have aae:(vj aa).length<=13:=cI (i8 _ _) EM;obtain⟨n5,_,Wf⟩:=R9.fst;obtain⟨jx,yO,QH⟩:∃jx,aa[0]?=some jx/\jx.1=S:=by
  rcases Wf with h | h
  .exact⟨_,h,rfl⟩
  exact⟨_,h,rfl⟩
 have qS:aa≠[]:=λe=>by rw [e] at yO;cases yO
 refine⟨_,rfl,nofun,nofun,?_⟩;refine jk (lo:=0) (n:=2) (λi σ H9=>∃y9 L0 LZ,σ=[bc a,bc PL,bc R,bc N,y4,y5,bc dg,bc dl,bc D,y9,L0,LZ,none]/\Kp H6 H9/\xQ T1 T2 T3 H9) ⟨_,_,_,rfl,Kp.of (aE.refl _),Yo⟩ ?_ ?_
 .rintro i σ H9 hi ⟨y9,L0,LZ,rfl,k9,t9⟩;have Kq:=k9.lst IC;have YE:=k9.aa Ur;refine⟨λσ H9=>∃v10 v11,σ=[bc a,bc PL,bc R,bc N,y4,y5,bc dg,bc dl,bc D,some (.int (0+(i:Int))),some v10,some v11,none]/\Kp H6 H9/\xQ T1 T2 T3 H9/\Og CV S (vj aa) H9 v10 v11,?_,?_⟩
  .refine⟨_,rfl,rfl,_,rfl,cC (λc=>?_) (λc=>?_)⟩
   .refine⟨_,rfl,R,_,rfl,.inl (aF.of Kq),λB hB x dx hx ND U0=>?_⟩;have tB:=ah hB 235;have eB:upd H9 B 235 B=some 235:=ae;have G4:=k9.trans (Kp.of tB);have Ih:=t9.same tB;have PN:=YE.same tB;generalize upd H9 B 235=lN at tB eB G4 Ih PN hx ND ⊢;refine⟨lN,x,dx,B,.dq,rs,[],aa,[],k_ S JL,xP S JL last,rfl,(ah ND _).trans (ah (by rw [aj U0.symm];exact hx) _),hx,ae,aF.of eB,PN,∅,X9.l8,qS,X9.txt,.inl ⟨rfl,rfl,rfl⟩,108,λru h=>(by cases h),108,R9.good,Ih,λue wI z_ gl gg xK sel gj kY seg=>⟨λbt hv gv=>⟨rfl,?_⟩,λm LH hv e1 e2=>⟨L.xm,λea Bi=>?_⟩⟩⟩
    .rw [<-xw R9 R9.yc xK sel gj kY seg] at hv;have A_:=G4.trans (Kp.Sh wI Ih);obtain⟨gx,fs,R2,S2,eg,g1,g2,g3,g4,_⟩:=id gv;exact⟨x,gx,fs,rfl,eg,g4,lN,x,bt,rs,[],aa,jx,rfl,gv,A_.aa Ur,yO,_,_,rfl,A_,z_,.inl ⟨hv,rfl,by rw [QH]⟩⟩
    rw [<-xw R9 R9.yc xK sel gj kY seg] at hv e2;exact⟨_,rfl,159,_,_,rfl,G4.trans (Kp.Sh wI Ih),z_,.inr ⟨hv,rfl,ea,m,LH,rfl,⟨Bi,e1⟩,e2⟩⟩
   refine⟨rfl,_,rfl,R,rfl,⟨_,aF.of Kq⟩,λC hC=>bX (xs:=143) (λi ys σ2 H7=>ys=((aa.take i).map jd).map V.str/\(∃y0 y1,σ2=[y0,y1])/\aE H9 H7/\H7 C=some (.lst ys))
    ⟨rfl,⟨none,none,rfl⟩,ah hC _,ae⟩ (λi ys σ2 H7 _ h=>aF.of (h.2.2.1 _ _ Kq)) (λi x ys σ2 H7 ex h=>?_) (λys σ2 H7 h=>?_)⟩
   .obtain⟨rfl,⟨y0,y1,rfl⟩,sm,hd⟩:=h;rw [bB] at ex;obtain⟨ra,er,rfl⟩:=b9.mp ex;obtain⟨ru,Z8,p,v1,v2⟩:=YE.get er;have hm:=cf Z8;have lj:=yI λp hp=>(X9.part ru hm p hp).le;have ln:=(X9.name ru hm).pt.le;have l3:=X9.l8 ru hm;refine⟨ra,_,rfl,sm.tup v1,rfl,_,_,rfl,_,_,rfl,rfl,?_⟩;refine zF ?_;refine⟨_,rfl,_,_,rfl,rfl,fits (by show ru.1.length+3<=1000000;omega),rfl,_,rfl,⟨#[32]⟩,p,ru.2,rfl,rfl,sm.tup v2,?_,_,_,rfl,rfl,fits (by rw [fQ];show ru.1.length+3+_<=1000000;omega),?_⟩
    .have hs:=KS λp hp=>(X9.part ru hm p hp).le;show _+_ * 1<=16777216;omega
    refine⟨hd,bx (by rw [aC,aC,d7];omega),?_,⟨_,_,rfl⟩,λb o hb=>?_,ae⟩
    .rw [cM,Z8,bA,bA];rfl
    rw [aj (λe=>by rw [e,hC] at hb;cases hb)];exact sm b o hb
   obtain⟨rfl,_,sm,hd⟩:=h;rw [aC,So,dI] at hd;obtain⟨wz,wt⟩:=X9.whole qS Qm;have G4:=k9.trans (Kp.of sm);have Ih:=t9.same sm;refine⟨⟨#[10]⟩,C,aa.map jd,rfl,rfl,aF.of hd,?_,Txt.join ⟨#[10]⟩ (aa.map jd),aa,[],k_ S JL,xP S JL last,rfl,wz,wt,∅,X9.l8,qS,X9.ag,X9.txt,d6 _,λ_ h=>(by cases h),jr,R9.good,Ih,λH0 ue s0 wI z_ gl gg xK sel gj kY seg=>⟨λg bt MN ss2 hv rl0 gv=>?_,λm LH hv e1 e2=>⟨L.xm,λea Bi=>?_⟩⟩⟩
   .have hs:=Ab λt ht=>(X9.nl t ht).2;show _+_ * 1<=16777216;rw [aC] at hs ⊢;omega
   .rw [<-xw R9 R9.yc xK sel gj kY seg] at hv;have k0:=Kp.Sh wI (Ih.same s0);have A_:=(G4.trans (Kp.of s0)).trans k0;obtain⟨gx,fs,R2,S2,eg,g1,g2,g3,g4,_⟩:=id gv;exact⟨g,gx,fs,rfl,eg,g4,H0,g,bt,MN,ss2,aa,jx,rfl,gv,k0.aa rl0,yO,_,_,rfl,A_,z_,.inl ⟨hv,rfl,by rw [QH]⟩⟩
   rw [<-xw R9 R9.yc xK sel gj kY seg] at hv e2;exact⟨_,rfl,159,_,_,rfl,(G4.trans (Kp.of s0)).trans (Kp.Sh wI (Ih.same s0)),z_,.inr ⟨hv,rfl,ea,m,LH,rfl,⟨Bi,e1⟩,e2⟩⟩
  rintro _ lN ⟨v10,v11,rfl,G4,Ih,to⟩;have RA:=G4.lst Z4;refine⟨_,rfl,oU,λB hB=>⟨D,B,_,rfl,rfl,aF.of (ah hB _ _ _ RA),aF.of ae,_,rfl,?_⟩⟩;have tB:=ah hB 128;have Ec:=tB _ _ RA;have A_:=G4.trans (Kp.of tB);have z_:=Ih.same tB;rcases to with ⟨hv,rfl,rfl⟩ | ⟨hv,rfl,ea,m,dx,rfl,xo,em⟩
  .generalize upd lN B 128=ue at tB Ec A_ z_ ⊢;rw [hv] at Ec ⊢;have Xb:=A_.lst Z2;refine lB ?_;refine⟨_,rfl,rfl,_,rfl,?_⟩;refine gy ?_;have a1:lK ((wd::S::JL).map V.str) 1=some (.str S):=cS (j:=1) rfl;refine⟨_,rfl,_,rfl,PL,_,_,_,rfl,rfl,aF.of Xb,a1,rfl,_,rfl,?_⟩;rw [ff rfl];refine gy ?_;refine⟨_,rfl,oU,λC hC=>⟨D,C,_,rfl,rfl,aF.of (ah hC _ _ _ Ec),aF.of ae,_,rfl,?_⟩⟩;refine gy ?_;exact⟨_,_,_,rfl,A_.trans (Kp.of (ah hC _)),z_.same (ah hC _)⟩
  have xo:=p_ xo tB;have em:=tB _ _ em;generalize upd lN B 128=ue at tB Ec A_ z_ xo em ⊢;have Hg:(((vj aa).map V.str).isEmpty)=false:=by
   cases h:vj aa with
   | nil=>exact absurd h hv
   | cons x l=>rfl
  rw [Hg];refine gy (gy ?_);refine⟨_,rfl,oU,λC hC=>⟨D,C,_,rfl,rfl,aF.of (ah hC _ _ _ Ec),aF.of ae,_,rfl,?_⟩⟩;rw [Hg];have tC:=ah hC 128;have xo:=p_ xo tC;have em:=tC _ _ em;have Rz:=tC _ _ Ec;have Ss:=A_.trans (Kp.of tC);have uG:=z_.same tC;generalize upd ue C 128=xS at tC xo em Rz Ss uG ⊢;refine lB ?_;refine⟨_,rfl,ea,CV,dx,_,.ref CV,.ref CV,true,rfl,xo,L.xg,λ_ h=>h,yJ,true,rfl,?_⟩;refine gy ?_;refine⟨_,rfl,ea,CV,dx,_,.ty "ValueError",.type "ValueError",true,rfl,xo,L.xg,λ_ h=>h,L.kV,true,rfl,?_⟩;refine gy ?_;refine⟨_,rfl,ea,dx,_,rfl,xo,λBQ Il=>⟨false,rfl,?_⟩⟩;have xo:=p_ xo Il;have em:=Il _ _ em;have Xd:=Il _ _ Rz;refine gy ?_;refine⟨_,rfl,ea,CV,dx,_,_,rfl,xo,L.xg,L.na,rfl,m,_,"list",true,rfl,aF.of em,yJ,true,rfl,?_⟩;refine gy ?_;refine⟨_,rfl,ea,CV,dx,_,_,rfl,xo,L.xg,L.na,rfl,_,rfl,m,D,_,rfl,rfl,aF.of em,aF.of Xd,wL _,_,rfl,?_⟩;refine gy ?_;exact⟨_,_,_,rfl,Ss.trans (Kp.of Il),uG.same Il⟩
 rintro σ H9 ⟨y9,L0,LZ,rfl,k9,t9⟩;exact q H9
end
def zJ (K:Frag)(nm fld:Str)(C W f:Addr):Prop:=(nsIn K mainGlobals nm,IP K C f Eu "ValueError.__new__",keepIn K (.ref C),(clsIn K C).map (λcd=>(cd.mro,cd.hasDict)),findIn K (.ref C) "__setattr__",takerIn K C fld,(K.lookup f).map (·.cls),exmOne K (.ref C) (.ref W),hasDictIn K C)=(some (some (.ref C)),true,true,some (.ref C::.ref W::Eu,true),some (some (.builtin "object.__setattr__")),some none,some (.type "function"),some true,true) /\
 418
def EH (K:Frag)(W:Addr):Prop:=417
def C1 (K:Frag)(C:Addr)(x:Str):Prop:=∃a:Addr,nsIn K mainGlobals x=some (some (.ref a))/\kitOne K (.ref C) (.ref a)=some false
section
variable {K:Frag}{nm fld:Str}{C W f:Addr}{mg:z0c}{h:Heap}
def eqX (a:(nsIn K mainGlobals nm,IP K C f Eu "ValueError.__new__",keepIn K (.ref C),(clsIn K C).map (λcd=>(cd.mro,cd.hasDict)),findIn K (.ref C) "__setattr__",takerIn K C fld,(K.lookup f).map (·.cls),exmOne K (.ref C) (.ref W),hasDictIn K C)=(some (some (.ref C)),true,true,some (.ref C::.ref W::Eu,true),some (some (.builtin "object.__setattr__")),some none,some (.type "function"),some true,true))
 (b:418):zJ K nm fld C W f:=⟨a,b⟩
def eqW (a:417):EH K W:=a
def zJ.np (e:zJ K nm fld C W f)(w:EH K W)(X:K.In h)(G:h.Ns mainGlobals mg):Tp K mg nm fld C W f:=by
 obtain⟨a,b⟩:=e;unfold EH at w;simp only [i4] at a b w;obtain⟨cd,h1,h2⟩:=b9.mp a.2.2.2.1;injection h2 with h2 h3;obtain⟨oI,o1,o2⟩:=b9.mp a.2.2.2.2.2.2.1;exact⟨a.2.1,a.2.2.1,mg_of X G a.1,mg_of X G w.2.2.2.2.1,⟨cd,h1,a.2.2.2.2.1,λself=>by rw [h2];rfl,by rw [h2];rfl,h3⟩,a.2.2.2.2.2.1,⟨w.1,⟨_,w.2.1,w.2.2.1⟩,w.2.2.2.1⟩,⟨oI,o1,o2⟩⟩
def zJ.xg (e:zJ K nm fld C W f)(w:EH K W):XG K C:=by
 obtain⟨a,b⟩:=e;unfold EH at w;simp only [i4] at a b w;exact⟨a.2.2.2.2.2.2.2.2,b.1,b.2.1,b.2.2.1,b.2.2.2.1,b.2.2.2.2.1,w.2.2.2.2.2.2.1,w.2.2.2.2.2.2.2,b.2.2.2.2.2.1⟩
def zJ.na (e:zJ K nm fld C W f):de K C fld:=by
 obtain⟨a,b⟩:=e;simp only [i4] at b;exact b.2.2.2.2.2.2.1
def zJ.xm (e:zJ K nm fld C W f):exmOne K (.ref C) (.ref W)=some true:=by
 obtain⟨a,b⟩:=e;simp only [i4] at a;exact a.2.2.2.2.2.2.2.1
def zJ.ns (e:zJ K nm fld C W f)(X:K.In h)(G:h.Ns mainGlobals mg):mg nm=some (.ref C):=by
 obtain⟨a,b⟩:=e;simp only [i4] at a;exact mg_of X G a.1
theorem zJ.at_ {g:Addr}(e:zJ K nm fld C W f)(m:Meth K C "__init__" g):g=f:=by
 obtain⟨a,b⟩:=e;simp only [i4] at b;have:=m.at_.symm.trans b.2.2.2.2.2.2.2;injection this with this;injection this with this;injection this
def zJ.rz {w:World}{g:Addr}(e:zJ K nm fld C W f)(ew:EH K W)(X:K.In h)(G:h.Ns mainGlobals mg)(F:iu K "__init__" qual st g gd)(m:Meth K C "__init__" g)(B:Binds K gd ["self",fld] [])
  (o:Tp K mg nm fld C W g->bF P w K mg base fN 1 g gd ["self",fld] (wm K C fld)):XY P w K mg base nm fld C:=by
 cases e.at_ m;have n:=e.np ew X G;exact⟨W,_,gd,n,o n,B⟩
def EH.mW (ew:EH K W)(X:K.In h)(G:h.Ns mainGlobals mg):mg "WrightError"=some (.ref W):=by
 unfold EH at ew;simp only [i4] at ew;exact mg_of X G ew.2.2.2.2.1
def EH.mV (ew:EH K W)(X:K.In h)(G:h.Ns mainGlobals mg):mg "ValueError"=none:=by
 unfold EH at ew;simp only [i4] at ew;exact mg_none_of X G ew.2.2.2.2.2.1
def C1.o (e:C1 K C nm)(X:K.In h)(G:h.Ns mainGlobals mg):EC K mg C nm:=by
 obtain⟨a,e1,e2⟩:=e;exact⟨a,mg_of X G e1,e2⟩
end
end eZ
namespace L2
open PySem
def xJ {C:z0m->Prop}(h:∀a,C [a]):∀us:z0m,us.length=1->C us
 | [a],_=>h a
def EK {C:z0m->Prop}(h:∀a b,C [a,b]):∀us:z0m,us.length=2->C us
 | [a,b],_=>h a b
def KQ {C:z0m->Prop}(h:∀a b c,C [a,b,c]):∀us:z0m,us.length=3->C us
 | [a,b,c],_=>h a b c
def eV (K:aV)(x:Str)(st:Stmt):Prop:=∃(g:Addr)(oc:Value)(od an:z0l)(sl:z0a)(kV dc pm cd ct:Value),PySem.W.nsIn K mainGlobals x=some (some (.ref g)) /\
 K.lookup g=some ⟨oc,od,.func (PySem.W.fnOf x x (di st) (bZ st) (av st) .none kV dc pm an cd ct),sl⟩/\PySem.W.codeIn K cd x=true/\PySem.W.keepIn K (.ref g)=true
def eV.get {K:aV}{h:Heap}{x:Str}(X:K.In h)(G:h.Ns mainGlobals mg)(H:eV K x st):∃g gd,iu K x x st g gd/\mg x=some (.ref g):=by
 obtain⟨g,oc,od,an,sl,kV,dc,pm,cd,ct,a,l,c,k⟩:=H;exact⟨g,_,Hs (st:=st) l c k,jT X G a⟩
def EF (K:aV)(x:Str)(st:Stmt)(T:Addr):Prop:=∃(g:Addr)(oc:Value)(od an:z0l)(sl:z0a)(kV dc pm:Value)(c:Addr)(ct:Value),PySem.W.nsIn K mainGlobals x=some (some (.ref g)) /\
 K.lookup g=some ⟨oc,od,.func (PySem.W.fnOf x x (di st) (bZ st) (av st) .none kV dc pm an (.ref c) ct),sl⟩/\PySem.W.codeIn K (.ref c) x=true/\PySem.W.codeHdIn K c T=true/\PySem.W.keepIn K (.ref g)=true
def EF.get {K:aV}{h:Heap}{x:Str}{T:Addr}(X:K.In h)(G:h.Ns mainGlobals mg)(H:EF K x st T):∃g gd,zx K x x st g gd T/\mg x=some (.ref g):=by
 obtain⟨g,oc,od,an,sl,kV,dc,pm,c,ct,a,l,d,e,k⟩:=H;exact⟨g,_,⟨⟨oc,od,kV,dc,pm,an,c,ct,sl,rfl,l,d,e⟩,k⟩,jT X G a⟩
def zx.binds {K:aV}{x qual:Str}{f T:Addr}{ps:z0r}(F:zx K x qual st f fd T)
  (h:∀(kV doc pm:Value)(an:z0l)(dB ct:Value)(us:z0m),us.length=ps.length->bindArgs (PySem.W.fnOf x qual (di st) (bZ st) (av st) .none kV doc pm an dB ct) ⟨us,[]⟩=pure (ps.zip us)):Binds K fd ps []:=by
 obtain⟨oc,od,kV,doc,pm,an,c,ct,wO,rfl,lk,sR,_⟩:=F.ex;exact .all (h kV doc pm an (.ref c) ct)
def xH (K:aV)(C:Addr)(m qual:Str)(st:Stmt):Prop:=∃(g:Addr)(oc:Value)(od an:z0l)(sl:z0a)(kV dc pm cd ct:Value),PySem.W.findIn K (.ref C) m=some (some (.ref g)) /\
 K.lookup g=some ⟨oc,od,.func (PySem.W.fnOf m qual (di st) (bZ st) (av st) .none kV dc pm an cd ct),sl⟩/\PySem.W.codeIn K cd qual=true/\PySem.W.keepIn K (.ref g)=true/\PySem.W.isFn K (.ref g)=true
def xH.get {K:aV}(H:xH K C m qual st):∃g gd,iu K m qual st g gd/\Meth K C m g:=by
 obtain⟨g,oc,od,an,sl,kV,dc,pm,cd,ct,a,l,c,k,i⟩:=H;exact⟨g,_,Hs (st:=st) l c k,⟨a,i,k⟩⟩
def eV.c {K:aV}{h:Heap}{x:Str}{w:World}{k:Nat}{ps:z0r}{sp:Sp}(H:eV K x st)(X:K.In h)(G:h.Ns mainGlobals mg)
  (b:∀(kV doc pm:Value)(an:z0l)(dB ct:Value)(us:z0m),us.length=ps.length->bindArgs (PySem.W.fnOf x x (di st) (bZ st) (av st) .none kV doc pm an dB ct) ⟨us,[]⟩=pure (ps.zip us))
  (o:∀{f:Addr}{fd:FuncData},iu K x x st f fd->mg x=some (.ref f)->Binds K fd ps []->bF P w K mg base fN k f fd ps sp):aL P w K mg base k x ps sp:=by
 obtain⟨f,fd,F,m⟩:=H.get X G;have B:=F.binds b;exact⟨f,fd,o F m B,B,F.kp,m⟩
def hD {K:aV}{x:Str}(g c:Addr)(pm:Value)(h:(PySem.W.nsIn K mainGlobals x,K.lookup g,PySem.W.codeIn K (.ref c) x,PySem.W.keepIn K (.ref g))=(some (some (.ref g)),some ⟨.type "function",none,.func (PySem.W.fnOf x x (di st) (bZ st) (av st) .none .none .none pm none (.ref c) .none),#[]⟩,true,true)):eV K x st:=by
 simp only [i4] at h;exact⟨g,_,_,_,_,_,_,_,_,_,h.1,h.2.1,h.2.2.1,h.2.2.2⟩
def hC {K:aV}{x:Str}{T:Addr}(g c:Addr)(pm:Value)(h:(PySem.W.nsIn K mainGlobals x,K.lookup g,PySem.W.codeIn K (.ref c) x,PySem.W.codeHdIn K c T,PySem.W.keepIn K (.ref g))=(some (some (.ref g)),some ⟨.type "function",none,.func (PySem.W.fnOf x x (di st) (bZ st) (av st) .none .none .none pm none (.ref c) .none),#[]⟩,true,true,true)):EF K x st T:=by
 simp only [i4] at h;exact⟨g,_,_,_,_,_,_,_,c,_,h.1,h.2.1,h.2.2.1,h.2.2.2.1,h.2.2.2.2⟩
def Zw {K:aV}{a:Addr}{xs:115}(aN:z0k)(h:K.lookup a=some ⟨185,none,.seq aN 0,#[]⟩)(hs:aN.size<=sizeLine)(v:aY xs aN.toList):∀H,aZ K H a xs:=λ_=>.inr ⟨_,aN,0,h,rfl,rfl,hs,v⟩
def hM {K:aV}(g c:Addr)(pm:Value)(h:(PySem.W.findIn K (.ref C) m,K.lookup g,PySem.W.codeIn K (.ref c) qual,PySem.W.keepIn K (.ref g),PySem.W.isFn K (.ref g))=(some (some (.ref g)),some ⟨.type "function",none,.func (PySem.W.fnOf m qual (di st) (bZ st) (av st) .none .none .none pm none (.ref c) .none),#[]⟩,true,true,true)):xH K C m qual st:=by
 simp only [i4] at h;exact⟨g,_,_,_,_,_,_,_,_,_,h.1,h.2.1,h.2.2.1,h.2.2.2.1,h.2.2.2.2⟩
end L2
namespace eZ
open PySem L2 M11
def Ol (K:aV)(C:Addr)(m qual:Str)(st:Stmt):Prop:=∃(g:Addr)(oc:Value)(od an:z0l)(sl:z0a)(kV dc pm cd ct:Value)(T:Addr)(o:Obj) (n:Nat),PySem.W.findIn K (.ref C) m=some (some (.ref g)) /\
 K.lookup g=some ⟨oc,od,.func (PySem.W.fnOf m qual (di st) (bZ st) (av st) (.ref T) kV dc pm an cd ct),sl⟩/\PySem.W.codeIn K cd qual=true/\K.lookup T=111/\o.data=.seq #[.none] n/\PySem.W.keepIn K (.ref g)=true/\PySem.W.isFn K (.ref g)=true
def Ol.get {K:aV}(H:Ol K C m qual st):∃g gd,zu K m qual st g gd/\PySem.W.findIn K (.ref C) m=some (some (.ref g))/\PySem.W.isFn K (.ref g)=true:=by
 obtain⟨g,oc,od,an,sl,kV,dc,pm,cd,ct,T,o,n,a,l,c,t,d,k,i⟩:=H;exact⟨g,_,⟨⟨oc,od,kV,dc,pm,an,cd,ct,sl,T,o,n,rfl,l,c,t,d⟩,k⟩,a,i⟩
structure Top (K:aV)(C Cg C3 T1 T2 T3 CR W fR:Addr)(tm:Tok):Prop where
 xR:zJ K "Vast" "names" CR W fR
 xW:EH K W
 mXR:xH K CR "__init__" "Vast.__init__" Fy
 hRG:eV K "read_grammar" Aq
 kV:PySem.W.kitOne K (.ref CR) (.type "ValueError")=some true
 ot1:C1 K CR "NoPattern"
 ot2:C1 K CR "NoWord"
 ot3:C1 K CR "NoRules"
 ot4:C1 K CR "Twice"
 ot5:C1 K CR "Endless"
 ot6:C1 K CR "Unmet"
 ot7:C1 K CR "Loop"
 ot8:C1 K CR "NoRow"
 ot9:C1 K CR "TooMany"
 UD:C1 K CR "Clash"
 UC:C1 K CR "Refused"
 UB:C1 K CR "NoDeed"
 nB:PySem.W.nsIn K mainGlobals "BeginTable"=some (some (.ref C))
 nG:PySem.W.nsIn K mainGlobals "Grammar"=some (some (.ref Cg))
 nL:PySem.W.nsIn K mainGlobals "LeastTrees"=some (some (.ref C3))
 nM:PySem.W.nsIn K mainGlobals "MOST_RULES"=some (some (.int 60 tm))
 C5:PySem.W.nsIn K mainGlobals "reversed"=some none
 II:PySem.W.nsIn K mainGlobals "sorted"=some none
 Tw:PySem.W.nsIn K mainGlobals "zip"=some none
 h0:eV K "heads_of" Au
 h1:eV K "numbers_by_name" FA
 h2:eV K "standings_by_part" MA
 h3:eV K "rule_size" pd
 h4:eV K "empty_by_name" rV
 h5:eV K "words_in" Al
 h6:eV K "found_empties" rW
 h7:eV K "first_places" wF
 h8:eV K "way_back" Mz
 h9:eV K "steps_with_like_rows" Ao
 h10:eV K "find_loop" FC
 h11:eV K "refuse_twice" Am
 h12:eV K "names_met" MC
 h13:eV K "is_part" wG
 h14:eV K "comes_again" Ax
 WI:eV K "read_rules" l7
 h16:eV K "read_row" rR
 h17:eV K "with_added_rules" Ay
 h18:eV K "_law_cell_at" FI
 h19:eV K "_law_stream" wC
 h20:eV K "_law_pool" Fz
 h21:eV K "_law_another" rX
 h22:eV K "_law_last" FD
 h23:eV K "_law_rules" rQ
 h24:eV K "_law_sum" An
 h25:eV K "_law_sizes" rP
 V8:eV K "law" MD
 VO:eV K "settled_sizes" nJ
 VT:eV K "refuse_faults" wD
 hL:EF K "least_sizes" rS T1
 hG:EF K "greatest_empty_sizes" wH T2
 hLB:EF K "least_by_part" nK T3
 mL1:xH K C3 "__init__" "LeastTrees.__init__" As
 mB1:xH K C "__init__" "BeginTable.__init__" Aw
 mB2:xH K C "find_begins" "BeginTable.find_begins" FE
 mB3:xH K C "words_of_part" "BeginTable.words_of_part" Ar
 mG1:Ol K Cg "__init__" "Grammar.__init__" rT
 mG2:xH K Cg "start" "Grammar.start" Ap
 pgB:PySem.W.plainGet K C Str.empty=true
 hdB:PySem.W.hasDictIn K C=true
 poB:PySem.W.plainOver K C=true
 saB:PySem.W.findIn K (.ref C) "__setattr__"=some (some (.builtin "object.__setattr__"))
 mkB:PySem.W.makesIn K C=true
 kpB:PySem.W.keepIn K (.ref C)=true
 pgG:PySem.W.plainGet K Cg Str.empty=true
 hdG:PySem.W.hasDictIn K Cg=true
 poG:PySem.W.plainOver K Cg=true
 saG:PySem.W.findIn K (.ref Cg) "__setattr__"=some (some (.builtin "object.__setattr__"))
 mkG:PySem.W.makesIn K Cg=true
 kpG:PySem.W.keepIn K (.ref Cg)=true
 pgL:PySem.W.plainGet K C3 Str.empty=true
 hdL:PySem.W.hasDictIn K C3=true
 poL:PySem.W.plainOver K C3=true
 saL:PySem.W.findIn K (.ref C3) "__setattr__"=some (some (.builtin "object.__setattr__"))
 mkL:PySem.W.makesIn K C3=true
 kpL:PySem.W.keepIn K (.ref C3)=true
 BJ:PySem.W.findIn K (.ref C) "empties"=some none
 HU:PySem.W.findIn K (.ref C) "empty"=some none
 Ez:PySem.W.findIn K (.ref C) "begins"=some none
 Ey:PySem.W.findIn K (.ref C) "firsts"=some none
 HP:PySem.W.findIn K (.ref C3) "rules"=some none
 HR:PySem.W.findIn K (.ref C3) "empty"=some none
 HQ:PySem.W.findIn K (.ref C3) "least"=some none
 Ex:PySem.W.findIn K (.ref C3) "hollow"=some none
 uA:PySem.W.findIn K (.ref C3) "beginnings"=some none
 HS:PySem.W.findIn K (.ref Cg) "rules"=some none
 xF:PySem.W.findIn K (.ref Cg) "strengths"=some none
 tS:PySem.W.findIn K (.ref Cg) "begin_table"=some none
 xG:PySem.W.findIn K (.ref Cg) "standings"=some none
 tR:PySem.W.findIn K (.ref Cg) "small_trees"=some none
 TF:PySem.W.nsIn K mainGlobals "len"=some none
 LY:PySem.W.nsIn K mainGlobals "range"=some none
 xU:PySem.W.nsIn K mainGlobals "isinstance"=some none
 LW:PySem.W.nsIn K mainGlobals "tuple"=some none
 O3:PySem.W.nsIn K mainGlobals "list"=some none
 O5:PySem.W.nsIn K mainGlobals "dict"=some none
 TM:PySem.W.nsIn K mainGlobals "all"=some none
 TL:PySem.W.nsIn K mainGlobals "any"=some none
 Tz:PySem.W.nsIn K mainGlobals "str"=some none
 TK:PySem.W.nsIn K mainGlobals "int"=some none
 O6:PySem.W.nsIn K mainGlobals "bool"=some none
 zQ:PySem.W.nsIn K mainGlobals "enumerate"=some none
 Tx:PySem.W.nsIn K mainGlobals "sum"=some none
 TC:PySem.W.nsIn K mainGlobals "max"=some none
 TB:PySem.W.nsIn K mainGlobals "min"=some none
 nMS:∃t:Tok,PySem.W.nsIn K mainGlobals "MOST_SIGNS"=some (some (.int 14 t))
 Na:∃a:Addr,PySem.W.nsIn K mainGlobals "MARKS"=some (some (.ref a))/\∀H,aZ K H a (DF.map V.str)
 Qb:∃a:Addr,PySem.W.nsIn K mainGlobals "WAYS"=some (some (.ref a))/\∀H,aZ K H a (uC.map V.str)
def all_mk {l:PySem.W.OpenLaw}{w:World}{K:aV}{h:Heap}{fa C Cg C3 T1 T2 T3 CR W fR:Addr}(X:K.In h)(G:h.Ns mainGlobals mg)(hfa:mg "law"=some (.ref fa))(tp:Top K C Cg C3 T1 T2 T3 CR W fR tm) :
  ∃fd:FuncData,(∀(s:Shared)(v:Value),BindsTo s fd ⟨[v],[]⟩ [("_law_script",v)])/\∀base:Heap,K.In base->base.Ns mainGlobals mg->t_ mg base->bF l.prog w K mg base fN 11 fa fd ["_law_script"] (Cd K T1 T2 T3):=by
 have T:Txt mg:=⟨gC X G tp.TF,gC X G tp.LY,gC X G tp.xU,gC X G tp.LW,gC X G tp.O3,gC X G tp.O5,gC X G tp.TM,gC X G tp.TL,gC X G tp.Tz,gC X G tp.TK,gC X G tp.O6,gC X G tp.zQ,gC X G tp.Tx,gC X G tp.TC,gC X G tp.TB⟩;obtain⟨_,wX⟩:=tp.nMS;obtain⟨_,CB,Cr⟩:=tp.Na;obtain⟨_,M9,MQ⟩:=tp.Qb;obtain⟨LF,LI,zy,Lc⟩:=tp.VO.get X G;have LP:=zy.binds (ps:=["rules","sizes","better"]) λ_ _ _ _ _ _=>by exact KQ λ_ _ _=>rfl
 obtain⟨Rk,RC,Ie,Qe⟩:=tp.VT.get X G;have RG:=Ie.binds (ps:=["rules","strengths"]) λ_ _ _ _ _ _=>by exact EK λ_ _=>rfl
 obtain⟨f_L,d_L,X7,m_L⟩:=tp.hL.get X G;have b_L:=X7.binds (ps:=["rules"]) 251
 obtain⟨f_G,d_G,X8,m_G⟩:=tp.hG.get X G;have b_G:=X8.binds (ps:=["rules"]) 251
 obtain⟨WM,Xh,Oq,Vb⟩:=tp.hLB.get X G;have Xw:=Oq.binds (ps:=["rules"]) 251
 obtain⟨aap,aav,Om,U_⟩:=tp.mXR.get;have Xu:=Om.binds (ps:=["self","names"]) λ_ _ _ _ _ _=>by exact EK λ_ _=>rfl
 obtain⟨aaq,aaw,Oo,Va⟩:=tp.hRG.get X G;have Xv:=Oo.binds (ps:=["text"]) 251
 have L19:Oi K mg CR W:=⟨tp.ot1.o X G,tp.ot2.o X G,tp.ot3.o X G,tp.ot4.o X G,tp.ot5.o X G,tp.ot6.o X G,tp.ot7.o X G,tp.ot8.o X G,tp.ot9.o X G,tp.UD.o X G,tp.UC.o X G,tp.UB.o X G,tp.xR.ns X G,tp.xW.mW X G,tp.xW.mV X G,tp.xR.xg tp.xW,tp.kV,tp.xR.na,tp.xR.xm⟩;obtain⟨WQ,aaC,R4,Qg⟩:=tp.mB1.get;have XD:=R4.binds (ps:=["self","rules"]) λ_ _ _ _ _ _=>by exact EK λ_ _=>rfl
 obtain⟨aat,aaB,R3,Vf⟩:=tp.mB2.get;have XA:=R3.binds (ps:=["self","number","rule"]) λ_ _ _ _ _ _=>by exact KQ λ_ _ _=>rfl
 obtain⟨aas,aaA,R1,Ve⟩:=tp.mB3.get;have Xz:=R1.binds (ps:=["self","part"]) λ_ _ _ _ _ _=>by exact EK λ_ _=>rfl
 obtain⟨WN,aax,RZ,Qf⟩:=tp.mL1.get;have Xx:=RZ.binds (ps:=["self","rules","begin_table"]) λ_ _ _ _ _ _=>by exact KQ λ_ _ _=>rfl
 obtain⟨aar,aay,R0,Vc⟩:=tp.mG2.get;have Xy:=R0.binds (ps:=["self"]) 251
 obtain⟨WO,aaz,Ot,Vd,Vv⟩:=tp.mG1.get;have cB:BC K C:=⟨⟨tp.pgB,tp.hdB,tp.poB,tp.saB⟩,tp.BJ,tp.HU,tp.Ez,tp.Ey⟩;have cG:GC K Cg:=⟨⟨tp.pgG,tp.hdG,tp.poG,tp.saG⟩,tp.HS,tp.xF,tp.tS,tp.xG,tp.tR⟩;have cL:LC K C3:=⟨⟨tp.pgL,tp.hdL,tp.poL,tp.saL⟩,tp.HP,tp.HR,tp.HQ,tp.Ex,tp.uA⟩;have kL:Mk K C3 WN:=⟨tp.mkL,Qf.at_,Qf.fn,tp.kpL⟩;have kB:Mk K C WQ:=⟨tp.mkB,Qg.at_,Qg.fn,tp.kpB⟩;have kG:Mk K Cg WO:=⟨tp.mkG,Vd,Vv,tp.kpG⟩;obtain⟨f9,d9,F9,m9⟩:=tp.V8.get X G;have e:=hfa.symm.trans m9;cases e;obtain⟨oc,od,kV,doc,pm,an,dB,ct,wO,eL,lk,sR⟩:=F9.ex;refine⟨d9,λs v=>?_,λbase _ _ Rg=>?_⟩
 .rw [eL];exact .of_eq rfl
 have c0:=tp.h0.c (P:=l.prog) (w:=w) (base:=base) X G 293 λF m B=>Gw F T;have c1:=tp.h1.c (P:=l.prog) (w:=w) (base:=base) X G 293 λF m B=>JF F T c0;have c2:=tp.h2.c (P:=l.prog) (w:=w) (base:=base) X G 293 λF m B=>M3 F T;have c3:=tp.h3.c (P:=l.prog) (w:=w) (base:=base) X G (λ_ _ _ _ _ _=>by exact EK λ_ _=>rfl) λF m B=>yt F T;have c4:=tp.h4.c (P:=l.prog) (w:=w) (base:=base) X G (λ_ _ _ _ _ _=>by exact EK λ_ _=>rfl) λF m B=>AV F T;have c5:=tp.h5.c (P:=l.prog) (w:=w) (base:=base) X G 293 λF m B=>Gj F T;have c6:=tp.h6.c (P:=l.prog) (w:=w) (base:=base) X G 293 λF m B=>AW F T;have c7:=tp.h7.c (P:=l.prog) (w:=w) (base:=base) X G (λ_ _ _ _ _ _=>by exact EK λ_ _=>rfl) λF m B=>Dv F T;have c8:=tp.h8.c (P:=l.prog) (w:=w) (base:=base) X G (λ_ _ _ _ _ _=>by exact KQ λ_ _ _=>rfl) λF m B=>M0 F T;have c9:=tp.h9.c (P:=l.prog) (w:=w) (base:=base) X G 293 λF m B=>Gq F T c6 c0;have c10:=tp.h10.c (P:=l.prog) (w:=w) (base:=base) X G 293 λF m B=>JG F T c9 c8;have c11:=tp.h11.c (P:=l.prog) (w:=w) (base:=base) X G 293 λF m B=>Gm F T;have c12:=tp.h12.c (P:=l.prog) (w:=w) (base:=base) X G 293 λF m B=>M4 F T;have Ku:=tp.h13.c (P:=l.prog) (w:=w) (base:=base) X G 293 λF m B=>Dw F T (jT X G wX) (jT X G CB) Cr;have c14:=tp.h14.c (P:=l.prog) (w:=w) (base:=base) X G 293 λF m B=>Gz F T (jT X G CB) Cr;have Xo:=tp.WI.c (P:=l.prog) (w:=w) (base:=base) X G (λ_ _ _ _ _ _=>by exact KQ λ_ _ _=>rfl) λF m B=>wR F T (Ku.mono nofun);have c16:=tp.h16.c (P:=l.prog) (w:=w) (base:=base) X G (λ_ _ _ _ _ _=>by exact KQ λ_ _ _=>rfl) λF m B=>AS F T (jT X G M9) MQ (Ku.mono nofun) (c14.mono nofun) (Xo.mono nofun);have c17:=tp.h17.c (P:=l.prog) (w:=w) (base:=base) X G 293 λF m B=>GB F T (c14.mono nofun);have c18:=tp.h18.c (P:=l.prog) (w:=w) (base:=base) X G (λ_ _ _ _ _ _=>by exact EK λ_ _=>rfl) λF m B=>JJ F T;have c19:=tp.h19.c (P:=l.prog) (w:=w) (base:=base) X G (λ_ _ _ _ _ _=>by exact EK λ_ _=>rfl) λF m B=>Dt F T;have c20:=tp.h20.c (P:=l.prog) (w:=w) (base:=base) X G (λ_ _ _ _ _ _=>by exact EK λ_ _=>rfl) λF m B=>JE F T (c19.mono nofun);have c21:=tp.h21.c (P:=l.prog) (w:=w) (base:=base) X G 293 λF m B=>AX F T L19;have c22:=tp.h22.c (P:=l.prog) (w:=w) (base:=base) X G (λ_ _ _ _ _ _=>by exact EK λ_ _=>rfl) λF m B=>JH F T (gC X G tp.Tw) (gC X G tp.C5);have c23:=tp.h23.c (P:=l.prog) (w:=w) (base:=base) X G (λ_ _ _ _ _ _=>by exact KQ λ_ _ _=>rfl) λF m B=>AQ F T (c22.mono nofun);have c24:=tp.h24.c (P:=l.prog) (w:=w) (base:=base) X G (λ_ _ _ _ _ _=>by exact EK λ_ _=>rfl) λF m B=>Gp F T;have c25:=tp.h25.c (P:=l.prog) (w:=w) (base:=base) X G (λ_ _ _ _ _ _=>by exact KQ λ_ _ _=>rfl) λF m B=>AM F T (c24.mono nofun);have Xl:aL l.prog w K mg base 2 "settled_sizes" ["rules","sizes","better"] (iB K zC sE.1 sE.2.1 sE.2.2.1 M11.bl):=⟨LF,LI,AN zy T,LP,zy.kp,Lc⟩;have Xm:aL l.prog w K mg base 2 "settled_sizes" ["rules","sizes","better"] (iB K Lf A7.1 A7.2.1 A7.2.2.1 M11.bg):=⟨LF,LI,AO zy T,LP,zy.kp,Lc⟩;have c_L:aL l.prog w K mg base 3 "least_sizes" ["rules"] (qN K T1):=⟨f_L,d_L,Gv X7 T Rg c5 Xl,b_L,X7.kp,m_L⟩;have c_G:aL l.prog w K mg base 3 "greatest_empty_sizes" ["rules"] (wo K T2):=⟨f_G,d_G,Gx X8 Rg Xm,b_G,X8.kp,m_G⟩;have RV:=tp.xR.rz (P:=l.prog) (w:=w) (base:=base) tp.xW X G Om U_ Xu (Gk Om T);have RE:pQ l.prog w K mg base 4 "refuse_faults" ["rules","strengths"] (oX K T1 T2 CR):=⟨Rk,RC,AR Ie T (jT X G tp.nM) RV c11 c_L c0 c12 c10 c_G,RG,Ie.kp,Qe⟩;have Xn:aL l.prog w K mg base 4 "least_by_part" ["rules"] (oY K T1 T3):=⟨WM,Xh,AU Oq T Rg (gC X G tp.II) (c0.mono nofun) c_L (c1.mono nofun) (c3.mono nofun),Xw,Oq.kp,Vb⟩;have UM:=Gs (P:=l.prog) (w:=w) (base:=base) R1 T cB;have UN:=JI R3 T cB c7 UM Ve Xz;have UO:=Gy R4 T cB c6 c0 UN Vf XA;have UK:=Gu RZ T cB cL Xn (c4.mono nofun);have P4:=Dx Ot T cG (RE.mono nofun) (c2.mono nofun) (UO.mono nofun) kB XD (jT X G tp.nB) UK kL Xx (jT X G tp.nL);have UJ:=Du Oo T c16 c17 kG P4 (Hm Ot) (jT X G tp.nG);have UL:=Gr (P:=l.prog) (w:=w) (mg:=mg) (base:=base) R0 cG;exact M5 F9 T L19 (c18.mono nofun) (c20.mono nofun) (c23.mono nofun) (c25.mono nofun) (c21.mono nofun) cG kG (P4.mono nofun) (Hl Ot) (jT X G tp.nG) (UJ.mono nofun) Va Oo.kp Xv Vc (UL.mono nofun) Xy
def walk {l:PySem.W.OpenLaw}{q:Program}{loose:z0r}{d:DefRec}{K:Params->aV}(T1 T2 T3 c1 c2 c3:Addr)(JQ:T1≠T2)(Ip:T1≠T3)(Io:T2≠T3)(hn:l.most=some 63)(Q4:d.params.defaults=[])
  (hY:∀(w:World)(h:Heap),YP w h->(K w.params).In h/\∀T∈[T3,T2,T1],h.get? T=some (PySem.W.tabObj #[]))
  (hK1:∀w:World,(K w.params).lookup T1=none)(hK2:∀w:World,(K w.params).lookup T2=none)(hK3:∀w:World,(K w.params).lookup T3=none)(hC1:∀w:World,PySem.W.codeHdIn (K w.params) c1 T1=true)(hC2:∀w:World,PySem.W.codeHdIn (K w.params) c2 T2=true)(hC3:∀w:World,PySem.W.codeHdIn (K w.params) c3 T3=true)
  (F:∀(w:World)(mg:z0c)(fa:Addr)(h:Heap),(K w.params).In h->h.Ns mainGlobals mg->mg d.name=some (.ref fa) ->
   ∃fd:FuncData,(∀(s:Shared)(u:Value),BindsTo s fd ⟨[u],[]⟩ [("_law_script",u)])/\∀base:Heap,(K w.params).In base->base.Ns mainGlobals mg->t_ mg base->bF l.prog w (K w.params) mg base fN 11 fa fd ["_law_script"] (Cd (K w.params) T1 T2 T3)) :
  PySem.W.WalkO q loose XP YP l.row.toRowW d [] (λf vs=>PySem.call f vs) :=
 L2.E6 (n:=63) (k:=11) (x := "_law_script") (CX:=λ_=>fN) (sp:=λw=>Cd (K w.params) T1 T2 T3) hn nofun Q4 ⟨rfl,nofun,nofun,rfl⟩ hY (λw T hT=>by
  rcases aS.mp hT with e | hT
  .subst e;exact⟨hK3 w,c3,hC3 w⟩
  rcases aS.mp hT with e | hT
  .subst e;exact⟨hK2 w,c2,hC2 w⟩
  rw [bD.mp hT];exact⟨hK1 w,c1,hC1 w⟩) F (λ_ H a ns hl _ hT hS=>⟨a,ns,rfl,hS,hl,⟨⟨#[],hT T1 125,by trivial,.inl rfl⟩,⟨#[],hT T2 125,by trivial,.inl rfl⟩,⟨#[],hT T3 125,by trivial,.inl rfl⟩,JQ,Ip,Io⟩,λ_=>rfl⟩) λ_ _ _ _ _ z=>z
end eZ
set_option maxHeartbeats 0
end
namespace HD
open PySem PySem.W L2
def TY (P:Params):eZ.Top (K P) 105 484 455 365 370 399 284 119 281 689:=⟨eZ.eqX (nofun) (nofun),
 eZ.eqW (nofun),
 hM 281 280 HD.m3 (nofun),
 hD 495 494 HD.m9 (nofun),nofun,
 ⟨139,nofun,nofun⟩,
 ⟨158,nofun,nofun⟩,
 ⟨189,nofun,nofun⟩,
 ⟨208,nofun,nofun⟩,
 ⟨227,nofun,nofun⟩,
 ⟨246,nofun,nofun⟩,
 ⟨265,nofun,nofun⟩,
 ⟨177,nofun,nofun⟩,
 ⟨296,nofun,nofun⟩,
 ⟨313,nofun,nofun⟩,
 ⟨332,nofun,nofun⟩,
 ⟨344,nofun,nofun⟩,nofun,nofun,nofun,nofun,nofun,nofun,nofun,
 hD 26 25 HD.m1 (nofun),
 hD 36 35 HD.m1 (nofun),
 hD 43 42 HD.m1 (nofun),
 hD 407 406 HD.m7 (nofun),
 hD 412 411 HD.m7 (nofun),
 hD 31 30 HD.m1 (nofun),
 hD 48 47 HD.m2 (nofun),
 hD 55 54 HD.m2 (nofun),
 hD 363 362 HD.m4 (nofun),
 hD 356 355 HD.m4 (nofun),
 hD 351 350 HD.m4 (nofun),
 hD 392 391 HD.m6 (nofun),
 hD 397 396 HD.m6 (nofun),
 hD 512 511 HD.m9 (nofun),
 hD 519 518 HD.m9 (nofun),
 hD 505 504 HD.m9 (nofun),
 hD 500 499 HD.m9 (nofun),
 hD 526 525 HD.m9 (nofun),
 hD 540 539 HD.u0 (nofun),
 hD 547 546 HD.u0 (nofun),
 hD 552 551 HD.u0 (nofun),
 hD 583 582 HD.u0 (nofun),
 hD 559 558 HD.u0 (nofun),
 hD 566 565 HD.u0 (nofun),
 hD 571 570 HD.u0 (nofun),
 hD 576 575 HD.u0 (nofun),
 hD 588 587 HD.u0 (nofun),
 hD 380 379 HD.m5 (nofun),
 hD 385 384 HD.m6 (nofun),
 hC 368 367 HD.m5 (nofun),
 hC 375 374 HD.m5 (nofun),
 hC 402 401 HD.m7 (nofun),
 hM 424 423 HD.m7 (nofun),
 hM 67 66 HD.m2 (nofun),
 hM 74 73 HD.m2 (nofun),
 hM 81 80 HD.m2 (nofun),
 ⟨474,.type "function",none,none,#[],.none,.none,.str "wright.grammars" 800,.ref 473,.none,467,⟨185,none,.seq #[.none] 0,#[]⟩,0,nofun,nofun,nofun,nofun,rfl,nofun,nofun⟩,
 hM 481 480 HD.m8 (nofun),nofun,nofun,nofun,nofun,nofun,nofun,nofun,nofun,nofun,nofun,nofun,nofun,nofun,nofun,nofun,nofun,nofun,nofun,nofun,nofun,nofun,nofun,nofun,nofun,nofun,nofun,nofun,nofun,nofun,nofun,nofun,nofun,nofun,nofun,nofun,nofun,nofun,nofun,nofun,nofun,nofun,nofun,nofun,nofun,nofun,nofun,nofun,
 ⟨853,nofun⟩,
 ⟨490,nofun,Zw #[.str "*" 849,.str "+" 850,.str "?" 851] (nofun) nofun (.cons 159 (.cons 159 (.cons 159 (.nil))))⟩,
 ⟨489,nofun,Zw #[.str "left" 845,.str "right" 846,.str "none" 847] (nofun) nofun (.cons 159 (.cons 159 (.cons 159 (.nil))))⟩⟩
end HD
theorem PySem.Challenge.cw_wright_k19_vast_trees_holds : PySem.Challenge.rw_wright_k19_vast_trees.Holds := by
 refine HD.hold ?_ ?hw
 case hw=>w_witness2
 refine eZ.walk (l:=PySem.Challenge.rw_wright_k19_vast_trees) (K:=HD.K) 365 370 399 367 374 401 nofun nofun nofun rfl HD.ok5 (λw h Y=>⟨PySem.W.km_in_of Y,PySem.W.km_tabs_of Y⟩) (λw=>by kernel_rfl) (λw=>by kernel_rfl) (λw=>by kernel_rfl) (λw=>by kernel_rfl) (λw=>by kernel_rfl) (λw=>by kernel_rfl) ?F;intro w mg fa h KX G QT;exact eZ.all_mk KX G QT (HD.TY w.params)
