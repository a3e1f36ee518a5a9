import PyProof.Rows.All
import Wide.All
import OpenK.AllK
import Wide.FinOn
import Lean
import PyProof.EqAt
import PyProof.EqKinds
import PyProof.TupleCall
import KE.KNestM
import PyProof.IsiH_list
import PyProof.RaisesAny
import KE.KDictOf
import PyProof.CollectWalk
import PyProof.CompFree
import KE.KDictList
import PyProof.NeKinds
import PyProof.ConsumeWalk
import PyProof.StrBlockI
import PyProof.EnumFor
import PyProof.TupleIter
import PyProof.EnumMake
import PyProof.DictUpdate
import PyProof.SeqI3
import PyProof.DictWalks
import PyProof.ConsumeS
import PyProof.Rows.CallKwBuiltin
import PyProof.AutoListH
import PyProof.StrOps
import PyProof.StrOps2
import PyProof.StrCalls2
import PyProof.StrLawsTight
import PyProof.StrLawsChain
import PyProof.Rows.StrItems
import PyProof.StrCalls
import PyProof.Rows.StrPins
import KE.KLam
import PyProof.Rows.StrDouble
import PyProof.Rows.StrJoin2
import PyProof.ZipIter
import PyProof.ListNew
import KE.KRevSl
import PyProof.ListTruth
import PyProof.Rows.StrBool
import KE.KDictLaws
import KE.KSortKey
import PyProof.Draws
import KE.KTryMore
import PyProof.InstStoreFacts
import PyProof.ExcInit
import PyProof.ExcClass3
import PyProof.ExcBaseAll.ValueError
import PyProof.FString
import PyProof.RulesAs
import PyProof.RulesDel
import PyProof.ExcAttrAll.ValueError
import PySem.Challenge.RW_wright_k17_rows_of_grammars_refused
set_option Elab.async false
set_option linter.all false
set_option maxRecDepth 100000
local macro_rules | `(tactic| omega) => `(tactic| first | lia | omega (config := {}))
local macro_rules | `(∅) => `(by omega)
local macro_rules | `(nofun) => `(by first | decide +kernel | kernel_rfl)
def bO:=@Or.inl
abbrev aY:=PySem.W.Frag
def v9:0<=PySem.sizeLine:=by decide
def FZ:1<=PySem.sizeLine:=by decide
def kc:2<=PySem.sizeLine:=by decide
def HL:3<=PySem.sizeLine:=by decide
def Pq:4<=PySem.sizeLine:=by decide
def Vi:6<=PySem.sizeLine:=by decide
def XS:9<=PySem.sizeLine:=by decide
def QK:10<=PySem.sizeLine:=by decide
def QJ:12<=PySem.sizeLine:=by decide
def QI:16<=PySem.sizeLine:=by decide
def QH:18<=PySem.sizeLine:=by decide
def aC.{u,v}:=@List.length_map.{u,v}
def bR.{u}:=@List.getElem?_eq_some_iff.{u}
def bC:=@PySem.Heap.get?_push_of_some
def aB:=@PySem.wpAny_bind
def cf.{u,v}:=@Option.map_eq_some_iff.{u,v}
def bH.{u,v}:=@List.getElem?_map.{u,v}
def bu.{u,v}:=@List.map_append.{u,v}
def bZ.{u}:=@List.length_append.{u}
def cM.{u}:=@List.mem_cons_of_mem.{u}
def cJ.{u}:=@List.mem_singleton.{u}
def bQ.{u}:=@List.mem_of_getElem?.{u}
def aK:=@Nat.le_refl
def bT.{u}:=@List.mem_cons_self.{u}
def aT.{u}:=@List.mem_cons.{u}
def aS:=@PySem.Heap.lt_size
def b8.{u}:=@List.size_toArray.{u}
def cI:=@PySem.Heap.get?_push_size
def bz.{u,v}:=@List.map_cons.{u,v}
def aR:=@PySem.wpAny_pure
def bx:=@Nat.ne_of_lt
def bM:=@PySem.Paired.length
def eG.{u}:=@List.getElem?_eq_getElem.{u}
def av.{u}:=@if_neg.{u}
def cH.{u}:=@List.length_cons.{u}
def ay.{u}:=@if_pos.{u}
def cN.{u}:=@List.mem_append.{u}
def gF:=@PyProof.Rows.boot_isinstance
def di.{u}:=@List.take_add_one.{u}
def dJ:=@Nat.lt_of_lt_of_le
def cU:=@PySem.PassesOwn.never
def de.{u}:=@List.take_length.{u}
def dS:=@Bool.false_ne_true
def f_:=@PySem.F.plainAttrs_list
def d5:=@of_decide_eq_true
def dD.{u}:=@List.append_nil.{u}
def fZ.{u}:=@List.mem_append_right.{u}
def cT.{u,v}:=@List.mem_map.{u,v}
def iM:=@PySem.F.type_list_append
def iL:=@PySem.F.slot_list_append
def fh.{u}:=@List.length_take.{u}
def cw:=@PySem.wpAny_mono
def eM:=@decide_eq_false
def df:=@Nat.le_trans
def iK:=@PySem.F.plainAttrs_str
def gE:=@PySem.W.mg_none_of
def fY.{u}:=@List.all_eq_true.{u}
def jl:=@PySem.Heap.get?_update_other
def dC:=@Nat.zero_le
def gS.{u}:=@List.append_assoc.{u}
def iJ.{u}:=@beq_eq_false_iff_ne.{u}
def iI.{u,v}:=@List.mem_map_of_mem.{u,v}
def fK:=@PySem.boot_len
def lM.{u}:=@Option.isSome_iff_exists.{u}
def gC:=@decide_eq_true
def oQ.{u}:=@List.getD_eq_getElem?_getD.{u}
def ib.{u}:=@Option.some.inj.{u}
def kb.{u}:=@List.getElem?_of_mem.{u}
def lL.{u}:=@List.length_filter_le.{u}
def iH:=@Bool.eq_iff_iff
def jx.{u}:=@List.nodup_append.{u}
def p5.{u}:=@List.getElem?_append_right.{u}
def gR:=@PySem.wpAny_holding
def jk.{u}:=@List.mem_filter.{u}
def fJ:=@PySem.Paired.snoc
def ka:=@PySem.wpAny_Call_Name_kw
def j_:=@PySem.wpAny_pyIter_list
def iG.{u,v}:=@Prod.mk.injEq.{u,v}
def jw.{u}:=@List.length_nil.{u}
def lK.{u}:=@List.filter_append.{u}
def oP.{u}:=@List.mem_iff_getElem.{u}
def oO.{u}:=@List.mem_append_left.{u}
def h_.{u,v,w}:=@List.map_map.{u,v,w}
def oN:=@PySem.wpAny_loadPart'
def oM:=@PySem.codeAny_call_builtin
def lJ:=@Int.toNat_natCast
def jj:=@PySem.W.mg_of
def sC.{u}:=@List.getElem?_append_left.{u}
def iF:=@Nat.ne_of_gt
def gQ:=@PySem.wpAny_field
def oK:=@Nat.lt_of_le_of_lt
def lI:=@Nat.lt_succ_self
def lH:=@Bool.and_eq_true
def pZ.{u}:=@List.mem_of_mem_take.{u}
def pY:=@PySem.Heap.get?_update_self
def jv:=@Nat.lt_irrefl
def v8:=@PyProof.Rows.callWith_type1
def lG.{u}:=@List.nil_append.{u}
def oJ:=@PySem.wpAny_truthy_bool
def oH.{u}:=@List.length_drop.{u}
def su:=@PySem.F.type_str_join
def sr:=@PySem.F.slot_str_join
def j9.{u}:=@List.sum_cons.{u}
def lF.{u}:=@List.nodup_nil.{u}
def lE:=@List.mem_range
def v7.{u}:=@List.drop_eq_getElem_cons.{u}
def hZ:=@PySem.wpAny_call
def sq:=@Bool.and_eq_true_iff
def so:=@PySem.StrLaws.glued_eq_join
def oG.{u}:=@List.nodup_cons.{u}
def pX:=@Bool.eq_false_iff
def i6:=@PySem.Heap.size_push
def iz.{u,v}:=@List.map_nil.{u,v}
def qp:=@PyProof.Rows.boot_tuple
def cZ.{u}:=@Ne.symm.{u}
def gU:=@Nat.le_succ
def kI.{u,v}:=@List.mem_flatMap.{u,v}
def qo.{u}:=@List.take_of_length_le.{u}
def ix:=@PySem.codeAny_mono
def nN.{u,v}:=@List.map_singleton.{u,v}
def gT:=@PySem.sizeLine_eq
def qm.{u}:=@List.length_singleton.{u}
def ql.{u}:=@List.length_replicate.{u}
def nK.{u,v}:=@Option.isSome_map.{u,v}
def nJ:=@Bool.not_eq_true'
def nI:=@PySem.tupleKind_room_in1
def nH:=@PySem.Calls.spliced_cons
def uE.{u}:=@Array.getElem?_eq_some_iff.{u}
def kF:=@PySem.wpAny_passesOwn
def nF.{u,v}:=@List.getElem_map.{u,v}
def nE.{u}:=@List.filter_cons.{u}
def ny:=@PySem.wpAny_pyIter_enum
def nv:=@PySem.wpAny_newObj_type
def qk:=@PySem.mem_of_lookup
def qj.{u}:=@List.take_succ_cons.{u}
def qi.{u}:=@Array.toList_append.{u}
def jy:=@Nat.le_of_lt
def uD:=@PySem.F.slot_tuple_iterator_next
def qh:=@PySem.Around.under_plainId
def nu.{u}:=@List.find?_cons.{u}
def uC:=@PySem.F.type_str_split
def uB:=@PySem.F.slot_str_split
def uA.{u}:=@List.getElem?_set_self.{u}
def uz:=@PySem.F.slot_list_getattribute
def qg:=@PySem.wpAny_setField_rec
def nr:=@PySem.wpAny_execs_nil
def uy:=@PySem.wpAny_callSpecial?_slot
def nq:=@PySem.codeAny_builtin
def qf:=@PySem.Obj.data_mapFields
def kC:=@Nat.zero_add
def kA:=@Nat.lt_trans
def qe.{u}:=@beq_self_eq_true.{u}
def yg.{u}:=@List.take_append_of_le_length.{u}
def qd.{u}:=@List.getElem_mem.{u}
def ux:=@PySem.Calls.callWith_builtin
def qc:=@PySem.wpAny_loadPart_at
def nj:=@PySem.wpAny_setField
def ky:=@PySem.wpAny_typeOf
def uw:=@PySem.wpAny_pyNext_list_end
def kx.{u,v}:=@Sum.inr.inj.{u,v}
def uv.{u}:=@Option.some_ne_none.{u}
def qb.{u,v}:=@Option.map_some.{u,v}
def qa.{u}:=@List.length_set.{u}
def uu.{u,v}:=@List.flatMap_append.{u,v}
def ur:=@PySem.F.slot_enumerate_next
def uq.{u}:=@Array.length_toList.{u}
def uo:=@PySem.wpAny_loadName_local
def um.{u}:=@Option.toList_some.{u}
def uk:=@PySem.Heap.get?_none_of_le
def uj:=@PySem.Calls.evalArgs_plain
def ui.{u}:=@Array.append_empty.{u}
def ni:=@PySem.wpAny_standAt
def ng:=@PySem.wpAny_attempt
def m_:=@PySem.plainId_quiet
def yf.{u}:=@List.getLast?_eq_some_iff.{u}
def ye:=@PySem.F.type_list_insert
def yd:=@PySem.F.slot_list_insert
def yc:=@PySem.F.slot_dict_update
def uh:=@Nat.lt_succ_of_lt
def ug:=@Nat.le_succ_of_le
def uf:=@List.length_range
def yb:=@PySem.wpAny_letOwnedTupleGo_enum
def ya:=@PySem.F.plainAttrs_dict
def p_.{u}:=@List.any_cons.{u}
def mZ:=@Int.le_refl
def p8:=@Bool.true_and
def ue:=@PySem.wpAny_pyIter_tuple
def uc.{u}:=@List.getElem_inj.{u}
def ub.{u}:=@List.drop_length.{u}
def ua.{u}:=@List.any_eq_true.{u}
def p6:=@PySem.wpAny_seqItems
def x_:=@PyProof.Rows.boot_bool
namespace L2
open PySem PySem.Spec PyProof.Rows
abbrev aN:=Sum Int Str
def qO:aN->Value->Bool
 | .inl k,v=>Value.isInt k v
 | .inr x,v=>Value.isStrOf x v
def Sl (w:World):aN->Int
 | .inl k=>hashInt k
 | .inr x=>hashStr w x
def cS:∀{k:aN}{v:Value},qO k v=true->(∃i t,k=Sum.inl i/\v=Value.int i t)\/(∃x t,k=Sum.inr x/\v=Value.str x t)
 | .inl i,v,h=>by
  obtain⟨t,e⟩:=Value.isInt_shape (k:=i) (v:=v) h;exact .inl ⟨i,t,rfl,e⟩
 | .inr x,v,h=>by
  obtain⟨t,e⟩:=Value.isStrOf_shape (x:=x) (v:=v) h;exact .inr ⟨x,t,rfl,e⟩
def BP (i:Int)(t:Tok):qO (.inl i) (.int i t)=true:=by simp [qO,Value.isInt]
def BO (x:Str)(t:Tok):qO (.inr x) (.str x t)=true:=by simp [qO,Value.isStrOf]
def Ks (a b:Int):decide ((Sum.inl a:aN)=Sum.inl b)=(a == b):=by
 by_cases e:a=b
 .subst e;simp
 have h:¬(Sum.inl a:aN)=Sum.inl b:=λq=>e (Sum.inl.inj q);rw [eM h];exact(iJ.mpr e).symm
def Ko (a b:Str):decide ((Sum.inr a:aN)=Sum.inr b)=decide (a=b):=by
 by_cases e:a=b
 .subst e;simp
 have h:¬(Sum.inr a:aN)=Sum.inr b:=λq=>e (kx q);rw [eM h,eM e]
def Kr (a:Int)(b:Str):decide ((Sum.inl a:aN)=Sum.inr b)=false:=eM (λq=>nomatch q)
def Kq (a:Str) (b:Int):decide ((Sum.inr a:aN)=Sum.inl b)=false:=eM (λq=>nomatch q)
def aX (prog:Program)(w:World):PySem.KeyKind prog w aN where
 is:=qO
 hash:=Sl w
 inj:=λv a b ha hb=>by
  rcases cS ha with ⟨i,t,rfl,rfl⟩ | ⟨x,t,rfl,rfl⟩
  .rcases cS hb with ⟨j,u,rfl,e⟩ | ⟨y,u,rfl,e⟩
   .injection e with e1 _;rw [e1]
   exact nomatch e
  rcases cS hb with ⟨j,u,rfl,e⟩ | ⟨y,u,rfl,e⟩
  .exact nomatch e
  injection e with e1 _;rw [e1]
 byValue:=λk v h=>by
  rcases cS h with ⟨i,t,rfl,rfl⟩ | ⟨x,t,rfl,rfl⟩ <;> rfl
 pyHash:=λhv h=>by
  rcases cS hv with ⟨i,t,rfl,rfl⟩ | ⟨x,t,rfl,rfl⟩
  .exact wpAny_pyHash_int h
  exact wpAny_pyHash_str h
 eqBool:=λhu hv h=>by
  rcases cS hu with ⟨i,t,rfl,rfl⟩ | ⟨x,t,rfl,rfl⟩
  .rcases cS hv with ⟨j,u,rfl,rfl⟩ | ⟨y,u,rfl,rfl⟩
   .rw [Ks] at h;exact wpAny_eqBool_int h
   rw [Kr] at h;exact SeqAt.EqAt.int_str i t y u _ _ _ _ h
  rcases cS hv with ⟨j,u,rfl,rfl⟩ | ⟨y,u,rfl,rfl⟩
  .rw [Kq] at h;exact SeqAt.EqAt.str_int x t j u _ _ _ _ h
  rw [Ko] at h;exact wpAny_eqBool_str h
 «strs»:=λk x t v h=>by
  rcases cS h with ⟨i,u,rfl,e⟩ | ⟨y,u,rfl,e⟩
  .exact nomatch e
  injection e with e1 _;subst e1;cases v <;> rfl
def wN (prog:Program)(w:World) (i:Int)(t:Tok):(aX prog w).is (.inl i) (.int i t)=true:=BP i t
def wM (prog:Program)(w:World)(x:Str)(t:Tok):(aX prog w).is (.inr x) (.str x t)=true:=BO x t
inductive V where
 | dP | bl (b:Bool) | int (i:Int) | str (x:Str) | Ci (b:Array UInt8) | K_ (b:UInt64) | ref (a:Addr) | ty (n:String)
 deriving DecidableEq
def RelV:V->Value->Prop
 | .dP,u=>u=Value.none
 | .bl b,u=>u=Value.bool b
 | .int i,u=>∃t,u=Value.int i t
 | .str x,u=>∃t,u=Value.str x t
 | .Ci b,u=>∃t,u=Value.bytes b t
 | .K_ b,u=>∃t,u=Value.float b t
 | .ref a,u=>u=Value.ref a
 | .ty n,u=>u=Value.type n
abbrev aU:List V->List Value->Prop:=Paired RelV
theorem aU.length {xs:List V}{us:List Value}(r:aU xs us):xs.length=us.length:=bM r
theorem aU.get:∀{xs:List V}{us:List Value}{i:Nat}{x:V},aU xs us->xs[i]?=some x->∃u,us[i]?=some u/\RelV x u
 | _,_,_,_,.nil,e=>by simp at e
 | _,_,0,_,.cons r _,e=>by simp at e;subst e;exact⟨_,rfl,r⟩
 | _,_,i+1,x,.cons _ t,e=>by
  obtain⟨u,h1,h2⟩:=aU.get (i:=i) (x:=x) t (by simpa using e);exact⟨u,by simpa using h1,h2⟩
theorem aU.set {x:V}{u:Value}(r:RelV x u):∀{xs:List V}{us:List Value}(i:Nat),aU xs us->aU (xs.set i x) (us.set i u)
 | _,_,_,.nil=>.nil
 | _,_,0,.cons _ t=>.cons r t
 | _,_,i+1,.cons q t=>.cons q (aU.set r i t)
theorem aU.append:∀{xs ys:List V}{us ws:List Value},aU xs us->aU ys ws->aU (xs++ys) (us++ws)
 | _,_,_,_,.nil,s=>s
 | _,_,_,_,.cons r t,s=>.cons r (aU.append t s)
theorem aU.take:∀{xs:List V}{us:List Value}(n:Nat),aU xs us->aU (xs.take n) (us.take n)
 | _,_,0,_=>.nil
 | _,_,_+1,.nil=>.nil
 | _,_,n+1,.cons r t=>.cons r (aU.take n t)
theorem aU.drop:∀{xs:List V}{us:List Value}(n:Nat),aU xs us->aU (xs.drop n) (us.drop n)
 | _,_,0,r=>r
 | _,_,_+1,.nil=>.nil
 | _,_,n+1,.cons _ t=>aU.drop n t
def aU.none_of:∀{xs:List V}{us:List Value}{i:Nat},aU xs us->xs[i]?=none->us[i]?=none:=λ{xs us i} r e=>by
 have h1:=r.length;have h2:xs.length<=i:=List.getElem?_eq_none_iff.mp e;exact List.getElem?_eq_none_iff.mpr ∅
def hJ:Option V->Option Value->Prop
 | some v,some u=>RelV v u
 | none,none=>True
 | _,_=>False
def KV {κ:Type}:List (κ×V)->List (κ×Value)->Prop:=Paired λ(p:κ×V)(q:κ×Value)=>p.1=q.1/\RelV p.2 q.2
def kV:aN->V
 | .inl i=>.int i
 | .inr x=>.str x
inductive HO where
 | lst (xs:List V)
 | tup (xs:List V)
 | dK (kvs:List (aN×V)) | dT (kvs:List (List aN×V))
 | set (S:Int->Bool) (n:Nat)
 | ins (C dx:Addr)(fs:List (Str×V))
 | own (x:Addr)
 | xd (fs:List (Str×V))
 | met (f x:Addr)
 | Ia (lo hi:Int)
 | ju (o:Obj)(u:HO)
 | rO (ps:Array Value)
 | ext (φ:Heap->Prop)
abbrev Hp:=Addr->Option HO
def upd (H:Hp)(a:Addr)(o:HO):Hp:=λb=>if b=a then some o else H b
def af {H:Hp}{a:Addr}{o:HO}:upd H a o a=some o:=by unfold upd;rw [ay rfl]
def aj {H:Hp}{a b:Addr}{o:HO}(h:b≠a):upd H a o b=H b:=by unfold upd;rw [av h]
def jQ {H:Hp}{a:Addr}{o u:HO}:upd (upd H a o) a u=upd H a u:=by
 funext b;unfold upd;split <;> rfl
def Nr {H:Hp}{a b:Addr}{o u:HO}(h:H a=some o)(h':H b=some u)(d:o≠u):a≠b:=by
 intro e;subst e;rw [h] at h';exact d (ib h')
def aq {H:Hp}{a b:Addr}{o:HO}(h:H a=some o)(h':H b=none):a≠b:=by
 intro e;subst e;rw [h] at h';cases h'
section
variable (P:Program)(w:World)
def bU (H:Hp)(h:Heap)(a:Addr):HO->Prop
 | .lst xs=>xs.length<=sizeLine/\∃(aO:List Value) (n:Nat),aU xs aO/\h.get? a=some { cls:=.type "list",data:=.seq aO.toArray n }
 | .tup xs=>xs.length<=sizeLine/\∃aO:List Value,aU xs aO/\IsTup h a aO.toArray
 | .dK kvs=>kvs.length<=sizeLine/\(a == sysModules)=false/\∃vs,KV kvs vs/\h.DictOf (aX P w) a vs
 | .dT kvs=>kvs.length<=sizeLine/\(a == sysModules)=false/\∃xs:List (List aN×Addr×Value),
   Paired (λ(p:List aN×V)(q:List aN×Addr×Value)=>p.1=q.1/\H q.2.1=some (.tup (p.1.map kV))/\RelV p.2 q.2.2) kvs xs /\
   ∃o es ep,h.get? a=some o/\o.ExactDict/\o.data=.dict es ep/\es.toList=xs.map (entryOfKey (tupleKind (aX P w)))/\(xs.map (·.1)).Nodup
 | .set S n=>h.SetOf (intKind P w) a S n
 | .ins C dx fs=>H dx=some (.own a)/\fs.length<=1000/\dx≠a/\h.get? a=some (PySem.W.instObj C dx) /\
   ∃mA,h.Ns1 dx mA/\(∀f,hJ (fs.lookup f) (mA f))/\PySem.Within mA (fs.map (·.1))
 | .own _=>∃o,h.get? a=some o
 | .xd fs=>∃mA,h.Ns1 a mA/\∀f,hJ (fs.lookup f) (mA f)
 | .Ia lo hi=>∃t u v,h.get? a=some { cls:=.type "range",data:=.fields #[.int lo t,.int hi u,.int 1 v] }
 | .ju o u=>h.get? a=some o/\bU H h a u
 | .rO ps=>h.get? a=some { cls:=.none,data:=.fields ps }
 | .met f x=>h.get? a=some (PySem.W.methodObj (.ref f) (.ref x))
 | .ext φ=>φ h/\(∃o,h.get? a=some o)/\∀h1 h2:Heap,φ h1->(∀o,h1.get? a=some o->h2.get? a=some o)->φ h2
def j8 (H:Hp)(h:Heap):Prop:=∀a o,H a=some o->bU P w H h a o
end
section
variable {P:Program}{w:World}{H H':Hp}{h h':Heap}{a:Addr}{o:HO}
theorem bU.lt (x:bU P w H h a o):a < h.objs.size:=by
 cases o with
 | lst xs=>obtain⟨_,_,_,_,e⟩:=x;exact aS e
 | tup xs=>obtain⟨_,_,_,p⟩:=x;exact p.lt
 | dK kvs=>obtain⟨_,_,_,_,o,_,_,e,_⟩:=x;exact aS e
 | dT kvs=>obtain⟨_,_,_,_,o,_,_,e,_⟩:=x;exact aS e
 | set S n=>obtain⟨o,_,_,_,e,_⟩:=x;exact aS e
 | ins C dx fs=>obtain⟨_,_,_,e,_⟩:=x;exact aS e
 | own y=>obtain⟨_,e⟩:=x;exact aS e
 | xd fs=>obtain⟨_,⟨_,_,_,e,_⟩,_⟩:=x;exact aS e
 | Ia lo hi=>obtain⟨_,_,_,e⟩:=x;exact aS e
 | ju ob u=>obtain⟨e,_⟩:=x;exact aS e
 | rO ps=>exact aS (show h.get? a=some _ from x)
 | met f y=>exact aS (show h.get? a=some _ from x)
 | ext φ=>obtain⟨_,⟨_,e⟩,_⟩:=x;exact aS e
theorem Paired.gA {α β:Type}{F G:α->β->Prop}:∀{l₁:List α}{l₂:List β},Paired F l₁ l₂->(∀a b,F a b->G a b)->Paired G l₁ l₂
 | _,_,.nil,_=>.nil
 | _,_,.cons r t,f=>.cons (f _ _ r) (Paired.gA t f)
def bU.hV (x:bU P w H h a o)(k:∀b u,(b=a\/H b=some (.own a))->h.get? b=some u->h'.get? b=some u)
  (ho:∀b,H b=some (.own a)->H' b=some (.own a))(ht:∀b xs,H b=some (.tup xs)->H' b=some (.tup xs)):bU P w H' h' a o:=by
 induction o with
 | lst xs=>obtain⟨z,aO,n,r,e⟩:=x;exact⟨z,aO,n,r,k _ _ (.inl rfl) e⟩
 | tup xs=>obtain⟨z,aO,r,ob,e,c⟩:=x;exact⟨z,aO,r,ob,k _ _ (.inl rfl) e,c⟩
 | dK kvs=>obtain⟨z,y,vs,r,ob,es,ep,e,c⟩:=x;exact⟨z,y,vs,r,ob,es,ep,k _ _ (.inl rfl) e,c⟩
 | dT kvs =>
  obtain⟨z,y,xs,r,ob,es,ep,e,c⟩:=x;exact⟨z,y,xs,Paired.gA r λp q z=>⟨z.1,ht _ _ z.2.1,z.2.2⟩,ob,es,ep,k _ _ (.inl rfl) e,c⟩
 | set S n=>obtain⟨ob,es,ep,t,e,c⟩:=x;exact⟨ob,es,ep,t,k _ _ (.inl rfl) e,c⟩
 | ins C dx fs =>
  obtain⟨d,z,ne,e,mA,⟨od,es,ep,e2,c⟩,r⟩:=x;exact⟨ho _ d,z,ne,k _ _ (.inl rfl) e,mA,⟨od,es,ep,k _ _ (.inr d) e2,c⟩,r⟩
 | own y=>obtain⟨ob,e⟩:=x;exact⟨ob,k _ _ (.inl rfl) e⟩
 | xd fs=>obtain⟨mA,⟨od,es,ep,e,c⟩,r⟩:=x;exact⟨mA,⟨od,es,ep,k _ _ (.inl rfl) e,c⟩,r⟩
 | Ia lo hi=>obtain⟨t,u,v,e⟩:=x;exact⟨t,u,v,k _ _ (.inl rfl) e⟩
 | ju ob u ih=>obtain⟨e,q⟩:=x;exact⟨k _ _ (.inl rfl) e,ih q⟩
 | rO ps =>
  have e:h.get? a=some { cls:=.none,data:=.fields ps }:=x;show h'.get? a=some { cls:=.none,data:=.fields ps };exact k a _ (.inl rfl) e
 | met f y =>
  have e:h.get? a=some (PySem.W.methodObj (.ref f) (.ref y)):=x;show h'.get? a=some (PySem.W.methodObj (.ref f) (.ref y));exact k a _ (.inl rfl) e
 | ext φ=>obtain⟨p,⟨o,e⟩,st⟩:=x;exact⟨st _ _ p λo q=>k _ _ (.inl rfl) q,⟨o,k _ _ (.inl rfl) e⟩,st⟩
theorem j8.lt (x:j8 P w H h)(e:H a=some o):a < h.objs.size:=(x a o e).lt
def j8.fresh (x:j8 P w H h)(e:h.objs.size<=a):H a=none:=by
 cases q:H a with
 | none=>rfl
 | some u=>exact absurd (dJ (x.lt q) e) (jv _)
def j8.kept (x:j8 P w H h)(k:∀b u,h.get? b=some u->h'.get? b=some u):j8 P w H h':=λa o e =>
 (x a o e).hV (λb u _ q=>k b u q) (λ_ q=>q) λ_ _ q=>q
def j8.laid (x:j8 P w H h)(k:∀b u,h.get? b=some u->h'.get? b=some u)(hp:h.objs.size<=a)(new:bU P w (upd H a o) h' a o):j8 P w (upd H a o) h':=λb u e=>by
 have hn:=x.fresh hp;by_cases hb:b=a
 .subst hb;rw [af] at e;cases e;exact new
 rw [aj hb] at e;exact(x b u e).hV (λc v _ q=>k c v q) (λc q=>by rw [aj (aq q hn)];exact q) λc xs q=>by rw [aj (aq q hn)];exact q
end
def Rd (H:Hp)(a:Addr)(u:HO):Prop:=H a=some u\/∃o,H a=some (.ju o u)
def Rd.of {H:Hp}{a:Addr}{u:HO}(h:H a=some u):Rd H a u:=.inl h
def Rd.ok {P:Program}{w:World}{H:Hp}{h:Heap}{a:Addr}{u:HO}(r:Rd H a u)(x:j8 P w H h):bU P w H h a u:=by
 rcases r with r | ⟨o,r⟩
 .exact x a u r
 obtain⟨_,q⟩:=x a _ r;exact q
def Pd:Option HO->Prop
 | some (.lst _)=>True
 | some (.dK _)=>True
 | some (.dT _)=>True
 | some (.set _ _)=>True
 | some (.ins _ _ _)=>True
 | some (.ext _)=>True
 | _=>False
section
variable {P:Program}{w:World}{H:Hp}{h h':Heap}{x e:Addr}{o':HO}
def j8.write (ok:j8 P w H h)(mu:Pd (H x))(he:e=x\/H e=some (.own x))(k:∀b u,b≠e->h.get? b=some u->h'.get? b=some u)(L0:∃u,h'.get? e=some u)
  (new:bU P w (upd H x o') h' x o'):j8 P w (upd H x o') h':=λb u q=>by
 have Nk:∀c y,H c=some (.own y)->c≠x:=λc y r z=>by subst z;rw [r] at mu;exact mu
 have RG:∀c xs,H c=some (.tup xs)->c≠x:=λc xs r z=>by subst z;rw [r] at mu;exact mu
 by_cases hb:b=x
 .subst hb;rw [af] at q;cases q;exact new
 rw [aj hb] at q;by_cases KW:b=e
 .have q':H b=some (.own x):=by
   rcases he with z | z
   .exact absurd (KW.trans z) hb
   rw [KW];exact z
  rw [q] at q';cases q';obtain⟨v,hv⟩:=L0;exact⟨v,by rw [KW];exact hv⟩
 refine(ok b u q).hV (λc v hc r=>k c v ?_ r) (λc r=>by rw [aj (Nk c b r)];exact r) λc xs r=>by rw [aj (RG c xs r)];exact r
 rcases hc with rfl | hc
 .exact KW
 rintro rfl;rcases he with z | z
 .exact Nk c b hc z
 rw [hc] at z;cases z;exact hb rfl
end
structure Un (fs ex:List Addr)(H H':Hp)(h h':Heap):Prop where
 keep:∀b o,h.get? b=some o->H b=none->b∉fs->b∉ex->h'.get? b=some o
 slot:∀b o,h.get? b=some o->H b=none->b∈fs->b∉ex->∃sl,h'.get? b=some { o with slots:=sl }
 free:∀b o,h.get? b=some o->H b=none->b∉ex->H' b=none
 there:∀b o,h.get? b=some o->b∉ex->∃o',h'.get? b=some o'
 kK:∀b xs,H b=some (.tup xs)->H' b=some (.tup xs)
 jO:∀b o u,H b=some (.ju o u)->H' b=some (.ju o u)
 j5:∀b ps,H b=some (.rO ps)->∃more,H' b=some (.rO (ps++more))
section
variable {fs FP ex WX:List Addr}{H H1 H2:Hp}{h h1 h2 h':Heap}{a x e:Addr}{o:HO}
def Un.any (u:Un fs ex H H1 h h1){b:Addr}{ob:Obj}(q:h.get? b=some ob)(n:H b=none)(hx:b∉ex):∃sl,h1.get? b=some { ob with slots:=sl }:=by
 by_cases hb:b∈fs
 .exact u.slot b ob q n hb hx
 exact⟨ob.slots,u.keep b ob q n hb hx⟩
def Un.trans (a:Un fs ex H H1 h h1)(b:Un fs ex H1 H2 h1 h2):Un fs ex H H2 h h2 where
 keep:=λc ob q n hc hx=>b.keep c ob (a.keep c ob q n hc hx) (a.free c ob q n hx) hc hx
 slot:=λc ob q n hc hx=>by
  obtain⟨sl,e1⟩:=a.slot c ob q n hc hx;obtain⟨Q7,e2⟩:=b.slot c _ e1 (a.free c ob q n hx) hc hx;exact⟨Q7,e2⟩
 free:=λc ob q n hx=>by
  obtain⟨o',e1⟩:=a.there c ob q hx;exact b.free c o' e1 (a.free c ob q n hx) hx
 there:=λc ob q hx=>by
  obtain⟨o',e1⟩:=a.there c ob q hx;exact b.there c o' e1 hx
 kK:=λc xs q=>b.kK c xs (a.kK c xs q)
 jO:=λc ob xs q=>b.jO c ob xs (a.jO c ob xs q)
 j5:=λc ps q=>by
  obtain⟨m1,e1⟩:=a.j5 c ps q;obtain⟨m2,e2⟩:=b.j5 c _ e1;exact⟨m1++m2,by rw [e2,Array.append_assoc]⟩
def Un.kept (k:∀b u,h.get? b=some u->h'.get? b=some u):Un fs ex H H h h' :=
 ⟨λb ob q _ _ _=>k b ob q,λb ob q _ _ _=>⟨ob.slots,k b ob q⟩,λ_ _ _ n _=>n,λb ob q _=>⟨ob,k b ob q⟩,λ_ _ q=>q,λ_ _ _ q=>q,λ_ ps q=>⟨#[],by rw [q];simp⟩⟩
def Un.refl:Un fs ex H H h h:=Un.kept λ_ _ q=>q
def Un.laid (k:∀b u,h.get? b=some u->h'.get? b=some u)(hp:h.objs.size<=a)(hn:H a=none):Un fs ex H (upd H a o) h h' where
 keep:=λb u q _ _ _=>k b u q
 slot:=λb u q _ _ _=>⟨u.slots,k b u q⟩
 free:=λb u q n _=>by rw [aj (bx (dJ (aS q) hp))];exact n
 there:=λb u q _=>⟨u,k b u q⟩
 kK:=λb xs q=>by rw [aj (aq q hn)];exact q
 jO:=λb u xs q=>by rw [aj (aq q hn)];exact q
 j5:=λb ps q=>⟨#[],by rw [aj (aq q hn),q];simp⟩
def Un.write (mu:Pd (H x))(he:e=x\/H e=some (.own x))(k:∀b u,b≠e->h.get? b=some u->h'.get? b=some u)(L0:∃u,h'.get? e=some u):Un fs ex H (upd H x o) h h':=by
 have hx:∀b,H b=none->b≠x:=λb n z=>by subst z;rw [n] at mu;exact mu
 have hb:∀b,H b=none->b≠e:=λb n z=>by
  subst z;rcases he with r | r
  .exact hx b n r
  rw [n] at r;cases r
 have hm:∀b u,H b=some u->¬Pd (some u)->b≠x:=λb u q nm z=>by subst z;rw [q] at mu;exact nm mu
 refine⟨λb u q n _ _=>k b u (hb b n) q,λb u q n _ _=>⟨u.slots,k b u (hb b n) q⟩,λb u q n _=>by rw [aj (hx b n)];exact n,λb u q _=>?_,
  λb xs q=>by rw [aj (hm b _ q λz=>z)];exact q,λb u xs q=>by rw [aj (hm b _ q λz=>z)];exact q,λb ps q=>⟨#[],by rw [aj (hm b _ q λz=>z),q];simp⟩⟩
 by_cases KW:b=e
 .subst KW;exact L0
 exact⟨u,k b u KW q⟩
def Un.mono (u:Un fs ex H H1 h h1)(hs:∀b∈fs,b∈FP)(hx:∀b∈ex,b∈WX):Un FP WX H H1 h h1 :=
 ⟨λb ob q n hb he=>u.keep b ob q n (λz=>hb (hs b z)) λz=>he (hx b z),λ_ _ q n _ he=>u.any q n λz=>he (hx _ z),λb ob q n he=>u.free b ob q n λz=>he (hx b z),λb ob q he=>u.there b ob q λz=>he (hx b z),u.kK,u.jO,u.j5⟩
end
def FA (h:Heap)(H:Hp):List Addr:=(List.range h.objs.size).filter λa=>(H a).isSome
def kZ (h:Heap)(H:Hp):Heap:=PySem.W.hideAll h (FA h H)
def tH (h:Heap)(H:Hp):(kZ h H).objs.size=h.objs.size:=PySem.W.hideAll_size _ _
def wZ {h:Heap}{H:Hp}{b:Addr}{o:Obj}(e:h.get? b=some o)(n:H b=none):(kZ h H).get? b=some o :=
 PySem.W.hideAll_get _ e λhm=>by
  have q:(H b).isSome=true:=(jk.mp hm).2;rw [n] at q;simp at q
def AH {h:Heap}{H:Hp}{b:Addr}{o:Obj}(e:(kZ h H).get? b=some o):h.get? b=some o/\H b=none:=by
 have e':h.get? b=some o:=PySem.W.of_hideAll (FA h H) e;refine⟨e',?_⟩;cases q:H b with
 | none=>rfl
 | some x =>
  have hm:b∈FA h H:=jk.mpr ⟨lE.mpr (aS e'),by simp [q]⟩;have z:(kZ h H).get? b=none:=PySem.W.hideAll_none (FA h H) hm;rw [z] at e;cases e
def HA (g h:Heap)(L:Addr):List (Addr×Obj):=(List.range h.objs.size).filterMap λa=>if a=L\/(g.get? a).isSome=true then none else (h.get? a).map λo=>(a,o)
def rest (g h:Heap)(L d:Addr):List (Addr×Obj):=(HA g h L).filter λp=>decide (p.1≠d)
structure Mod (K:aY)(mg:Str->Option Value)(base:Heap):Prop where
 Kn:K.In base
 glob:base.Ns mainGlobals mg
 blt:∃mb,base.Ns builtinsNs mb/\∀x:Str,x ≠ "__name__" -> mb x=bootBuiltins x
 nolimit:base.NoLimit
structure Cx where
 prog:Program
 w:World
 K:aY
 mg:Str->Option Value
 base:Heap
 A:Around
 N:List Str
 s₀:Shared
 H₀:Hp
 env:Env
 outer:List Env
 stack:List Env
 ex:List Addr
 fn:Str->Bool
 calm:Bool
 pn:List (Addr×Obj)
 xe:Value->Shared->Prop
def pC (l:List Env):List Addr:=l.filterMap (·.frame)
abbrev Cx.fs (X:Cx):List Addr:=pC X.outer
def Qy (sc:Scope)(x:Str):Prop:=sc.names.lookup x=some .local\/sc.names.lookup x=some .cell\/sc.names.lookup x=some .free
def Loc (sc:Scope)(x:Str):Prop:=sc.names.lookup x=some .local\/sc.names.lookup x=some .cell
def Look (env:Env)(h:Heap)(m:Str->Option Value)(x:Str)(u:Value):Prop :=
 (env.kindOf x=some .local/\m x=some u)\/((env.kindOf x=some .cell\/env.kindOf x=some .free)/\∃c,env.cells.lookup x=some c/\h.IsCell c (some u))
structure Cx.Ok (X:Cx):Prop where
 mod:Mod X.K X.mg X.base
 kind:X.env.scope.kind=.function
 glob:X.env.globals=mainGlobals
 blt:X.env.builtins=builtinsNs
 above:X.s₀.heap.objs.size<=X.env.locals
 inj:∀x y c,X.env.cells.lookup x=some c->X.env.cells.lookup y=some c->x=y
 has:∀x,(X.env.kindOf x=some .cell\/X.env.kindOf x=some .free)->∃c,X.env.cells.lookup x=some c
 Mo:∀x c,X.fn x=true->X.env.cells.lookup x=some c->X.s₀.heap.objs.size<=c
 hd:X.calm=true->X.A.handled=none
 frames:X.A.frames=some X.stack
 HQ:X.stack=X.outer\/(X.stack=X.env::X.outer/\X.env.frame=some X.env.locals)
 La:∀b∈X.ex,b≠X.env.locals/\∀x c,X.env.cells.lookup x=some c->c≠b
 bs:∀b o,X.base.get? b=some o->X.s₀.heap.get? b=some o/\X.H₀ b=none
 E_:X.base.objs.size<=X.s₀.heap.objs.size
 By:∀b o,X.base.get? b=some o->b∉X.ex
 zJ:∀b∈X.ex,b∉X.fs
 mK:X.s₀.heap.FunFrames X.base X.outer
 Hn:∀b∈X.fs,X.H₀ b=none
structure Inv (X:Cx)(ai:List (Addr×Obj))(σ:List (Option V))(H:Hp)(s:Shared):Prop where
 ok:X.Ok
 os:s.os=X.s₀.os
 bare:AllBare s.gens
 base:Un X.fs X.ex X.H₀ H X.s₀.heap s.heap
 loc:∃m,s.heap.Ns X.env.locals m/\∀(i:Nat)(x:Str)(v:V),X.N[i]?=some x->σ[i]?=some (some v)->Qy X.env.scope x->∃u,RelV v u/\Look X.env s.heap m x u
 cell:∀x c,X.env.cells.lookup x=some c->∃v,s.heap.IsCell c v
 free:H X.env.locals=none
 iW:∀x c,X.env.cells.lookup x=some c->H c=none
 pin:∀p∈X.pn++ai,s.heap.get? p.1=some p.2/\H p.1=none/\p.1≠X.env.locals/\p.1∉X.fs/\∀v,p.2.data≠.cell v
 bD:j8 X.prog X.w H s.heap
 len:σ.length=X.N.length
section
variable {X:Cx}{ai:List (Addr×Obj)}{σ:List (Option V)}{H H':Hp}{s:Shared}{h':Heap}
def Cx.Ok.RJ (ok:X.Ok){b:Addr}{o:Obj}(e:X.base.get? b=some o):b∉X.fs:=λhb=>by
 have:=(ok.mK.mem hb).1;rw [e] at this;cases this
theorem Inv.bs (I:Inv X ai σ H s):∀b o,X.base.get? b=some o->s.heap.get? b=some o/\H b=none:=λb o e =>
 ⟨I.base.keep b o (I.ok.bs b o e).1 (I.ok.bs b o e).2 (I.ok.RJ e) (I.ok.By b o e),I.base.free b o (I.ok.bs b o e).1 (I.ok.bs b o e).2 (I.ok.By b o e)⟩
def Inv.bk (I:Inv X ai σ H s):∀b o,X.base.get? b=some o->s.heap.get? b=some o:=λb o e=>(I.bs b o e).1
theorem Inv.mod (I:Inv X ai σ H s):Mod X.K X.mg X.base:=I.ok.mod
def Inv.jX (I:Inv X ai σ H s):X.K.In s.heap:=I.ok.mod.Kn.keeps I.bk
theorem Inv.nolimit (I:Inv X ai σ H s):s.heap.NoLimit:=I.ok.mod.nolimit.keeps I.bk
def Inv.fr (I:Inv X ai σ H s):∃m,Fr X.base X.env.locals s.heap m :=
 let ⟨m,hn,_⟩:=I.loc
 ⟨m,hn,I.bk,df I.ok.E_ I.ok.above⟩
theorem Inv.lt (I:Inv X ai σ H s):X.env.locals < s.heap.objs.size:=let ⟨_,hn,_⟩:=I.loc;hn.lt
def Inv.sz (I:Inv X ai σ H s):X.s₀.heap.objs.size<=s.heap.objs.size:=df I.ok.above (jy I.lt)
def Inv.RI (I:Inv X ai σ H s){a:Addr}(h:s.heap.objs.size<=a):a∉X.fs:=λhb=>by
 obtain⟨_,o,ho,_⟩:=I.ok.mK.mem hb;exact absurd (dJ (aS ho) (df I.sz h)) (jv _)
def Inv.IK (I:Inv X ai σ H s):∀x c,X.env.cells.lookup x=some c->c≠X.env.locals:=λx c e z=>by
 obtain⟨v,o,ho,hd⟩:=I.cell x c e;obtain⟨m,⟨o',es,ep,He,BY,_⟩,_⟩:=I.loc;rw [z,He] at ho;cases ho;rw [BY] at hd;cases hd
theorem Inv.mK (I:Inv X ai σ H s):s.heap.FunFrames X.base X.outer:=by
 have all:∀(l:List Env),(∀b∈pC l,b∈X.fs)->X.s₀.heap.FunFrames X.base l->s.heap.FunFrames X.base l:=by
  intro l
  induction l with
  | nil=>intro _ _;trivial
  | cons env r ih =>
   intro hs hl;obtain⟨hk,⟨L,o,hf,hn,ho,hd⟩,hr⟩:=hl;have hL:L∈X.fs:=hs L (by unfold pC;rw [List.filterMap_cons,hf];exact bT);obtain⟨sl,e⟩:=I.base.slot L o ho (I.ok.Hn L hL) hL λz=>I.ok.zJ L z hL;exact⟨hk,⟨L,_,hf,hn,e,hd⟩,ih (λb hb=>hs b (by unfold pC;rw [List.filterMap_cons,hf];exact cM _ hb)) hr⟩
 exact all X.outer (λ_ hb=>hb) I.ok.mK
theorem Inv.stack (I:Inv X ai σ H s):s.heap.FunFrames X.base X.stack:=by
 rcases I.ok.HQ with e | ⟨e,hf⟩
 .rw [e];exact I.mK
 rw [e];obtain⟨m,hn,_⟩:=I.loc;refine .cons (by rw [I.ok.kind];decide) hf hn ?_ I.mK;exact uk (df I.ok.E_ I.ok.above)
def Inv.uM (I:Inv X ai σ H s):∀b∈pC X.stack,b∈X.env.locals::X.fs:=λb hb=>by
 rcases I.ok.HQ with e | ⟨e,hf⟩
 .rw [e] at hb;exact cM _ hb
 rw [e] at hb;unfold pC at hb;rw [List.filterMap_cons,hf] at hb;exact hb
def Inv.pK (I:Inv X ai σ H s):∀b∈pC X.stack,H b=none:=λb hb=>by
 rcases aT.mp (I.uM b hb) with e | hb
 .rw [e];exact I.free
 obtain⟨_,o,ho,_⟩:=I.ok.mK.mem hb;exact I.base.free b o ho (I.ok.Hn b hb) λz=>I.ok.zJ b z hb
def Inv.step {g':Array GenState}{t':Nat}{d':Drawn}{ch:List Addr}(I:Inv X ai σ H s)
  (FN:∀b∈ch,(b∈X.ex\/X.s₀.heap.objs.size<=b)/\b≠X.env.locals/\(∀x c,X.env.cells.lookup x=some c->c≠b)/\∀p∈X.pn++ai,p.1≠b)
  (keep:∀b o,b≠X.env.locals->b∉X.fs->b∉ch->s.heap.get? b=some o->H b=none->h'.get? b=some o)
  (slot:∀b o,b≠X.env.locals->b∈X.fs->b∉ch->s.heap.get? b=some o->H b=none->∃sl,h'.get? b=some { o with slots:=sl })(free:∀b o,b∉ch->s.heap.get? b=some o->H b=none->H' b=none)
  (there:∀b o,b∉ch->s.heap.get? b=some o->∃o',h'.get? b=some o')
  (kK:∀b xs,H b=some (.tup xs)->H' b=some (.tup xs))(jO:∀b o u,H b=some (.ju o u)->H' b=some (.ju o u))(j5:∀b ps,H b=some (.rO ps)->∃more,H' b=some (.rO (ps++more)))
  (ns:∀m,s.heap.Ns X.env.locals m->h'.Ns X.env.locals m)(bD:j8 X.prog X.w H' h')(hg:AllBare g') :
  Inv X ai σ H' { s with heap:=h',gens:=g',drawn:=d',toks:=t' }:=by
 have VT:∀b o,X.s₀.heap.get? b=some o->b≠X.env.locals:=λb o e=>bx (dJ (aS e) I.ok.above);have LU:∀b o,X.s₀.heap.get? b=some o->b∉X.ex->b∉ch:=λb o e hx hb=>by
  rcases (FN b hb).1 with z | z
  .exact hx z
  exact absurd (dJ (aS e) z) (jv _)
 have cellK:∀x c,X.env.cells.lookup x=some c->∀v,s.heap.IsCell c v->h'.IsCell c v:=λx c e v ⟨o,ho,hd⟩=>by
  have Nt:c∉ch:=λz=>(FN c z).2.2.1 x c e rfl;by_cases hc:c∈X.fs
  .obtain⟨sl,q⟩:=slot c o (I.IK x c e) hc Nt ho (I.iW x c e);exact⟨_,q,hd⟩
  exact⟨o,keep c o (I.IK x c e) hc Nt ho (I.iW x c e),hd⟩
 refine⟨I.ok,I.os,hg,⟨λb o e n hb hx=>?_,λb o e n hb hx=>?_,λb o e n hx=>?_,λb o e hx=>?_,λb xs e=>kK b xs (I.base.kK b xs e),λb o xs e=>jO b o xs (I.base.jO b o xs e),λb ps e=>?_⟩,?_,λx c e=>?_,?_,λx c e=>?_,λp hp=>?_,bD,I.len⟩
 .exact keep b o (VT b o e) hb (LU b o e hx) (I.base.keep b o e n hb hx) (I.base.free b o e n hx)
 .obtain⟨sl,e1⟩:=I.base.slot b o e n hb hx;obtain⟨Q7,e2⟩:=slot b _ (VT b o e) hb (LU b o e hx) e1 (I.base.free b o e n hx);exact⟨Q7,e2⟩
 .obtain⟨o',e1⟩:=I.base.there b o e hx;exact free b o' (LU b o e hx) e1 (I.base.free b o e n hx)
 .obtain⟨o',e1⟩:=I.base.there b o e hx;exact there b o' (LU b o e hx) e1
 .obtain⟨m1,e1⟩:=I.base.j5 b ps e;obtain⟨m2,e2⟩:=j5 b _ e1;exact⟨m1++m2,by rw [e2,Array.append_assoc]⟩
 .obtain⟨m,hn,hl⟩:=I.loc;refine⟨m,ns m hn,λi x v e1 e2 e3=>?_⟩;obtain⟨u,r,l⟩:=hl i x v e1 e2 e3;refine⟨u,r,?_⟩;rcases l with l | ⟨k,c,e,z⟩
  .exact .inl l
  exact .inr ⟨k,c,e,cellK x c e _ z⟩
 .obtain⟨v,z⟩:=I.cell x c e;exact⟨v,cellK x c e v z⟩
 .obtain⟨m,⟨o,_,_,ho,_⟩,_⟩:=I.loc;exact free _ o (λz=>(FN _ z).2.1 rfl) ho I.free
 .obtain⟨v,o,ho,hd⟩:=I.cell x c e;exact free c o (λz=>(FN c z).2.2.1 x c e rfl) ho (I.iW x c e)
 obtain⟨e,n,ne,nf,d⟩:=I.pin p hp;have Nt:p.1∉ch:=λz=>(FN p.1 z).2.2.2 p hp rfl;exact⟨keep p.1 p.2 ne nf Nt e n,free p.1 p.2 Nt e n,ne,nf,d⟩
def Inv.un {t':Nat}(I:Inv X ai σ H s)(u:Un X.fs [] H H' s.heap h')(bD:j8 X.prog X.w H' h'):Inv X ai σ H' { s with heap:=h',toks:=t' }:=by
 obtain⟨m,⟨o,es,ep,ho,r⟩,_⟩:=id I.loc;obtain⟨sl,hL⟩:=u.any ho I.free (by simp);exact I.step (g':=s.gens) (d':=s.drawn) (ch:=[]) (λ_ z=>nomatch z) (λb o _ hb _ e n=>u.keep b o e n hb (by simp)) (λb o _ hb _ e n=>u.slot b o e n hb (by simp)) (λb o _ e n=>u.free b o e n (by simp)) (λb o _ e=>u.there b o e (by simp)) u.kK u.jO u.j5 (λm' hm=>by
  obtain⟨o',Qi,Ue,He,r'⟩:=hm;rw [ho] at He;cases He;exact⟨_,Qi,Ue,hL,r'⟩) bD I.bare
def Inv.call {g':Array GenState}{t':Nat}{d':Drawn}{ch:List Addr}(I:Inv X ai σ H s)(u:Un (pC X.stack) ch H H' s.heap h')(bD:j8 X.prog X.w H' h')(hg:AllBare g')
  (FN:∀b∈ch,(b∈X.ex\/X.s₀.heap.objs.size<=b)/\b≠X.env.locals/\(∀x c,X.env.cells.lookup x=some c->c≠b)/\∀p∈X.pn++ai,p.1≠b) :
  Inv X ai σ H' { s with heap:=h',gens:=g',drawn:=d',toks:=t' }:=by
 obtain⟨m,⟨o,es,ep,ho,r⟩,_⟩:=id I.loc;obtain⟨sl,hL⟩:=u.any ho I.free λz=>(FN _ z).2.1 rfl;exact I.step (ch:=ch) FN (λb o hL hb hc e n=>u.keep b o e n (λz=>(aT.mp (I.uM b z)).elim hL hb) hc) (λb o _ _ hc e n=>u.any e n hc) (λb o hc e n=>u.free b o e n hc) (λb o hc e=>u.there b o e hc) u.kK u.jO u.j5 (λm' hm=>by
  obtain⟨o',Qi,Ue,He,r'⟩:=hm;rw [ho] at He;cases He;exact⟨_,Qi,Ue,hL,r'⟩) bD hg
def Inv.turned {t':Nat}{it:Addr}(I:Inv X ai σ H s)(k:∀b o,b≠it->s.heap.get? b=some o->h'.get? b=some o)(hn:H it=none)(hL:it≠X.env.locals)
  (h1:it∈X.ex\/X.s₀.heap.objs.size<=it)(h2:∀x c,X.env.cells.lookup x=some c->c≠it)(h3:∀p∈X.pn++ai,p.1≠it):Inv X ai σ H { s with heap:=h',toks:=t' }:=by
 have VS:∀b u,H b=some u->b≠it:=λb u e z=>by rw [z,hn] at e;cases e
 refine I.step (g':=s.gens) (d':=s.drawn) (ch:=[it]) (λb hb=>?_) (λb o _ _ hc e _=>k b o (λz=>hc (by simp [z])) e) (λb o _ _ hc e _=>⟨o.slots,k b o (λz=>hc (by simp [z])) e⟩) (λ_ _ _ _ n=>n)
  (λb o hc e=>⟨o,k b o (λz=>hc (by simp [z])) e⟩) (λ_ _ e=>e) (λ_ _ _ e=>e) (λb ps e=>⟨#[],by rw [e];simp⟩) (λm hm=>?_) (λb u e=>?_) I.bare
 .have e:b=it:=by simpa using hb
  subst e;exact⟨h1,hL,h2,h3⟩
 .obtain⟨o,es,ep,ho,r⟩:=hm;exact⟨o,es,ep,k _ o (cZ hL) ho,r⟩
 refine(I.bD b u e).hV (λc v hc q=>k c v ?_ q) (λ_ q=>q) λ_ _ q=>q;rcases hc with z | z
 .rw [z];exact VS b u e
 exact VS c _ z
def Inv.tok (I:Inv X ai σ H s) (t:Nat):Inv X ai σ H { s with toks:=t }:=I.un (h':=s.heap) (t':=t) Un.refl I.bD
theorem Inv.kept {t':Nat}(I:Inv X ai σ H s)(k:∀b u,s.heap.get? b=some u->h'.get? b=some u):Inv X ai σ H { s with heap:=h',toks:=t' }:=I.un (Un.kept k) (I.bD.kept k)
theorem Inv.laid {a:Addr}{o:HO}{t':Nat}(I:Inv X ai σ H s)(k:∀b u,s.heap.get? b=some u->h'.get? b=some u)(hp:s.heap.objs.size<=a)(new:bU X.prog X.w (upd H a o) h' a o) :
  Inv X ai σ (upd H a o) { s with heap:=h',toks:=t' }:=I.un (Un.laid k hp (I.bD.fresh hp)) (I.bD.laid k hp new)
theorem Inv.write {x e:Addr}{o:HO}{t':Nat}(I:Inv X ai σ H s)(mu:Pd (H x))(he:e=x\/H e=some (.own x))(k:∀b u,b≠e->s.heap.get? b=some u->h'.get? b=some u)(L0:∃u,h'.get? e=some u)
  (new:bU X.prog X.w (upd H x o) h' x o):Inv X ai σ (upd H x o) { s with heap:=h',toks:=t' }:=I.un (Un.write mu he k L0) (I.bD.write mu he k L0 new)
def Inv.Ay {jo:List (Addr×Obj)}(I:Inv X ai σ H s)(h:∀p∈jo,s.heap.get? p.1=some p.2/\H p.1=none/\p.1≠X.env.locals/\p.1∉X.fs/\∀v,p.2.data≠.cell v):Inv X jo σ H s :=
 ⟨I.ok,I.os,I.bare,I.base,I.loc,I.cell,I.free,I.iW,λp hp=>(cN.mp hp).elim (λz=>I.pin p (oO _ z)) (h p),I.bD,I.len⟩
def qK {N:List Str}(hN:N.Nodup){i j:Nat}{x:Str}(a:N[i]?=some x)(b:N[j]?=some x):i=j:=by
 obtain⟨h1,e1⟩:=bR.mp a;obtain⟨h2,e2⟩:=bR.mp b;exact(uc hN).mp (e1.trans e2.symm)
def sM {M:Model}{A:Around}{E:Value->Shared->Prop}{i:Nat}{x:Str}{v:V}{u:Value}{Q:Unit->Shared->Prop}(I:Inv X ai σ H s)(hN:X.N.Nodup)(hi:X.N[i]?=some x)(hx:Loc X.env.scope x)(r:RelV v u)
  (h:∀s',Inv X ai (σ.set i (some v)) H s'->(∃a,Heap.SameBut a s.heap s'.heap/\(a=X.env.locals\/X.env.cells.lookup x=some a))->Q () s')(hf:X.fn x=true\/X.env.scope.names.lookup x=some .local:=by first | exact .inl rfl | exact .inr rfl | assumption):wpAny M A (storeName X.env x u) Q E s:=by
 obtain⟨m,hn,hl⟩:=id I.loc;have Tv:(X.env.scope.kind == .class || (X.env.scope.kind == .module && X.env.locals != X.env.globals))=false:=by rw [I.ok.kind];rfl
 have Wv:i < σ.length:=by rw [I.len];exact(bR.mp hi).1
 have IK:=I.IK;have tracked:∀{a:Addr}{h':Heap},(∃o,s.heap.get? a=some o/\H a=none)->Heap.SameBut a s.heap h'->j8 X.prog X.w H h':=λ{a h'} ha hs b ob e=>by
  obtain⟨_,_,mF⟩:=ha;refine(I.bD b ob e).hV (λc w' hc q=>(hs.2 c ?_).trans q) (λ_ q=>q) λ_ _ q=>q;rintro rfl;rcases hc with rfl | hc
  .rw [mF] at e;cases e
  rw [mF] at hc;cases hc
 rcases hx with hk | hk
 .refine wpAny_storeName_local hk hn (λh' KH hs=>?_) Tv;obtain⟨oL,_,_,hoL,_⟩:=id hn;refine h _ ⟨I.ok,I.os,I.bare,⟨λb o e n hb hx=>?_,λb o e n hb hx=>?_,I.base.free,λb o e hx=>?_,I.base.kK,I.base.jO,I.base.j5⟩,⟨_,KH,λj y v' e1 e2 e3=>?_⟩,λy c e=>?_,I.free,I.iW,λp hp=>?_,tracked ⟨oL,hoL,I.free⟩ hs,by simpa using I.len⟩ ⟨_,hs,.inl rfl⟩
  .exact(hs.2 b (bx (dJ (aS e) I.ok.above))).trans (I.base.keep b o e n hb hx)
  .obtain⟨sl,e1⟩:=I.base.slot b o e n hb hx;exact⟨sl,(hs.2 b (bx (dJ (aS e) I.ok.above))).trans e1⟩
  .obtain⟨o',e1⟩:=I.base.there b o e hx;exact⟨o',(hs.2 b (bx (dJ (aS e) I.ok.above))).trans e1⟩
  .by_cases hj:j=i
   .subst hj;rw [hi] at e1;cases e1;rw [uA Wv] at e2;cases e2;exact⟨u,r,.inl ⟨hk,by simp⟩⟩
   rw [List.getElem?_set_ne (cZ hj)] at e2;obtain⟨u',r',q⟩:=hl j y v' e1 e2 e3;refine⟨u',r',?_⟩;rcases q with ⟨k,e⟩ | ⟨k,c,e,z⟩
   .refine .inl ⟨k,?_⟩;have:y≠x:=λe=>hj (qK hN e1 (e ▸ hi));simp [this,e]
   exact .inr ⟨k,c,e,z.sameBut hs (IK y c e)⟩
  .obtain⟨w',z⟩:=I.cell y c e;exact⟨w',z.sameBut hs (IK y c e)⟩
  obtain⟨e,n,ne,nf,d⟩:=I.pin p hp;exact⟨(hs.2 p.1 ne).trans e,n,ne,nf,d⟩
 have Tf:X.fn x=true:=by
  rcases hf with z | z
  .exact z
  rw [z] at hk;cases hk
 obtain⟨c,hc⟩:=I.ok.has x (.inl hk);obtain⟨w',z⟩:=I.cell x c hc;refine wpAny_storeName_cell I.ok.kind hk hc z (λh' jq hs=>?_);obtain⟨oc,xZ,SQ⟩:=id z;refine h { s with heap:=h' } ⟨I.ok,I.os,I.bare,⟨λb o e n hb hx=>?_,λb o e n hb hx=>?_,I.base.free,λb o e hx=>?_,I.base.kK,I.base.jO,I.base.j5⟩,⟨m,hn.sameBut hs (cZ (IK x c hc)),λj y v' e1 e2 e3=>?_⟩,λy c' e=>?_,I.free,I.iW,λp hp=>?_,tracked ⟨oc,xZ,I.iW x c hc⟩ hs,by simpa using I.len⟩ ⟨c,hs,.inr hc⟩
 .exact(hs.2 b (bx (dJ (aS e) (I.ok.Mo x c Tf hc)))).trans (I.base.keep b o e n hb hx)
 .obtain⟨sl,e1⟩:=I.base.slot b o e n hb hx;exact⟨sl,(hs.2 b (bx (dJ (aS e) (I.ok.Mo x c Tf hc)))).trans e1⟩
 .obtain⟨o',e1⟩:=I.base.there b o e hx;exact⟨o',(hs.2 b (bx (dJ (aS e) (I.ok.Mo x c Tf hc)))).trans e1⟩
 .by_cases hj:j=i
  .subst hj;rw [hi] at e1;cases e1;rw [uA Wv] at e2;cases e2;exact⟨u,r,.inr ⟨.inl hk,c,hc,jq⟩⟩
  rw [List.getElem?_set_ne (cZ hj)] at e2;obtain⟨u',r',q⟩:=hl j y v' e1 e2 e3;refine⟨u',r',?_⟩;rcases q with q | ⟨k,c',e,z'⟩
  .exact .inl q
  refine .inr ⟨k,c',e,z'.sameBut hs ?_⟩;rintro rfl;exact hj (qK hN e1 (I.ok.inj _ _ _ e hc ▸ hi))
 .by_cases WE:c'=c
  .subst WE;exact⟨_,jq⟩
  obtain⟨w2,z2⟩:=I.cell y c' e;exact⟨w2,z2.sameBut hs WE⟩
 obtain⟨e,n,ne,nf,d⟩:=I.pin p hp;refine⟨(hs.2 p.1 ?_).trans e,n,ne,nf,d⟩;intro q;rw [q,xZ] at e;have q':oc=p.2:=ib e;exact d w' (by rw [<-q'];exact SQ)
def jC {M:Model}{A:Around}{E:Value->Shared->Prop}{i:Nat}{x:Str}{v:V}{u:Value}{Q:Unit->Shared->Prop}(I:Inv X ai σ H s)(hN:X.N.Nodup)(hi:X.N[i]?=some x)(hx:Loc X.env.scope x)(r:RelV v u)
  (h:∀s',Inv X ai (σ.set i (some v)) H s'->Q () s')(hf:X.fn x=true\/X.env.scope.names.lookup x=some .local:=by first | exact .inl rfl | exact .inr rfl | assumption):wpAny M A (storeName X.env x u) Q E s :=
 sM I hN hi hx r (λs' I' _=>h s' I') hf
def Inv.E8 {s':Shared}{ch:List Addr}(I:Inv X ai σ H s)(ho:s'.os=s.os)(u:Un (pC X.stack) ch H H' s.heap s'.heap)(bD:j8 X.prog X.w H' s'.heap)(hg:AllBare s'.gens)
  (FN:∀b∈ch,(b∈X.ex\/X.s₀.heap.objs.size<=b)/\b≠X.env.locals/\(∀x c,X.env.cells.lookup x=some c->c≠b)/\∀p∈X.pn++ai,p.1≠b):Inv X ai σ H' s':=by
 obtain⟨h',g',d',t',o'⟩:=s';have e:o'=s.os:=ho;subst e;exact I.call (g':=g') (t':=t') (d':=d') u bD hg FN
end
abbrev XK:=Value->Option Addr->Hp->Prop
abbrev St:=List (Option V)
abbrev bG (a:Addr):Option V:=some (.ref a)
abbrev VK:=V->Hp->Prop
abbrev TE:=St->Hp->VK->Prop
abbrev TT:=St->Hp->(Bool->Hp->Prop)->Prop
abbrev TA:=St->Hp->(List V->Hp->Prop)->Prop
structure Ends where
 nx:St->Hp->Prop
 rt:VK
 bk:St->Hp->Prop:=λ_ _=>False
 ct:St->Hp->Prop:=λ_ _=>False
abbrev TS:=Ends->St->Hp->Prop
def EP (X:Cx)(ai:List (Addr×Obj))(σ:St)(Q:VK)(u:Value)(s':Shared):Prop:=∃v H',Inv X ai σ H' s'/\RelV v u/\Q v H'
def TP (X:Cx)(ai:List (Addr×Obj))(σ:St)(Q:Bool->Hp->Prop)(b:Bool)(s':Shared):Prop:=∃H',Inv X ai σ H' s'/\Q b H'
def AP (X:Cx)(ai:List (Addr×Obj))(σ:St)(Q:List V->Hp->Prop)(us:List Value)(s':Shared):Prop:=∃vs H',Inv X ai σ H' s'/\aU vs us/\Q vs H'
def SP (X:Cx)(ai:List (Addr×Obj))(D:Ends)(f:Flow)(s':Shared):Prop :=
 match f with
 | .next=>∃σ' H',Inv X ai σ' H' s'/\D.nx σ' H'
 | .brk=>∃σ' H',Inv X ai σ' H' s'/\D.bk σ' H'
 | .cont=>∃σ' H',Inv X ai σ' H' s'/\D.ct σ' H'
 | .ret u=>∃v σ' H',Inv X ai σ' H' s'/\RelV v u/\D.rt v H'
def PE (X:Cx)(e:Expr)(t:TE):Prop :=
 ∀(ai:List (Addr×Obj))(s:Shared)(σ:St)(H:Hp)(Q:VK),Inv X ai σ H s->t σ H Q->wpAny (model X.prog X.w) X.A (eval e X.env) (EP X ai σ Q) X.xe s
def PT (X:Cx)(e:Expr)(t:TT):Prop :=
 ∀(ai:List (Addr×Obj))(s:Shared)(σ:St)(H:Hp)(Q:Bool->Hp->Prop),Inv X ai σ H s->t σ H Q->wpAny (model X.prog X.w) X.A (isTrue e X.env (eval e X.env)) (TP X ai σ Q) X.xe s
def PW (X:Cx)(e:Expr)(t:TT):Prop :=
 ∀(whole:Sem Value)(ai:List (Addr×Obj))(s:Shared)(σ:St)(H:Hp)(Q:Bool->Hp->Prop),Inv X ai σ H s->t σ H Q->wpAny (model X.prog X.w) X.A (isTrue e X.env whole) (TP X ai σ Q) X.xe s
def PW.pt {X:Cx}{e:Expr}{t:TT}(h:PW X e t):PT X e t:=h _
def PA (X:Cx)(es:List Expr)(t:TA):Prop :=
 ∀(pos:Pos)(ai:List (Addr×Obj))(s:Shared)(σ:St)(H:Hp)(Q:List V->Hp->Prop),Inv X ai σ H s->t σ H Q->wpAny (model X.prog X.w) X.A (spliced (backTo pos (starEach es X.env))) (AP X ai σ Q) X.xe s
def PS (X:Cx)(st:Stmt)(t:TS):Prop :=
 ∀(ai:List (Addr×Obj))(s:Shared)(σ:St)(H:Hp)(D:Ends),Inv X ai σ H s->t D σ H->wpAny (model X.prog X.w) X.A (exec st X.env) (SP X ai D) X.xe s
def xK (X:Cx)(st:List Stmt)(t:TS):Prop :=
 ∀(ai:List (Addr×Obj))(s:Shared)(σ:St)(H:Hp)(D:Ends),Inv X ai σ H s->t D σ H->wpAny (model X.prog X.w) X.A (execs st X.env) (SP X ai D) X.xe s
def cx {α:Type}{t:Sem α}{Q Q':α->Shared->Prop}{M:Model}{A:Around}{E:Value->Shared->Prop}{s:Shared}(h:wpAny M A t Q E s)(hQ:∀a s,Q a s->Q' a s):wpAny M A t Q' E s:=cw h hQ λ_ _ x=>x
section
variable {X:Cx}
def bin {a b:Expr}{ta tb:TE}(ha:PE X a ta)(hb:PE X b tb){ai:List (Addr×Obj)}{s:Shared}{σ:St}{H:Hp}{R:V->V->Hp->Prop}(I:Inv X ai σ H s)(h:ta σ H λx H1=>tb σ H1 λy H2=>R x y H2)
  {α:Type}{Q:α->Shared->Prop}{f:Value->Value->Sem α}
  (hf:∀v u s2 x y H2,Inv X ai σ H2 s2->RelV x v->RelV y u->R x y H2->wpAny (model X.prog X.w) X.A (f v u) Q X.xe s2) :
  wpAny (model X.prog X.w) X.A (eval a X.env) (λv s₁=>wpAny (model X.prog X.w) X.A (eval b X.env) (λu s₂=>wpAny (model X.prog X.w) X.A (f v u) Q X.xe s₂) X.xe s₁) X.xe s:=by
 refine cx (ha ai s σ H _ I h) λv s1 aV=>?_;obtain⟨x,H1,I1,r1,q1⟩:=aV;refine cx (hb ai s1 σ H1 _ I1 q1) λu s2 aV=>?_;obtain⟨y,H2,I2,r2,q2⟩:=aV;exact hf v u s2 x y H2 I2 r1 r2 q2
inductive O4 (o:Option (Option V))(R:V->Prop):Prop
|mk(v:V)(e:o=some (some v))(q:R v)
inductive XB (x:V)(R:Bool->Prop):Prop
|mk(c:Bool)(e:x=.bl c)(q:R c)
inductive U3 (x:V)(R:Int->Prop):Prop
|mk(i:Int)(e:x=.int i)(q:R i)
inductive XA (x y:V)(R:Int->Int->Prop):Prop
|mk(i j:Int)(e:x=.int i)(e2:y=.int j)(q:R i j)
inductive Xz (x y:V)(C:Int->Int->Prop)(R:Int->Int->Prop):Prop
|mk(i j:Int)(e:x=.int i)(e2:y=.int j)(c:C i j)(q:R i j)
inductive IT (vs:List V)(R:V->List V->Prop):Prop
|mk(v:V)(r:List V)(e:vs=v::r)(q:R v r)
inductive O5 (v:V)(S:Addr->List V->Prop) (n:Nat)(R:List V->Prop):Prop
|mk(a:Addr)(xs:List V)(e:v=.ref a)(s:S a xs)(l:xs.length=n)(q:R xs)
inductive Qw (x:V)(S:Addr->Prop)(R:Addr->Prop):Prop
|mk(a:Addr)(e:x=.ref a)(s:S a)(q:R a)
inductive Xu (x:V)(S:Addr->List V->Prop)(R:List V->Prop):Prop
|mk(a:Addr)(xs:List V)(e:x=.ref a)(s:S a xs)(q:R xs)
inductive XH (S:Addr->List V->Prop)(x y:V)(R:List V->List V->Prop):Prop
|mk(a b:Addr)(xs ys:List V)(e:x=.ref a)(e2:y=.ref b)(s:S a xs)(s2:S b ys)(z:xs.length+ys.length<=sizeLine)(q:R xs ys)
inductive Xw (vs:List V)(R:Int->Prop):Prop
|mk(j:Int)(e:vs=[.int j])(l:-(2 ^ 62)<=j)(u:j < 2 ^ 62)(q:R j)
inductive Qx (vs:List V)(S:Addr->List V->Prop)(R:Addr->Prop):Prop
|mk(a:Addr)(xs:List V)(e:vs=[.ref a])(s:S a xs)(q:R a)
inductive Lx (xs:List V)(S:Addr->List V->Prop)(R:List V->Prop):Prop
|mk(p:Addr)(ys:List V)(e:xs=[.ref p])(s:S p ys)(q:R ys)
def fE (i:Nat):TE:=λσ H Q=>O4 σ[i]? λv=>Q v H
def tC (v:V):TE:=λ_ H Q=>Q v H
def JO {i:Nat}{x:Str}{pos:Pos}(hN:X.N[i]?=some x)(hv:Qy X.env.scope x)(hd:(x == ("__debug__":Str))=false:=by decide)(rX:(x == ("__classdict__":Str))=false:=by decide):PE X (.Name x pos) (fE i):=by
 intro ai s σ H Q I h;obtain⟨v,e,h⟩:=h;obtain⟨m,hn,hl⟩:=I.loc;obtain⟨u,r,l⟩:=hl i x v hN e hv;have fin:EP X ai σ Q u s:=⟨v,H,I,r,h⟩;rcases l with ⟨hk,hm⟩ | ⟨hk,c,hc,iV⟩
 .exact wpAny_Name (uo I.ok.kind hk hn hm fin) hd
 rcases hk with hk | hk
 .exact wpAny_Name (wpAny_loadName_cell I.ok.kind hk hc iV fin) hd
 exact wpAny_Name (wpAny_loadName_free I.ok.kind hk hc iV fin rX) hd
def ar {i j pos}:PE X (.Constant (.int i) j pos) (tC (.int i)):=λ_ _ _ H _ I h=>wpAny_Constant_int ⟨.int i,H,I.tok _,⟨_,rfl⟩,h⟩
def eP {b j pos}:PE X (.Constant (.bool b) j pos) (tC (.bl b)):=λ_ _ _ H _ I h=>Constant_bool ⟨.bl b,H,I,rfl,h⟩
def JP {j pos}:PE X (.Constant .none j pos) (tC .dP):=λ_ _ _ H _ I h=>Constant_none ⟨.dP,H,I,rfl,h⟩
def aF {x j pos}:PE X (.Constant (.str x) j pos) (tC (.str x)):=λ_ _ _ H _ I h=>Calls.Constant_str ⟨.str x,H,I.tok _,⟨_,rfl⟩,h⟩
def Gl (X:Cx)(x:Str):Prop:=X.env.kindOf x=some .globalImplicit
def jc {E:Value->Shared->Prop}{ai:List (Addr×Obj)}{s:Shared}{σ:St}{H:Hp}{x:Str}{u:Value}{pos:Pos}{Q:Value->Shared->Prop}(I:Inv X ai σ H s)(hg:Gl X x)(hm:X.mg x=some u)(h:Q u s)
  (hd:(x == ("__debug__":Str))=false:=by decide):wpAny (model X.prog X.w) X.A (eval (.Name x pos) X.env) Q E s :=
 Calls.Name_function_global I.ok.kind hg (Calls.loadGlobal_global (by rw [I.ok.glob];exact I.mod.glob.keeps I.bk) hm h) hd
def g8 {E:Value->Shared->Prop}{ai:List (Addr×Obj)}{s:Shared}{σ:St}{H:Hp}{x:Str}{u:Value}{pos:Pos}{Q:Value->Shared->Prop}(I:Inv X ai σ H s)(hg:Gl X x)(hm:X.mg x=none)(hv:bootBuiltins x=some u)(h:Q u s)
  (hn:x ≠ "__name__" := by decide)(hd:(x == ("__debug__":Str))=false:=by decide):wpAny (model X.prog X.w) X.A (eval (.Name x pos) X.env) Q E s:=by
 obtain⟨mb,h1,h2⟩:=I.mod.blt;exact Calls.Name_function_global I.ok.kind hg (Calls.loadGlobal_builtin (by rw [I.ok.glob];exact I.mod.glob.keeps I.bk) hm (by rw [I.ok.blt];exact h1.keeps I.bk) ((h2 x hn).trans hv) h) hd
def cQ {x:Str}{v:V}{u:Value}{pos:Pos}(hg:Gl X x)(hm:X.mg x=some u)(r:RelV v u)(hd:(x == ("__debug__":Str))=false:=by decide):PE X (.Name x pos) (tC v) :=
 λ_ _ _ H _ I h=>jc I hg hm ⟨v,H,I,r,h⟩ hd
def vb {x:Str}{v:V}{u:Value}{pos:Pos}(hg:Gl X x)(hm:X.mg x=none)(hv:bootBuiltins x=some u)(r:RelV v u)(hn:x ≠ "__name__" := by decide)(hd:(x == ("__debug__":Str))=false:=by decide):PE X (.Name x pos) (tC v) :=
 λ_ _ _ H _ I h=>g8 I hg hm hv ⟨v,H,I,r,h⟩ hn hd
variable {a b:Expr}{ta tb:TE}{pos:Pos}
def PC (X:Cx)(op:CmpOp)(a b:Expr)(t:TE):Prop :=
 ∀(ai:List (Addr×Obj))(s:Shared)(σ:St)(H:Hp)(Q:VK),Inv X ai σ H s->t σ H Q ->
  wpAny (model X.prog X.w) X.A (eval a X.env) (λv s₁=>wpAny (model X.prog X.w) X.A (eval b X.env) (λu s₂=>wpAny (model X.prog X.w) X.A (compareOp op v u) (EP X ai σ Q) X.xe s₂) X.xe s₁) X.xe s
def wK (b:Expr){op:CmpOp}(h:op≠.In)(h2:op≠.NotIn):behindInMarks op b=false:=by
 have e1:(op == CmpOp.In)=false:=by cases op <;> first | rfl | exact absurd rfl h
 have e2:(op == CmpOp.NotIn)=false:=by cases op <;> first | rfl | exact absurd rfl h2
 cases b <;> simp [behindInMarks,e1,e2]
def QW (ta:TE):TE:=λσ H Q=>ta σ H λx H1=>Q (.bl (decide (x=.dP))) H1
def RelV.Ed {x:V}{v:Value}(r:RelV x v):(v == Value.none)=decide (x=.dP):=by
 cases x with
 | dP=>cases r;rfl
 | bl _=>cases r;rfl
 | int _=>obtain⟨t,rfl⟩:=r;rfl
 | str _=>obtain⟨t,rfl⟩:=r;rfl
 | Ci _=>obtain⟨t,rfl⟩:=r;rfl
 | K_ _=>obtain⟨t,rfl⟩:=r;rfl
 | ref _=>cases r;rfl
 | ty _=>cases r;rfl
def JR {j pos'}(ha:PE X a ta):PC X .Is a (.Constant .none j pos') (QW ta):=by
 intro ai s σ H Q I h;refine cx (ha ai s σ H _ I h) λv s1 aV=>?_;obtain⟨x,H1,I1,r1,q1⟩:=aV;exact Constant_none (is_none_gen ⟨.bl _,H1,I1,by rw [r1.Ed];rfl,q1⟩)
def tB (t:TE):TT:=λσ H Q=>t σ H λx H1=>XB x λc=>Q c H1
def DG {op:CmpOp}{t:TE}(h:PC X op a b t)(h1:behindInMarks op b=false:=by first | exact wK _ nofun nofun | rfl):PE X (.Compare a [op] [b] pos) t:=λai s σ H Q I hw=>wpAny_Compare1 (h ai s σ H Q I hw) h1
def eI {op:CmpOp}{t:TE}(h:PC X op a b t)(h1:behindInMarks op b=false:=by first | exact wK _ nofun nofun | rfl):PT X (.Compare a [op] [b] pos) (tB t):=by
 intro ai s σ H Q I hw;refine wpAny_isTrue_Compare1 (cx (h ai s σ H _ I hw) λv s1 h1=>cx h1 λu s2 h2=>cx h2 λc s3 aV=>?_) h1;obtain⟨x,H1,I1,r1,q1⟩:=aV;obtain⟨d,rfl,q⟩:=q1;cases r1;exact oJ ⟨H1,I1,q⟩
def fc {e:Expr}{t:TE}(h:PE X e t)(he:∀whole,isTrue e X.env whole=(do let v <-whole;standAt e.pos;holding [v] (truthy v)):=by intro _;rfl):PT X e (tB t):=by
 intro ai s σ H Q I hw;refine isTrue_plain (cx (h ai s σ H _ I hw) λv s1 aV=>?_) (he _);obtain⟨x,H1,I1,r1,q1⟩:=aV;obtain⟨d,rfl,q⟩:=q1;cases r1;exact oJ ⟨H1,I1,q⟩
variable {tA Px:TT}{rest:List Expr}
def Q3 (t u:TT):TT:=λσ H Q=>t σ H λc H1=>if c=true then u σ H1 Q else Q false H1
def X7 (t u:TT):TT:=λσ H Q=>t σ H λc H1=>if c=true then Q true H1 else u σ H1 Q
def QU (t:TT):TT:=λσ H Q=>t σ H λc H1=>Q (!c) H1
def i9 (ha:PT X a tA):PW X (.BoolOp .And [a] pos) tA:=by
 intro wh ai s σ H Q I h;refine isTrue_and (cx (ha ai s σ H Q I h) λc s1 e=>?_);cases c with
 | true=>exact isTrue_and_nil e
 | false=>exact e
def Du (ha:PT X a tA):PW X (.BoolOp .Or [a] pos) tA:=by
 intro wh ai s σ H Q I h;refine isTrue_or (cx (ha ai s σ H Q I h) λc s1 e=>?_);cases c with
 | false=>exact isTrue_or_nil e
 | true=>exact e
def gZ (ha:PT X a tA)(hb:PW X (.BoolOp .And (b::rest) pos) Px):PW X (.BoolOp .And (a::b::rest) pos) (Q3 tA Px):=by
 intro wh ai s σ H Q I h;refine isTrue_and (cx (ha ai s σ H _ I h) λc s1 aV=>?_);obtain⟨H1,I1,q1⟩:=aV;cases c with
 | true=>exact hb wh ai s1 σ H1 Q I1 q1
 | false=>exact⟨H1,I1,q1⟩
def Ic (ha:PT X a tA)(hb:PW X (.BoolOp .Or (b::rest) pos) Px):PW X (.BoolOp .Or (a::b::rest) pos) (X7 tA Px):=by
 intro wh ai s σ H Q I h;refine isTrue_or (cx (ha ai s σ H _ I h) λc s1 aV=>?_);obtain⟨H1,I1,q1⟩:=aV;cases c with
 | true=>exact⟨H1,I1,q1⟩
 | false=>exact hb wh ai s1 σ H1 Q I1 q1
def jG (ha:PT X a tA):PT X (.UnaryOp .Not a pos) (QU tA):=by
 intro ai s σ H Q I h;exact isTrue_not (ha ai s σ H (λc H1=>Q (!c) H1) I h)
def MX (ta tb:TE):TE:=λσ H Q=>ta σ H λx H1=>XB x λc=>if c=true then tb σ H1 Q else Q (.bl false) H1
def MI (ta:TE):TE:=λσ H Q=>ta σ H λx H1=>XB x λc=>Q (.bl (!c)) H1
def jH {op}{t:TE}(h:PE X a t):PE X (.BoolOp op [a] pos) t:=λai s σ H Q I hw=>BoolOp_one (h ai s σ H Q I hw)
def g6 (ha:PE X a ta)(hb:PE X (.BoolOp .And (b::rest) pos) tb):PE X (.BoolOp .And (a::b::rest) pos) (MX ta tb):=by
 intro ai s σ H Q I h;refine BoolOp_and (cx (ha ai s σ H _ I h) λv s1 aV=>?_);obtain⟨x,H1,I1,r1,q1⟩:=aV;obtain⟨c,rfl,q1⟩:=q1;cases r1;refine oJ ?_;cases c with
 | true=>exact hb ai s1 σ H1 Q I1 q1
 | false=>exact⟨.bl false,H1,I1,rfl,q1⟩
def u_ (ha:PE X a ta):PE X (.UnaryOp .Not a pos) (MI ta):=by
 intro ai s σ H Q I h;refine UnaryOp_ (cx (ha ai s σ H _ I h) λv s1 aV=>?_);obtain⟨x,H1,I1,r1,q1⟩:=aV;obtain⟨c,rfl,q1⟩:=q1;cases r1;exact not_of (oJ ⟨.bl (!c),H1,I1,rfl,q1⟩)
def X9 (t:TT)(ta tb:TE):TE:=λσ H Q=>t σ H λc H1=>if c=true then ta σ H1 Q else tb σ H1 Q
def wC {c:Expr}(hc:PT X c tA)(ha:PE X a ta)(hb:PE X b tb):PE X (.IfExp c a b pos) (X9 tA ta tb):=by
 intro ai s σ H Q I h;refine wpAny_IfExp (cx (hc ai s σ H _ I h) λd s1 aV=>?_);obtain⟨H1,I1,q1⟩:=aV;cases d with
 | true=>exact ha ai s1 σ H1 Q I1 q1
 | false=>exact hb ai s1 σ H1 Q I1 q1
end
def aH (K:aY)(H:Hp)(a:Addr)(xs:List V):Prop :=
 Rd H a (.lst xs) \/
  ∃(o:Obj)(aO:Array Value) (n:Nat),K.lookup a=some o/\o.cls=.type "list" /\ o.dict=none/\o.data=.seq aO n/\aO.size<=sizeLine/\aU xs aO.toList
def bj (K:aY)(H:Hp)(a:Addr)(xs:List V):Prop :=
 Rd H a (.tup xs) \/
  ∃(o:Obj)(aO:Array Value) (n:Nat),K.lookup a=some o/\o.cls=.type "tuple" /\ o.data=.seq aO n/\aO.size<=sizeLine/\aU xs aO.toList
def UX:Value->Option V
 | .none=>some .dP
 | .bool b=>some (.bl b)
 | .int i _=>some (.int i)
 | .str x _=>some (.str x)
 | .bytes b _=>some (.Ci b)
 | .float b _=>some (.K_ b)
 | .ref a=>some (.ref a)
 | .type n=>some (.ty n)
 | _=>none
def RelV.abs {x:V}{u:Value}(r:RelV x u):UX u=some x:=by
 cases x with
 | dP=>cases r;rfl
 | bl _=>cases r;rfl
 | int _=>obtain⟨t,rfl⟩:=r;rfl
 | str _=>obtain⟨t,rfl⟩:=r;rfl
 | Ci _=>obtain⟨t,rfl⟩:=r;rfl
 | K_ _=>obtain⟨t,rfl⟩:=r;rfl
 | ref _=>cases r;rfl
 | ty _=>cases r;rfl
def RelV.inj {x y:V}{u:Value}(r:RelV x u)(q:RelV y u):x=y:=ib (r.abs.symm.trans q.abs)
theorem aU.inj:∀{xs ys:List V}{us:List Value},aU xs us->aU ys us->xs=ys
 | _,_,_,.nil,.nil=>rfl
 | _,_,_,.cons r t,.cons r' t'=>by rw [r.inj r',aU.inj t t']
section
variable {X:Cx}{ai:List (Addr×Obj)}{σ:St}{H:Hp}{s:Shared}{a:Addr}{xs ys:List V}
def aH.of {K:aY}(h:H a=some (.lst xs)):aH K H a xs:=.inl (.inl h)
def bj.of {K:aY}(h:H a=some (.tup xs)):bj K H a xs:=.inl (.inl h)
def Inv.list (I:Inv X ai σ H s)(h:aH X.K H a xs):∃aO:List Value,aU xs aO/\PlainL s.heap a aO.toArray/\xs.length<=sizeLine:=by
 rcases h with h | ⟨o,aO,n,hk,hc,hd,hs,hz,r⟩
 .obtain⟨z,aO,n,r,e⟩:=h.ok I.bD;exact⟨aO,r,⟨_,n,e,rfl,rfl,rfl⟩,z⟩
 refine⟨aO.toList,r,⟨o,n,I.jX a o hk,hc,hd,by simpa using hs⟩,?_⟩;have e:=r.length;simp only [uq] at e;omega
def Inv.tuple (I:Inv X ai σ H s)(h:bj X.K H a xs):∃aO:List Value,aU xs aO/\IsTup s.heap a aO.toArray/\xs.length<=sizeLine:=by
 rcases h with h | ⟨o,aO,n,hk,hc,hs,hz,r⟩
 .obtain⟨z,aO,r,p⟩:=h.ok I.bD;exact⟨aO,r,p,z⟩
 refine⟨aO.toList,r,⟨o,I.jX a o hk,hc,n,by simpa using hs⟩,?_⟩;have e:=r.length;simp only [uq] at e;omega
def Inv.mw (I:Inv X ai σ H s)(h:aH X.K H a xs)(h':aH X.K H a ys):xs=ys:=by
 obtain⟨aO,r,⟨o,n,e,_,_,d⟩,_⟩:=I.list h;obtain⟨kY,r',⟨o',n',e',_,_,d'⟩,_⟩:=I.list h';rw [e] at e';cases e';rw [d] at d';injection d' with d1 _;have:aO=kY:=by simpa using congrArg Array.toList d1
 subst this;exact r.inj r'
def Inv.sI (I:Inv X ai σ H s)(h:bj X.K H a xs)(h':bj X.K H a ys):xs=ys:=by
 obtain⟨aO,r,⟨o,e,_,n,d⟩,_⟩:=I.tuple h;obtain⟨kY,r',⟨o',e',_,n',d'⟩,_⟩:=I.tuple h';rw [e] at e';cases e';rw [d] at d';injection d' with d1 _;have:aO=kY:=by simpa using congrArg Array.toList d1
 subst this;exact r.inj r'
end
abbrev Cx.pd (X:Cx)(E:Value->Shared->Prop):Cx:={ X with xe:=E }
abbrev Cx.Bw (X:Cx):Cx:=X.pd λ_ _=>False
theorem Cx.Ok.pd {X:Cx}(ok:X.Ok)(E:Value->Shared->Prop):(X.pd E).Ok :=
 ⟨ok.mod,ok.kind,ok.glob,ok.blt,ok.above,ok.inj,ok.has,ok.Mo,ok.hd,ok.frames,ok.HQ,ok.La,ok.bs,ok.E_,ok.By,ok.zJ,ok.mK,ok.Hn⟩
def Cx.Ok.iA {X:Cx}{E:Value->Shared->Prop}(ok:(X.pd E).Ok):X.Ok :=
 ⟨ok.mod,ok.kind,ok.glob,ok.blt,ok.above,ok.inj,ok.has,ok.Mo,ok.hd,ok.frames,ok.HQ,ok.La,ok.bs,ok.E_,ok.By,ok.zJ,ok.mK,ok.Hn⟩
section
variable {X:Cx}{ai:List (Addr×Obj)}{σ:St}{H:Hp}{s:Shared}{E:Value->Shared->Prop}
theorem Inv.pd (I:Inv X ai σ H s)(E:Value->Shared->Prop):Inv (X.pd E) ai σ H s:=⟨I.ok.pd E,I.os,I.bare,I.base,I.loc,I.cell,I.free,I.iW,I.pin,I.bD,I.len⟩
theorem Inv.iA (I:Inv (X.pd E) ai σ H s):Inv X ai σ H s:=⟨I.ok.iA,I.os,I.bare,I.base,I.loc,I.cell,I.free,I.iW,I.pin,I.bD,I.len⟩
theorem SP.iA {D:Ends}{f:Flow}{s':Shared}(h:SP (X.pd E) ai D f s'):SP X ai D f s':=by
 cases f with
 | next=>obtain⟨σ',H',I,q⟩:=h;exact⟨σ',H',I.iA,q⟩
 | brk=>obtain⟨σ',H',I,q⟩:=h;exact⟨σ',H',I.iA,q⟩
 | cont=>obtain⟨σ',H',I,q⟩:=h;exact⟨σ',H',I.iA,q⟩
 | ret u=>obtain⟨v,σ',H',I,r,q⟩:=h;exact⟨v,σ',H',I.iA,r,q⟩
theorem PE.Bw {e:Expr}{t:TE}(h:PE X.Bw e t):PE X e t:=λai s σ H Q I hw =>
 cw (h ai s σ H Q (I.pd _) hw) (λ_ _ ⟨v,H',I',r,q⟩=>⟨v,H',I'.iA,r,q⟩) λ_ _ z=>False.elim z
theorem PT.Bw {e:Expr}{t:TT}(h:PT X.Bw e t):PT X e t:=λai s σ H Q I hw =>
 cw (h ai s σ H Q (I.pd _) hw) (λ_ _ ⟨H',I',q⟩=>⟨H',I'.iA,q⟩) λ_ _ z=>False.elim z
theorem xK.Bw {st:List Stmt}{t:TS}(h:xK X.Bw st t):xK X st t:=λai s σ H D I hw =>
 cw (h ai s σ H D (I.pd _) hw) (λ_ _ q=>q.iA) λ_ _ z=>False.elim z
end
section
variable {X:Cx}{st:Stmt}{rest:List Stmt}{t u:TS}{e:Expr}{te:TE}{pos:Pos}
def MJ:TS:=λD σ H=>D.nx σ H
def Jn (t u:TS):TS:=λD σ H=>t { D with nx:=u D } σ H
def aZ:xK X [] MJ:=λ_ _ σ H _ I h=>nr ⟨σ,H,I,h⟩
def ao (h1:PS X st t)(h2:xK X rest u):xK X (st::rest) (Jn t u):=by
 intro ai s σ H D I h;refine wpAny_execs_cons (cx (h1 ai s σ H { D with nx:=u D } I h) λf s1 q=>?_);cases f with
 | next =>
  obtain⟨σ',H',I',q⟩:=q;exact h2 ai s1 σ' H' D I' q
 | ret v=>exact q
 | brk=>exact q
 | cont=>exact q
def au (h1:PS X st t):xK X [st] t:=by
 intro ai s σ H D I h;refine wpAny_execs_cons (cx (h1 ai s σ H D I h) λf s1 q=>?_);cases f with
 | next=>exact nr q
 | ret v=>exact q
 | brk=>exact q
 | cont=>exact q
def Jr:TS:=λD σ H=>D.bk σ H
def Dw:PS X (.Break pos) Jr:=λ_ _ σ H _ I h=>wpAny_Break ⟨σ,H,I,h⟩
def Inv.quiet {ai:List (Addr×Obj)}{σ:St}{H:Hp}{s:Shared}(I:Inv X ai σ H s):interactive X.env=false:=by simp [interactive,I.ok.kind]
def MR (te:TE):TS:=λD σ H=>te σ H λ_ H1=>D.nx σ H1
def cv (he:PE X e te)(hs:swapsWith e none pos.line X.env=pure false:=by rfl):PS X (.Expr e pos) (MR te):=by
 intro ai s σ H D I h;refine wpAny_Expr_any (cx (he ai s σ H _ I h) λv s1 aV=>?_) I.quiet hs;obtain⟨x,H1,I1,r1,q1⟩:=aV;exact⟨σ,H1,I1,q1⟩
def QT (te:TE):TS:=λD σ H=>te σ H D.rt
def aW (he:PE X e te):PS X (.Return (some e) pos) (QT te):=by
 intro ai s σ H D I h;refine wpAny_Return_some (cx (he ai s σ H _ I h) λv s1 aV=>?_);obtain⟨x,H1,I1,r1,q1⟩:=aV;exact⟨x,σ,H1,I1,r1,q1⟩
def QX (c:TT)(t u:TS):TS:=λD σ H=>c σ H λb H1=>if b=true then t D σ H1 else u D σ H1
def b9 {c:Expr}{a b:List Stmt}{tc:TT}(hc:PT X c tc)(ha:xK X a t)(hb:xK X b u):PS X (.If c a b pos) (QX tc t u):=by
 intro ai s σ H D I h;refine wpAny_If (cx (hc ai s σ H _ I h) λd s1 aV=>?_);obtain⟨H1,I1,q1⟩:=aV;cases d with
 | true=>exact ha ai s1 σ H1 D I1 q1
 | false=>exact hb ai s1 σ H1 D I1 q1
def Jo:TS:=λ_ _ _=>False
def d7:PS X st Jo:=λ_ _ _ _ _ _ h=>h.elim
end
abbrev TG:=V->St->Hp->(St->Hp->Prop)->Prop
abbrev IU:=List V->St->Hp->(St->Hp->Prop)->Prop
def PG (X:Cx)(target:Expr)(t:TG):Prop :=
 ∀(ai:List (Addr×Obj))(s:Shared)(σ:St)(H:Hp)(v:V)(u:Value)(Q:St->Hp->Prop),Inv X ai σ H s->RelV v u->t v σ H Q ->
  wpAny (model X.prog X.w) X.A (assign target X.env u) (λ_ s'=>∃σ' H',Inv X ai σ' H' s'/\Q σ' H') X.xe s
def O_ (X:Cx)(ts:List Expr)(t:IU):Prop :=
 ∀(ai:List (Addr×Obj))(s:Shared)(σ:St)(H:Hp)(vs:List V)(us:List Value)(Q:St->Hp->Prop),Inv X ai σ H s->aU vs us->t vs σ H Q ->
  wpAny (model X.prog X.w) X.A (assignInOrder ((assignEach ts X.env).map (·.2)) us) (λ_ s'=>∃σ' H',Inv X ai σ' H' s'/\Q σ' H') X.xe s
abbrev Ly:=V->V->V->Hp->(Hp->Prop)->Prop
def O9 (X:Cx)(t:Ly):Prop :=
 ∀(ai:List (Addr×Obj))(s:Shared)(σ:St)(H:Hp)(o i v:V)(ov iv u:Value)(Q:Hp->Prop),Inv X ai σ H s->RelV o ov->RelV i iv->RelV v u->t o i v H Q ->
  wpAny (model X.prog X.w) X.A (setItem ov iv u) (λ_ s'=>∃H',Inv X ai σ H' s'/\Q H') X.xe s
abbrev Qz:=V->V->Hp->VK->Prop
def XM (X:Cx)(op:Operator)(t:Qz):Prop :=
 ∀(ai:List (Addr×Obj))(s:Shared)(σ:St)(H:Hp)(x y:V)(v u:Value)(Q:VK),Inv X ai σ H s->RelV x v->RelV y u->t x y H Q ->
  wpAny (model X.prog X.w) X.A (inplaceOp op v u) (EP X ai σ Q) X.xe s
section
variable {X:Cx}{pos:Pos}
def dX (i:Nat):TG:=λv σ H Q=>Q (σ.set i (some v)) H
def az {i:Nat}{x:Str}(hN:X.N.Nodup)(hi:X.N[i]?=some x)(hx:Loc X.env.scope x)(hf:X.fn x=true\/X.env.scope.names.lookup x=some .local:=by first | exact .inl rfl | exact .inr rfl | assumption):PG X (.Name x pos) (dX i):=by
 intro ai s σ H v u Q I r h;exact wpAny_assign_Name (jC I hN hi hx r (λs' I'=>⟨_,H,I',h⟩) hf)
def ES:IU:=λvs σ H Q=>vs=[]/\Q σ H
def jN (t:TG)(u:IU):IU:=λvs σ H Q=>IT vs λv r=>t v σ H λσ' H'=>u r σ' H' Q
def b_:O_ X [] ES:=by
 intro ai s σ H vs us Q I r h;obtain⟨e,h⟩:=h;subst e;cases r;exact assignInOrder_nil ⟨σ,H,I,h⟩
def aE {e:Expr}{es:List Expr}{t:TG}{u:IU}(h1:PG X e t)(h2:O_ X es u)
  (hs:(assignEach (e::es) X.env).map (·.2)=assign e X.env::(assignEach es X.env).map (·.2):=by rfl):O_ X (e::es) (jN t u):=by
 intro ai s σ H vs us Q I r h;obtain⟨v,vr,e1,h⟩:=h;subst e1;cases r with
 | cons r rr =>
  rw [hs];refine assignInOrder_cons (cx (h1 ai s σ H _ _ _ I r h) λ_ s1 aV=>?_);obtain⟨σ1,H1,I1,q1⟩:=aV;exact h2 ai s1 σ1 H1 _ _ Q I1 rr q1
def B1 (K:aY) (n:Nat)(t:IU):TG:=λv σ H Q=>O5 v (bj K H) n λxs=>t xs σ H Q
def eJ {es:List Expr}{k:Nat}{t:IU}{n:Nat}(hc:X.calm=true)(h:O_ X es t)
  (hn:(assignEach es X.env).length=n:=by rfl)(mD:(assignEach es X.env).findIdx? (·.1)=none:=by rfl):PG X (.Tuple es k pos) (B1 X.K n t):=by
 intro ai s σ H v u Q I r hw;obtain⟨a,xs,e1,hq,hl,hw⟩:=hw;subst e1;cases r;obtain⟨aO,rv,ht,hz⟩:=I.tuple hq;refine assign_Tuple_tuple (I.ok.hd hc) ht (by simp [hn,<-hl,rv.length]) mD λh' hx=>?_;have I1:Inv X ai σ H { s with heap:=h' }:=I.kept (t':=s.toks) λb o e=>hx b o (bx (aS e)) e;exact h ai _ σ H xs _ Q I1 (by simpa using rv) hw
def T4 (to ti:TE)(t:Ly):TG:=λv σ H Q=>to σ H λo H1=>ti σ H1 λi H2=>t o i v H2 λH3=>Q σ H3
def DA {o i:Expr}{to ti:TE}{t:Ly}(ho:PE X o to)(hi:PE X i ti)(hs:O9 X t)
  (ha:∀v,assign (.Subscript o i pos) X.env v=(do
   let ov <-holding [v] (eval o X.env)
   let iv <-holding [v,ov] (eval i X.env)
   standAt pos
   holding [v,ov,iv] (setItem ov iv v)
   release [v,ov,iv] []):=by intro _;rfl):PG X (.Subscript o i pos) (T4 to ti t):=by
 intro ai s σ H v u Q I r h;rw [ha];refine aB (gR (cx (ho ai s σ H _ I h) λov s1 aV=>?_));obtain⟨x,H1,I1,r1,q1⟩:=aV;refine aB (gR (cx (hi ai s1 σ H1 _ I1 q1) λiv s2 aV=>?_));obtain⟨y,H2,I2,r2,q2⟩:=aV;refine aB (ni (aB (gR (cx (hs ai s2 σ H2 x y v ov iv u _ I2 r1 r2 r q2) λ_ s3 aV=>?_))));obtain⟨H3,I3,q3⟩:=aV;exact wpAny_release ⟨σ,H3,I3,q3⟩
def Js (te:TE)(g:TG):TS:=λD σ H=>te σ H λx H1=>g x σ H1 D.nx
def u9 {tg e:Expr}{te:TE}{g:TG}(he:PE X e te)(hg:PG X tg g)(hs:swapsWithSole [tg] e pos.line X.env=pure false:=by rfl)(hw:swappedStores [tg] e X.env=pure none:=by rfl)
  (h1:(assignEach [tg] X.env).map (·.2)=[assign tg X.env]:=by rfl):PS X (.Assign [tg] e pos) (Js te g):=by
 intro ai s σ H D I h;refine wpAny_Assign_stores (cx (he ai s σ H _ I h) λv s1 aV=>?_) hs hw;obtain⟨x,H1,I1,r1,q1⟩:=aV;rw [h1];exact cx (hg ai s1 σ H1 x v _ I1 r1 q1) λ_ s2 q=>q
def aI {i:Nat}{x:Str}{e:Expr}{te:TE}{pos':Pos}(hN:X.N.Nodup)(hi:X.N[i]?=some x)(hx:Loc X.env.scope x)(he:PE X e te)(hs:swapsWith e (some (.Name x pos')) pos.line X.env=pure false:=by rfl)(hf:X.fn x=true\/X.env.scope.names.lookup x=some .local:=by first | exact .inl rfl | exact .inr rfl | assumption) :
  PS X (.Assign [.Name x pos'] e pos) (Js te (dX i)):=by
 intro ai s σ H D I h;refine wpAny_Assign_Name (cx (he ai s σ H _ I h) λv s1 aV=>?_) hs;obtain⟨y,H1,I1,r1,q1⟩:=aV;exact jC I1 hN hi hx r1 (λs2 I2=>⟨_,H1,I2,q1⟩) hf
def Q2 (i:Nat)(te:TE)(ti:Qz):TS:=λD σ H=>∃x,σ[i]?=some (some x)/\te σ H λy H1=>ti x y H1 λz H2=>D.nx (σ.set i (some z)) H2
def Dx {i:Nat}{x:Str}{e:Expr}{te:TE}{op:Operator}{ti:Qz}{pos':Pos}(hN:X.N.Nodup)(hi:X.N[i]?=some x)(hx:Loc X.env.scope x)(he:PE X e te)(ho:XM X op ti)(hf:X.fn x=true\/X.env.scope.names.lookup x=some .local:=by first | exact .inl rfl | exact .inr rfl | assumption) :
  PS X (.AugAssign (.Name x pos') op e pos) (Q2 i te ti):=by
 intro ai s σ H D I h;obtain⟨v,e1,h⟩:=h;obtain⟨m,hn,hl⟩:=I.loc;have XX:Qy X.env.scope x:=by rcases hx with k | k;exact .inl k;exact .inr (.inl k)
 obtain⟨u,r,l⟩:=hl i x v hi e1 XX;refine wpAny_AugAssign_Name ?_;have go:wpAny (model X.prog X.w) X.A (eval e X.env) (λw s₂=>wpAny (model X.prog X.w) X.A (inplaceOp op u w) (λr s₃=>wpAny (model X.prog X.w) X.A (storeName X.env x r) (λ_=>SP X ai D .next) X.xe s₃) X.xe s₂) X.xe s:=by
  refine cx (he ai s σ H _ I h) λw s1 aV=>?_;obtain⟨y,H1,I1,r1,q1⟩:=aV;refine cx (ho ai s1 σ H1 v y u w _ I1 r r1 q1) λz s2 aV=>?_;obtain⟨zv,H2,I2,r2,q2⟩:=aV;exact jC I2 hN hi hx r2 (λs3 I3=>⟨_,H2,I3,q2⟩) hf
 rcases l with ⟨hk,hm⟩ | ⟨hk,c,hc,iV⟩
 .exact uo I.ok.kind hk hn hm go
 rcases hk with hk | hk
 .exact wpAny_loadName_cell I.ok.kind hk hc iV go
 rcases hx with k | k
 .have:X.env.scope.names.lookup x=some .free:=hk;rw [k] at this;cases this
 have:X.env.scope.names.lookup x=some .free:=hk;rw [k] at this;cases this
def ZX (f:Int->Int->Int):Qz:=λx y H Q=>∃i j,x=.int i/\y=.int j/\Q (.int (f i j)) H
def Ez:XM X .Add (ZX λi j=>i+j):=by
 intro ai s σ H x y v u Q I r1 r2 h;obtain⟨i,j,e1,e2,q⟩:=h;subst e1;subst e2;obtain⟨t,rfl⟩:=r1;obtain⟨t',rfl⟩:=r2;exact iadd_int ⟨.int _,H,I.tok _,⟨_,rfl⟩,q⟩
end
section
variable {X:Cx}{pos:Pos}
def Jl (c:TT)(tb:TS):TS:=λD σ H=>∃W:Nat->St->Hp->Prop,(∃m,W m σ H)/\∀m σ H,W m σ H ->
 c σ H λb H1=>if b=true then ∃N:St->Hp->Prop,(∀σ' H',N σ' H'->∃m',m' < m/\W m' σ' H')/\tb { D with nx:=N,ct:=N,bk:=D.nx } σ H1 else D.nx σ H1
def iR {c:Expr}{body:List Stmt}{tc:TT}{tb:TS}(hp:PassesOwn (model X.prog X.w) X.A X.env X.xe)(hc:PT X c tc)(hb:xK X body tb):PS X (.While c body [] pos) (Jl tc tb):=by
 intro ai s σ H D I h;obtain⟨W,⟨m0,w0⟩,turn⟩:=h;refine wpAny_While (codeAny_whileLoop (λn s'=>∃σ' H',Inv X ai σ' H' s'/\W n σ' H') ?_ m0 ⟨σ,H,I,w0⟩);rintro n s1 ⟨σ1,H1,I1,w1⟩;refine kF hp (cx (hc ai s1 σ1 H1 _ I1 (turn n σ1 H1 w1)) λb s2 aV=>?_);obtain⟨H2,I2,q2⟩:=aV;cases b with
 | true =>
  obtain⟨N,hN,q2⟩:=q2;rw [ay rfl];refine kF hp (cx (hb ai s2 σ1 H2 _ I2 q2) λf s3 q3=>?_);cases f with
  | next =>
   obtain⟨σ3,H3,I3,n3⟩:=q3;obtain⟨m',hm,w3⟩:=hN σ3 H3 n3;exact⟨m',hm,σ3,H3,I3,w3⟩
  | cont =>
   obtain⟨σ3,H3,I3,n3⟩:=q3;obtain⟨m',hm,w3⟩:=hN σ3 H3 n3;exact⟨m',hm,σ3,H3,I3,w3⟩
  | brk=>exact q3
  | ret v=>exact q3
 | false =>
  rw [av dS];exact nr ⟨σ1,H2,I2,q2⟩
end
structure It where
 go:Nat->Hp->Prop
 nO:Nat->Hp->V->Hp->Prop
 stop:Nat->Hp->Prop
def vO (X:Cx)(ai:List (Addr×Obj))(H:Hp)(b:Addr):Prop :=
 H b=none/\b≠X.env.locals/\b∉X.fs/\(b∈X.ex\/X.s₀.heap.objs.size<=b)/\(∀x c,X.env.cells.lookup x=some c->c≠b)/\∀p∈X.pn++ai,p.1≠b
def Inv.qX {X:Cx}{ai:List (Addr×Obj)}{σ:St}{H H':Hp}{s:Shared}{b:Addr}(I:Inv X ai σ H s)(hb:s.heap.objs.size<=b)(hn:H' b=none):vO X ai H' b:=by
 refine⟨hn,iF (dJ I.lt hb),I.RI hb,.inr (df I.sz hb),λx c e z=>?_,λp hp z=>?_⟩
 .obtain⟨v,q⟩:=I.cell x c e;exact absurd (dJ q.lt (by rw [z];exact hb)) (jv _)
 exact absurd (dJ (aS (I.pin p hp).1) (by rw [z];exact hb)) (jv _)
structure Turn (P:Program)(w:World)(K:aY)(tg:Expr)(J:It)(fp:List Addr)(it:Addr)(tn:Nat->Heap->Prop):Prop where
 mem:it∈fp
 obj:∀i h,tn i h->∀b∈fp,∃o,h.get? b=some o/\∀v,o.data≠.cell v
 keep:∀i h h',tn i h->(∀b∈fp,∀o,h.get? b=some o->h'.get? b=some o)->tn i h'
 item:∀(X:Cx),X.prog=P->X.w=w->X.K=K->X.calm=true->∀(i:Nat)(ai:List (Addr×Obj))(s:Shared)(σ:St)(H:Hp)(E:Value->Shared->Prop),Inv X ai σ H s->(∀b∈fp,vO X ai H b)->tn i s.heap->J.go i H ->
  wpAny (model P w) X.A (pyNext (.ref it)) (λr s1=>∃u,r=some u /\
   wpAny (model P w) X.A (letOwnedTupleGo tg (.ref it) u) (λ_ s2=>∃x H',Inv X ai σ H' s2/\RelV x u/\J.nO i H x H'/\tn (i+1) s2.heap/\∀b∈fp,H' b=none) E s1) E s
 done:∀(X:Cx),X.prog=P->X.w=w->X.K=K->X.calm=true->∀(i:Nat)(ai:List (Addr×Obj))(s:Shared)(σ:St)(H:Hp)(E:Value->Shared->Prop),Inv X ai σ H s->(∀b∈fp,vO X ai H b)->tn i s.heap->J.stop i H ->
  wpAny (model P w) X.A (pyNext (.ref it)) (λr s1=>r=none/\Inv X ai σ H s1) E s
 self:∀(A:Around) (i:Nat)(s:Shared)(Q:Value->Shared->Prop)(E:Value->Shared->Prop),tn i s.heap->Q (.ref it) s->wpAny (model P w) A (pyIter (.ref it)) Q E s
abbrev TI:=St->Hp->(It->Hp->Prop)->Prop
def XN (X:Cx)(ai:List (Addr×Obj))(σ:St)(tg:Expr)(R:It->Hp->Prop)(PY:Value)(s2:Shared):Prop :=
 ∃(it:Addr)(fp:List Addr)(tn:Nat->Heap->Prop)(J:It)(H':Hp),PY=.ref it/\Inv X ai σ H' s2/\Turn X.prog X.w X.K tg J fp it tn/\tn 0 s2.heap/\(∀b∈fp,vO X ai H' b)/\R J H'
def PI (X:Cx)(tg iter:Expr)(wi:TI):Prop :=
 ∀(ai:List (Addr×Obj))(s:Shared)(σ:St)(H:Hp)(R:It->Hp->Prop),Inv X ai σ H s->wi σ H R ->
  wpAny (model X.prog X.w) X.A (eval iter X.env) (λv s1=>wpAny (model X.prog X.w) X.A (pyIter v) (XN X ai σ tg R) X.xe s1) X.xe s
def AQ {M:Model}{A:Around}{E:Value->Shared->Prop}{s:Shared}{tg:Expr}{it:Addr}{u:Value}{o:Obj}{n:String}{vs:Array Value}{Q:Unit->Shared->Prop}(ho:s.heap.get? it=some o)(hc:o.cls=.type n)(hd:o.data=.fields vs)
  (hn:["enumerate","zip","dict_itemiterator","dict_reverseitemiterator","odict_iterator","itertools.zip_longest","itertools.pairwise"].contains n=false)(hQ:Q () s):wpAny M A (letOwnedTupleGo tg (.ref it) u) Q E s:=by
 unfold letOwnedTupleGo;cases tg <;> first
  | exact aR hQ
  | (cases u <;> first
    | exact aR hQ
    | (refine aB (wpAny_load ho ?_)
       rw [hc,hd];show wpAny M A (if (["enumerate","zip","dict_itemiterator","dict_reverseitemiterator","odict_iterator","itertools.zip_longest","itertools.pairwise"].contains n && vs[0]? == some (rawInt _))=true then _ else _) Q E s;rw [av (by intro h;rw [hn,Bool.false_and] at h;cases h)];exact aR hQ))
def ku (K:aY)(a:Addr):It :=
 ⟨λi H=>∃xs x,aH K H a xs/\xs[i]?=some x,λi H x H'=>H'=H/\∀xs,aH K H a xs->xs[i]?=some x,λi H=>∃xs,aH K H a xs/\xs.length<=i⟩
def rK (K:aY)(a:Addr):It :=
 ⟨λi H=>∃xs x,bj K H a xs/\xs[i]?=some x,λi H x H'=>H'=H/\∀xs,bj K H a xs->xs[i]?=some x,λi H=>∃xs,bj K H a xs/\xs.length<=i⟩
def LH (lo:Int) (n:Nat):It:=⟨λi _=>i < n,λi H x H'=>H'=H/\x=.int (lo+i),λi _=>n<=i⟩
def Bc {P:Program}{w:World}{K:aY}{tg:Expr}(a it:Addr):Turn P w K tg (ku K a) [it] it (λi h=>h.IsListIter it a i) where
 mem:=by simp
 obj:=λi h st b hb=>by
  have e:b=it:=by simpa using hb
  subst e;obtain⟨o,e,c,d⟩:=st;exact⟨o,e,λv z=>by rw [d] at z;cases z⟩
 keep:=λi h h' st k=>st.at λo e=>k it (by simp) o e
 item:=by
  intro X hP hw hK hc i ai s σ H E I hf st hg;subst hP hw hK;obtain⟨xs,x,hq,hx⟩:=hg;obtain⟨aO,rv,p,hz⟩:=I.list hq;obtain⟨u,hu,ru⟩:=rv.get hx;obtain⟨f0,f1,f2,f3,f4,f5⟩:=hf it (by simp);refine wpAny_pyNext_list_item st p.isList (x:=u) (by simpa using hu) λh' sN sb=>?_;have I1:Inv X ai σ H { s with heap:=h' }:=I.turned (t':=s.toks) (λb o hb e=>(sb.2 b hb).trans e) f0 f1 f3 f4 f5;obtain⟨o,e,c,d⟩:=id sN;exact⟨u,rfl,AQ (s:={ s with heap:=h' }) e c d nofun ⟨x,H,I1,ru,⟨rfl,λys hy=>by rw [I.mw hy hq];exact hx⟩,sN,λb hb=>(hf b hb).1⟩⟩
 done:=by
  intro X hP hw hK hc i ai s σ H E I hf st hg;subst hP hw hK;obtain⟨xs,hq,hx⟩:=hg;obtain⟨aO,rv,p,hz⟩:=I.list hq;obtain⟨f0,f1,f2,f3,f4,f5⟩:=hf it (by simp);have hl:=rv.length;exact uw (I.ok.hd hc) st p.isList (by simp;omega) λh' eb=>⟨rfl,I.turned (t':=s.toks) (λb o hb e=>eb b o hb e) f0 f1 f3 f4 f5⟩
 self:=λ_ _ _ _ _ st h=>wpAny_pyIter_listiter st h
def yl {P:Program}{w:World}{K:aY}{tg:Expr}(a it:Addr):Turn P w K tg (rK K a) [it] it (λi h=>h.IsTupleIter it a i) where
 mem:=by simp
 obj:=λi h st b hb=>by
  have e:b=it:=by simpa using hb
  subst e;obtain⟨o,e,c,d⟩:=st;exact⟨o,e,λv z=>by rw [d] at z;cases z⟩
 keep:=λi h h' st k=>st.at λo e=>k it (by simp) o e
 item:=by
  intro X hP hw hK hc i ai s σ H E I hf st hg;subst hP hw hK;obtain⟨xs,x,hq,hx⟩:=hg;obtain⟨aO,rv,p,hz⟩:=I.tuple hq;obtain⟨u,hu,ru⟩:=rv.get hx;obtain⟨f0,f1,f2,f3,f4,f5⟩:=hf it (by simp);refine wpAny_pyNext_tuple_item st (show s.heap.IsTuple a aO.toArray from p) (x:=u) (by simpa using hu) λh' sN sb=>?_;have I1:Inv X ai σ H { s with heap:=h' }:=I.turned (t':=s.toks) (λb o hb e=>(sb.2 b hb).trans e) f0 f1 f3 f4 f5;obtain⟨o,e,c,d⟩:=id sN;exact⟨u,rfl,AQ (s:={ s with heap:=h' }) e c d nofun ⟨x,H,I1,ru,⟨rfl,λys hy=>by rw [I.sI hy hq];exact hx⟩,sN,λb hb=>(hf b hb).1⟩⟩
 done:=by
  intro X hP hw hK hc i ai s σ H E I hf st hg;subst hP hw hK;obtain⟨xs,hq,hx⟩:=hg;obtain⟨aO,rv,p,hz⟩:=I.tuple hq;obtain⟨f0,f1,f2,f3,f4,f5⟩:=hf it (by simp);have hl:=rv.length;exact wpAny_pyNext_tuple_end (I.ok.hd hc) st (show s.heap.IsTuple a aO.toArray from p) (by simp;omega) λh' eb=>⟨rfl,I.turned (t':=s.toks) (λb o hb e=>eb b o hb e) f0 f1 f3 f4 f5⟩
 self:=λ_ _ _ _ _ st h=>wpAny_pyIter_tupleiter st h
def ym {P:Program}{w:World}{K:aY}{tg:Expr}(it:Addr) (lo:Int) (n:Nat):Turn P w K tg (LH lo n) [it] it (λi h=>IsRangeIter h it (lo+(i:Nat) * 1) ((n:Int) - (i:Nat)) 1) where
 mem:=by simp
 obj:=λi h st b hb=>by
  have e:b=it:=by simpa using hb
  subst e;exact⟨_,st,λv z=>by
   have z':Data.fields _=Data.cell v:=z;cases z'⟩
 keep:=λi h h' st k=>k it (by simp) _ st
 item:=by
  intro X hP hw hK hc i ai s σ H E I hf st hg;subst hP hw hK;obtain⟨f0,f1,f2,f3,f4,f5⟩:=hf it (by simp);have W:=Walks.range (prog:=X.prog) (w:=X.w) (I.ok.hd hc) it lo 1 n;refine W.item i s _ _ hg st λv h' tk hv sN kk=>?_;obtain⟨t,rfl⟩:=hv;have I1:Inv X ai σ H { s with heap:=h',toks:=tk }:=I.turned (λb o hb e=>kk b o (by simpa using hb) e) f0 f1 f3 f4 f5;refine⟨_,rfl,AQ (s:={ s with heap:=h',toks:=tk }) (n := "range_iterator") sN rfl rfl nofun ⟨.int (lo+i),H,I1,⟨t,?_⟩,⟨rfl,rfl⟩,sN,λb hb=>(hf b hb).1⟩⟩;rw [Int.mul_one]
 done:=by
  intro X hP hw hK hc i ai s σ H E I hf st hg;subst hP hw hK;obtain⟨f0,f1,f2,f3,f4,f5⟩:=hf it (by simp);exact wpAny_pyNext_range_end (I.ok.hd hc) st (by have:n<=i:=hg;omega) λh' eb=>⟨rfl,I.turned (t':=s.toks) (λb o hb e=>eb b o hb e) f0 f1 f3 f4 f5⟩
 self:=λ_ _ _ _ _ st h=>wpAny_pyIter_rangeiter st h
section
variable {X:Cx}{tg:Expr}
def NP (K:aY)(tl:TE):TI:=λσ H R=>tl σ H λx H1=>Qw x (λa=>∃xs,aH K H1 a xs) λa=>R (ku K a) H1
def Sq (K:aY)(tl:TE):TI:=λσ H R=>tl σ H λx H1=>Qw x (λa=>∃xs,bj K H1 a xs) λa=>R (rK K a) H1
def bK {l:Expr}{tl:TE}(hl:PE X l tl):PI X tg l (NP X.K tl):=by
 intro ai s σ H R I h;refine cx (hl ai s σ H _ I h) λv s1 aV=>?_;obtain⟨x,H1,I1,r1,q1⟩:=aV;obtain⟨a,e,⟨xs,hq⟩,q⟩:=q1;subst e;cases r1;obtain⟨aO,rv,p,hz⟩:=I1.list hq;refine j_ p.isList ?_;refine⟨s1.heap.objs.size,[s1.heap.objs.size],_,_,H1,rfl,I1.kept (t':=s1.toks) λb o e=>bC _ e,Bc a _,⟨_,cI _ rfl,rfl,rfl⟩,λb hb=>?_,q⟩;have e:b=s1.heap.objs.size:=by simpa using hb
 subst e;exact I1.qX (aK _) (I1.bD.fresh (aK _))
def iB {l:Expr}{tl:TE}(hl:PE X l tl):PI X tg l (Sq X.K tl):=by
 intro ai s σ H R I h;refine cx (hl ai s σ H _ I h) λv s1 aV=>?_;obtain⟨x,H1,I1,r1,q1⟩:=aV;obtain⟨a,e,⟨xs,hq⟩,q⟩:=q1;subst e;cases r1;obtain⟨aO,rv,p,hz⟩:=I1.tuple hq;refine ue (show s1.heap.IsTuple a aO.toArray from p) ?_;refine⟨s1.heap.objs.size,[s1.heap.objs.size],_,_,H1,rfl,I1.kept (t':=s1.toks) λb o e=>bC _ e,yl a _,⟨_,cI _ rfl,rfl,rfl⟩,λb hb=>?_,q⟩;have e:b=s1.heap.objs.size:=by simpa using hb
 subst e;exact I1.qX (aK _) (I1.bD.fresh (aK _))
def wy {ai:List (Addr×Obj)}{σ:St}{H:Hp}{s:Shared}{R:It->Hp->Prop}{E:Value->Shared->Prop}{lo hi:Int}{t u v:Tok}{tk:Nat}(I:Inv X ai σ H s)(h1:-(2 ^ 62)<=lo)(h2:lo < 2 ^ 62)(h3:-(2 ^ 62)<=hi)(h4:hi < 2 ^ 62)
  (q:R (LH lo (hi - lo).toNat) H):wpAny (model X.prog X.w) X.A (pyIter (.ref s.heap.objs.size)) (XN X ai σ tg R) E { s with heap:=s.heap.push { cls:=.type "range",data:=.fields #[.int lo t,.int hi u,.int 1 v] },toks:=tk }:=by
 refine wpAny_pyIter_range (IsRange.new ..) (small_one h1 h2 h3 h4) ?_;have I1:Inv X ai σ H { s with heap:=s.heap.push { cls:=.type "range",data:=.fields #[.int lo t,.int hi u,.int 1 v] },toks:=tk }:=I.kept λb o e=>bC _ e;refine⟨(s.heap.push { cls:=.type "range",data:=.fields #[.int lo t,.int hi u,.int 1 v] }).objs.size,[(s.heap.push { cls:=.type "range",data:=.fields #[.int lo t,.int hi u,.int 1 v] }).objs.size],_,_,H,rfl,
  I1.kept (t':=tk) λb o e=>bC _ e,ym _ lo (hi - lo).toNat,?_,λb hb=>?_,q⟩
 .have e1:lo+((0:Nat):Int) * 1=lo:=by simp
  have e2:(((hi - lo).toNat:Nat):Int) - ((0:Nat):Int)=Builtin.Range.rangeSize lo hi 1:=by rw [rangeSize_one];split <;> omega
  show IsRangeIter _ _ (lo+((0:Nat):Int) * 1) ((((hi - lo).toNat:Nat):Int) - ((0:Nat):Int)) 1;rw [e1,e2];exact cI _ rfl
 have e:b=(s.heap.push { cls:=.type "range",data:=.fields #[.int lo t,.int hi u,.int 1 v] }).objs.size:=by simpa using hb
 subst e;exact I1.qX (aK _) (I1.bD.fresh (aK _))
def NO (ta:TA):TI:=λσ H R=>ta σ H λvs H1=>Xw vs λj=>R (LH 0 j.toNat) H1
def NM (ta:TA):TI:=λσ H R=>ta σ H λvs H1=>∃i j:Int,vs=[.int i,.int j]/\(-(2 ^ 62)<=i/\i < 2 ^ 62/\-(2 ^ 62)<=j/\j < 2 ^ 62)/\R (LH i (j - i).toNat) H1
def sU {a:Expr}{ta:TA}{p pos:Pos}(hg:Gl X "range")(hm:X.mg "range"=none)(ha:PA X [a] ta)(hs:starEach [a] X.env=[(false,eval a X.env)]:=by rfl):PI X tg (.Call (.Name "range" p) [a] [] pos) (NO ta):=by
 intro ai s σ H R I h;refine Call_ (g8 I hg hm boot_range (v8 (cx (ha pos ai s σ H _ I h) λus s1 aV=>?_) hs rfl));obtain⟨vs,H1,I1,r1,q1⟩:=aV;obtain⟨j,e,q1,q2,q⟩:=q1;subst e;cases r1 with
 | cons r rr =>
  cases rr;obtain⟨t,rfl⟩:=r;exact call_range_1 (wy I1 ∅ ∅ q1 q2 (by simpa using q))
def Bl {a b:Expr}{ta:TA}{p pos:Pos}(hg:Gl X "range")(hm:X.mg "range"=none)(ha:PA X [a,b] ta)(hs:starEach [a,b] X.env=[(false,eval a X.env),(false,eval b X.env)]:=by rfl)(NY:starEach [b] X.env=[(false,eval b X.env)]:=by rfl) :
  PI X tg (.Call (.Name "range" p) [a,b] [] pos) (NM ta):=by
 intro ai s σ H R I h;refine Call_ (g8 I hg hm boot_range (v8 (cx (ha pos ai s σ H _ I h) λus s1 aV=>?_) (by rw [hs,NY]) (by rw [NY];rfl)));obtain⟨vs,H1,I1,r1,q1⟩:=aV;obtain⟨i,j,e,⟨q1,q2,q3,q4⟩,q⟩:=q1;subst e;cases r1 with
 | cons r rr =>
  cases rr with
  | cons r' rr =>
   cases rr;obtain⟨t,rfl⟩:=r;obtain⟨t',rfl⟩:=r';exact call_range_2 (wy I1 q1 q2 q3 q4 q)
def QY (wi:TI)(g:TG)(tb:TS):TS:=λD σ H=>wi σ H λJ H1=>∃W:Nat->Nat->St->Hp->Prop,(∃m,W 0 m σ H1)/\∀i m σ H,W i m σ H ->
 (J.stop i H/\D.nx σ H)\/(J.go i H/\∃N:St->Hp->Prop,(∀σ' H',N σ' H'->∃m',m' < m/\W (i+1) m' σ' H')/\∀x H',J.nO i H x H'->g x σ H' λσ2 H2=>tb { D with nx:=N,ct:=N,bk:=D.nx } σ2 H2)
def n6 (fp:List Addr)(h:Heap):List (Addr×Obj):=fp.filterMap λb=>(h.get? b).map λo=>(b,o)
def fQ {fp:List Addr}{h:Heap}{b:Addr}{o:Obj}(hb:b∈fp)(e:h.get? b=some o):(b,o)∈n6 fp h:=List.mem_filterMap.mpr ⟨b,hb,by rw [e];rfl⟩
def Bu {fp:List Addr}{h:Heap}{p:Addr×Obj}(hp:p∈n6 fp h):p.1∈fp/\h.get? p.1=some p.2:=by
 obtain⟨b,hb,e⟩:=List.mem_filterMap.mp hp;cases q:h.get? b with
 | none=>rw [q] at e;cases e
 | some o =>
  rw [q] at e;have e':(b,o)=p:=ib e;subst e';exact⟨hb,q⟩
def Inv.pinned {ai:List (Addr×Obj)}{σ:St}{H:Hp}{s:Shared}{fp:List Addr}(I:Inv X ai σ H s)(hf:∀b∈fp,vO X ai H b)(ho:∀b∈fp,∃o,s.heap.get? b=some o/\∀v,o.data≠.cell v):Inv X (ai++n6 fp s.heap) σ H s :=
 I.Ay λp hp=>(cN.mp hp).elim (λz=>I.pin p (fZ _ z)) λz=>by
  obtain⟨hb,e⟩:=Bu z;obtain⟨f0,f1,f2,_⟩:=hf p.1 hb;obtain⟨o,e',d⟩:=ho p.1 hb;rw [e] at e';cases e';exact⟨e,f0,f1,f2,d⟩
def Inv.jA {ai pl:List (Addr×Obj)}{σ:St}{H:Hp}{s:Shared}(I:Inv X (ai++pl) σ H s):Inv X ai σ H s:=I.Ay λp hp=>I.pin p (fZ _ (oO _ hp))
def cD {iter:Expr}{body:List Stmt}{wi:TI}{g:TG}{tb:TS}{pos:Pos}(hp:PassesOwn (model X.prog X.w) X.A X.env X.xe)(hc:X.calm=true)(hi:PI X tg iter wi)(hg:PG X tg g)(hb:xK X body tb)
  (hs:∀x,foldedSetIterable iter X.env x=pure x:=by intro _;rfl):PS X (.For tg iter body [] pos) (QY wi g tb):=by
 intro ai s σ H D I h;refine wpAny_For (cx (hi ai s σ H _ I h) λv s1 h1=>cx h1 λPY s2 h2=>?_) hs;obtain⟨it,fp,tn,J,H2,e,I2,T,FC,f2,W,⟨m0,w0⟩,turn⟩:=h2;subst e;have qw:∀{H':Hp},(∀b∈fp,H' b=none)->∀b∈fp,vO X ai H' b:=λhn b hb=>⟨hn b hb,(f2 b hb).2⟩;refine codeAny_forLoop_any (λn s'=>∃i σ' H',Inv X ai σ' H' s'/\tn i s'.heap/\(∀b∈fp,H' b=none)/\W i n σ' H') ?_ m0 ⟨0,σ,H2,I2,FC,λb hb=>(f2 b hb).1,w0⟩;rintro n s3 ⟨i,σ3,H3,I3,M0,WS,w3⟩;rcases turn i n σ3 H3 w3 with ⟨stop,qn⟩ | ⟨go,N,hN,step⟩
 .refine kF hp (cx (T.done X rfl rfl rfl hc i ai s3 σ3 H3 X.xe I3 (qw WS) M0 stop) λr s4 ⟨hr,I4⟩=>?_);subst hr;exact nr ⟨σ3,H3,I4,qn⟩
 refine kF hp (cx (T.item X rfl rfl rfl hc i ai s3 σ3 H3 X.xe I3 (qw WS) M0 go) λr s4 ⟨u,hr,h4⟩=>?_);subst hr;refine kF hp (cx h4 λ_ s5 aV=>?_);obtain⟨x,H5,I5,r5,y5,Bh,OC⟩:=aV;have I5':=I5.pinned (qw OC) (T.obj _ _ Bh);refine kF hp (cx (hg _ s5 σ3 H5 x u _ I5' r5 (step x H5 y5)) λ_ s6 aV=>?_);obtain⟨σ6,H6,I6,q6⟩:=aV;refine kF hp (cx (hb _ s6 σ6 H6 _ I6 q6) λf s7 q7=>?_);have again:∀{σ7:St}{H7:Hp},Inv X (ai++n6 fp s5.heap) σ7 H7 s7->N σ7 H7->∃m,m < n/\∃i σ' H',Inv X ai σ' H' s7/\tn i s7.heap/\(∀b∈fp,H' b=none)/\W i m σ' H':=λ{σ7 H7} I7 n7=>by
  obtain⟨m',hm,w7⟩:=hN σ7 H7 n7;refine⟨m',hm,i+1,σ7,H7,I7.jA,T.keep _ _ _ Bh λb hb o e=>(I7.pin (b,o) (fZ _ (fZ _ (fQ hb e)))).1,λb hb=>?_,w7⟩;obtain⟨o,e,d⟩:=T.obj _ _ Bh b hb;exact(I7.pin (b,o) (fZ _ (fZ _ (fQ hb e)))).2.1
 cases f with
 | next=>obtain⟨σ7,H7,I7,n7⟩:=q7;exact again I7 n7
 | cont=>obtain⟨σ7,H7,I7,n7⟩:=q7;exact again I7 n7
 | brk=>obtain⟨σ7,H7,I7,q7⟩:=q7;exact⟨σ7,H7,I7.jA,q7⟩
 | ret v=>obtain⟨x7,σ7,H7,I7,r7,q7⟩:=q7;exact⟨x7,σ7,H7,I7.jA,r7,q7⟩
end
def eQ {K:aY}{a:Addr}{xs:List V}{g:TG}{tb:TS}{D:Ends}{σ:St}{H:Hp}(Pv:Nat->St->Hp->Prop)(h0:Pv 0 σ H)(hl:∀i σ H,i<=xs.length->Pv i σ H->aH K H a xs)
  (hs:∀i x σ H,xs[i]?=some x->Pv i σ H->g x σ H λσ2 H2=>tb { D with nx:=Pv (i+1),ct:=Pv (i+1),bk:=D.nx } σ2 H2)(hd:∀σ H,Pv xs.length σ H->D.nx σ H) :
  ∃W:Nat->Nat->St->Hp->Prop,(∃m,W 0 m σ H)/\∀i m σ H,W i m σ H ->
   ((ku K a).stop i H/\D.nx σ H)\/((ku K a).go i H/\∃N:St->Hp->Prop,(∀σ' H',N σ' H'->∃m',m' < m/\W (i+1) m' σ' H')/\∀x H',(ku K a).nO i H x H'->g x σ H' λσ2 H2=>tb { D with nx:=N,ct:=N,bk:=D.nx } σ2 H2):=by
 refine⟨λi m σ H=>m=xs.length - i/\i<=xs.length/\Pv i σ H,⟨xs.length,by simp,dC _,h0⟩,?_⟩;rintro i m σ H ⟨rfl,hi,p⟩;have q:=hl i σ H hi p;by_cases i4:i < xs.length
 .refine .inr ⟨⟨xs,xs[i],q,by simp [i4]⟩,Pv (i+1),λσ' H' p'=>⟨xs.length - (i+1),∅,rfl,i4,p'⟩,λx H' y=>?_⟩;obtain⟨e,y⟩:=y;subst e;exact hs i x σ _ (y xs q) p
 have e:i=xs.length:=by omega
 subst e;exact .inl ⟨⟨xs,q,aK _⟩,hd σ H p⟩
def vD {K:aY}{a:Addr}{xs:List V}{g:TG}{tb:TS}{D:Ends}{σ:St}{H:Hp}(Pv:Nat->St->Hp->Prop)(h0:Pv 0 σ H)(hl:∀i σ H,i<=xs.length->Pv i σ H->bj K H a xs)
  (hs:∀i x σ H,xs[i]?=some x->Pv i σ H->g x σ H λσ2 H2=>tb { D with nx:=Pv (i+1),ct:=Pv (i+1),bk:=D.nx } σ2 H2)(hd:∀σ H,Pv xs.length σ H->D.nx σ H) :
  ∃W:Nat->Nat->St->Hp->Prop,(∃m,W 0 m σ H)/\∀i m σ H,W i m σ H ->
   ((rK K a).stop i H/\D.nx σ H)\/((rK K a).go i H/\∃N:St->Hp->Prop,(∀σ' H',N σ' H'->∃m',m' < m/\W (i+1) m' σ' H')/\∀x H',(rK K a).nO i H x H'->g x σ H' λσ2 H2=>tb { D with nx:=N,ct:=N,bk:=D.nx } σ2 H2):=by
 refine⟨λi m σ H=>m=xs.length - i/\i<=xs.length/\Pv i σ H,⟨xs.length,by simp,dC _,h0⟩,?_⟩;rintro i m σ H ⟨rfl,hi,p⟩;have q:=hl i σ H hi p;by_cases i4:i < xs.length
 .refine .inr ⟨⟨xs,xs[i],q,by simp [i4]⟩,Pv (i+1),λσ' H' p'=>⟨xs.length - (i+1),∅,rfl,i4,p'⟩,λx H' y=>?_⟩;obtain⟨e,y⟩:=y;subst e;exact hs i x σ _ (y xs q) p
 have e:i=xs.length:=by omega
 subst e;exact .inl ⟨⟨xs,q,aK _⟩,hd σ H p⟩
def ou {lo:Int}{n:Nat}{g:TG}{tb:TS}{D:Ends}{σ:St}{H:Hp}(Pv:Nat->St->Hp->Prop)(h0:Pv 0 σ H)
  (hs:∀i σ H,i < n->Pv i σ H->g (.int (lo+i)) σ H λσ2 H2=>tb { D with nx:=Pv (i+1),ct:=Pv (i+1),bk:=D.nx } σ2 H2)(hd:∀σ H,Pv n σ H->D.nx σ H) :
  ∃W:Nat->Nat->St->Hp->Prop,(∃m,W 0 m σ H)/\∀i m σ H,W i m σ H ->
   ((LH lo n).stop i H/\D.nx σ H)\/((LH lo n).go i H/\∃N:St->Hp->Prop,(∀σ' H',N σ' H'->∃m',m' < m/\W (i+1) m' σ' H')/\∀x H',(LH lo n).nO i H x H'->g x σ H' λσ2 H2=>tb { D with nx:=N,ct:=N,bk:=D.nx } σ2 H2):=by
 refine⟨λi m σ H=>m=n - i/\i<=n/\Pv i σ H,⟨n,by simp,dC _,h0⟩,?_⟩;rintro i m σ H ⟨rfl,hi,p⟩;by_cases i4:i < n
 .refine .inr ⟨i4,Pv (i+1),λσ' H' p'=>⟨n - (i+1),∅,rfl,i4,p'⟩,λx H' y=>?_⟩;obtain⟨e,y⟩:=y;subst e y;exact hs i σ _ i4 p
 have e:i=n:=by omega
 subst e;exact .inl ⟨aK _,hd σ H p⟩
abbrev R2:=V->V->Hp->VK->Prop
def oB (X:Cx)(f:Value->Value->Sem Value)(r:R2):Prop :=
 ∀(ai:List (Addr×Obj))(s:Shared)(σ:St)(H:Hp)(x y:V)(v u:Value)(Q:VK),Inv X ai σ H s->RelV x v->RelV y u->r x y H Q ->
  wpAny (model X.prog X.w) X.A (f v u) (EP X ai σ Q) X.xe s
def U5 (X:Cx)(f:Value->Sem Value)(r:V->Hp->VK->Prop):Prop :=
 ∀(ai:List (Addr×Obj))(s:Shared)(σ:St)(H:Hp)(x:V)(v:Value)(Q:VK),Inv X ai σ H s->RelV x v->r x H Q ->
  wpAny (model X.prog X.w) X.A (f v) (EP X ai σ Q) X.xe s
def dZ (X:Cx)(f:Value)(r:List V->Hp->VK->Prop):Prop :=
 ∀(ai:List (Addr×Obj))(s:Shared)(σ:St)(H:Hp)(xs:List V)(us:List Value)(Q:VK),Inv X ai σ H s->aU xs us->r xs H Q ->
  wpAny (model X.prog X.w) X.A (call f us) (EP X ai σ Q) X.xe s
def U6 (X:Cx)(r:V->Hp->(Bool->Hp->Prop)->Prop):Prop :=
 ∀(ai:List (Addr×Obj))(s:Shared)(σ:St)(H:Hp)(x:V)(v:Value)(Q:Bool->Hp->Prop),Inv X ai σ H s->RelV x v->r x H Q ->
  wpAny (model X.prog X.w) X.A (truthy v) (TP X ai σ Q) X.xe s
def Pw (r:R2)(ta tb:TE):TE:=λσ H Q=>ta σ H λx H1=>tb σ H1 λy H2=>r x y H2 Q
def X3 (r:V->Hp->VK->Prop)(ta:TE):TE:=λσ H Q=>ta σ H λx H1=>r x H1 Q
def rI (C:Int->Int->Prop)(g:Int->Int->V):R2:=λx y H Q=>Xz x y C λi j=>Q (g i j) H
def JN (g:Int->Int->V):R2:=λx y H Q=>XA x y λi j=>Q (g i j) H
def rU (g:Int->V):V->Hp->VK->Prop:=λx H Q=>U3 x λi=>Q (g i) H
section
variable {X:Cx}{a b c:Expr}{ta tb tc:TE}{pos:Pos}
def Ls (ha:PE X a ta)(hb:PE X b tb){ai:List (Addr×Obj)}{s:Shared}{σ:St}{H:Hp}{R:V->V->Hp->Prop}(I:Inv X ai σ H s)
  (h:ta σ H λx H1=>tb σ H1 λy H2=>R x y H2){Q:Value->Shared->Prop}{f:Value->Value->Sem Value}
  (hf:∀v u s2 x y H2,Inv X ai σ H2 s2->RelV x v->RelV y u->R x y H2->wpAny (model X.prog X.w) X.A (f v u) Q X.xe s2) :
  wpAny (model X.prog X.w) X.A (eval a X.env) (λv s₁=>wpAny (model X.prog X.w) X.A (eval b X.env) (λu s₂=>wpAny (model X.prog X.w) X.A (f v u) Q X.xe s₂) X.xe s₁) X.xe s:=by
 refine cx (ha ai s σ H _ I h) λv s1 aV=>?_;obtain⟨x,H1,I1,r1,q1⟩:=aV;refine cx (hb ai s1 σ H1 _ I1 q1) λu s2 aV=>?_;obtain⟨y,H2,I2,r2,q2⟩:=aV;exact hf v u s2 x y H2 I2 r1 r2 q2
def bf {op:Operator}{r:R2}(ho:oB X (binaryOp op) r)(ha:PE X a ta)(hb:PE X b tb):PE X (.BinOp a op b pos) (Pw r ta tb):=by
 intro ai s σ H Q I h;exact wpAny_BinOp (Ls ha hb I h λv u s2 x y H2 I2 rx ry q=>ho ai s2 σ H2 x y v u Q I2 rx ry q)
def sV {op:UnaryOp}{r:V->Hp->VK->Prop}(ho:U5 X (unaryOp op) r)(ha:PE X a ta):PE X (.UnaryOp op a pos) (X3 r ta):=by
 intro ai s σ H Q I h;refine UnaryOp_ (cx (ha ai s σ H _ I h) λv s1 aV=>?_);obtain⟨x,H1,I1,r1,q1⟩:=aV;exact ho ai s1 σ H1 x v Q I1 r1 q1
def Rw {f:Value->Value->Sem Value}{C:Int->Int->Prop}{g:Int->Int->Int}
  (rule:∀(i j:Int)(t u:Tok)(s:Shared)(Q:Value->Shared->Prop)(E:Value->Shared->Prop),C i j->Q (.int (g i j) s.toks) { s with toks:=s.toks+1 }->wpAny (model X.prog X.w) X.A (f (.int i t) (.int j u)) Q E s) :
  oB X f (rI C λi j=>.int (g i j)):=by
 intro ai s σ H x y v u Q I rx ry h;obtain⟨i,j,rfl,rfl,hc,q⟩:=h;obtain⟨t,rfl⟩:=rx;obtain⟨t',rfl⟩:=ry;exact rule i j t t' s _ _ hc ⟨.int (g i j),H,I.tok _,⟨_,rfl⟩,q⟩
def Nh {f:Value->Value->Sem Value}{g:Int->Int->Int}
  (rule:∀(i j:Int)(t u:Tok)(s:Shared)(Q:Value->Shared->Prop)(E:Value->Shared->Prop),Q (.int (g i j) s.toks) { s with toks:=s.toks+1 }->wpAny (model X.prog X.w) X.A (f (.int i t) (.int j u)) Q E s) :
  oB X f (JN λi j=>.int (g i j)):=by
 intro ai s σ H x y v u Q I rx ry h;obtain⟨i,j,rfl,rfl,q⟩:=h;obtain⟨t,rfl⟩:=rx;obtain⟨t',rfl⟩:=ry;exact rule i j t t' s _ _ ⟨.int (g i j),H,I.tok _,⟨_,rfl⟩,q⟩
def JT {f:Value->Value->Sem Value}{g:Int->Int->Bool}
  (rule:∀(i j:Int)(t u:Tok)(s:Shared)(Q:Value->Shared->Prop)(E:Value->Shared->Prop),Q (.bool (g i j)) s->wpAny (model X.prog X.w) X.A (f (.int i t) (.int j u)) Q E s) :
  oB X f (JN λi j=>.bl (g i j)):=by
 intro ai s σ H x y v u Q I rx ry h;obtain⟨i,j,rfl,rfl,q⟩:=h;obtain⟨t,rfl⟩:=rx;obtain⟨t',rfl⟩:=ry;exact rule i j t t' s _ _ ⟨.bl (g i j),H,I,rfl,q⟩
def Vh (i j:Int):Prop:=0 < j/\j < 1073741824
def LL (i j:Int):Prop:=(-(2 ^ 64) < i/\i < 2 ^ 64)\/(-(2 ^ 64) < j/\j < 2 ^ 64)
def LL.ok {i j:Int}(h:LL i j):IntMulOk i j:=by
 rcases h with ⟨h1,h2⟩ | ⟨h1,h2⟩
 .exact .of_left (intBits_le_64 h1 h2)
 exact .of_right (intBits_le_64 h1 h2)
def fP:oB X (binaryOp .Add) (JN λi j=>.int (i+j)):=Nh λ_ _ _ _ _ _ _ q=>add_int q
def yV:oB X (binaryOp .Sub) (JN λi j=>.int (i - j)):=Nh λ_ _ _ _ _ _ _ q=>sub_int q
def DL:oB X (binaryOp .Mult) (rI LL λi j=>.int (i * j)):=Rw λ_ _ _ _ _ _ _ hc q=>mul_int q hc.ok
def AF:oB X (binaryOp .FloorDiv) (rI Vh λi j=>.int (i / j)):=Rw λi j _ _ _ _ _ hc q=>by
 have h1:(0:Int) < j:=hc.1;have h2:j < 1073741824:=hc.2;exact floordiv_int ∅ (by rw [Int.fdiv_eq_ediv_of_nonneg i ∅];exact q) (.inl (PyProof.noPylong_small ∅))
def dH:oB X (binaryOp .Mod) (rI (λ_ j=>0 < j) λi j=>.int (i % j)):=Rw λi j _ _ _ _ _ hc q=>by
 have h1:(0:Int) < j:=hc;exact mod_int' ∅ (by rw [Int.fmod_eq_emod_of_nonneg i ∅];exact q)
def XZ {f:Value->Sem Value}{g:Int->Int}
  (rule:∀(i:Int)(t:Tok)(s:Shared)(Q:Value->Shared->Prop)(E:Value->Shared->Prop),Q (.int (g i) s.toks) { s with toks:=s.toks+1 }->wpAny (model X.prog X.w) X.A (f (.int i t)) Q E s) :
  U5 X f (rU λi=>.int (g i)):=by
 intro ai s σ H x v Q I rx h;obtain⟨i,rfl,q⟩:=h;obtain⟨t,rfl⟩:=rx;exact rule i t s _ _ ⟨.int (g i),H,I.tok _,⟨_,rfl⟩,q⟩
def nQ:U5 X (unaryOp .USub) (rU λi=>.int (-i)):=XZ λ_ _ _ _ _ q=>neg_int q
end
def Q8:V->V->Bool
 | .dP,.dP=>true | .dP,.int _=>true | .int _,.dP=>true | .dP,.bl _=>true | .bl _,.dP=>true | .dP,.str _=>true | .str _,.dP=>true
 | .int _,.int _=>true | .bl _,.bl _=>true | .str _,.str _=>true | .Ci _,.Ci _=>true
 | .int _,.str _=>true | .str _,.int _=>true | .bl _,.str _=>true | .str _,.bl _=>true
 | _,_=>false
def Yw:R2:=λx y H Q=>Q8 x y=true/\Q (.bl (decide (x=y))) H
def Hu {i j:Int}:decide (V.int i=V.int j)=(i == j):=by
 rw [iH];simp
def Lm {i j:Bool}:decide (V.bl i=V.bl j)=(i == j):=by
 rw [iH];simp
def Ht {i j:Str}:decide (V.str i=V.str j)=(i == j):=by
 rw [iH];simp
def Hv {i j:Array UInt8}:decide (V.Ci i=V.Ci j)=(i.toList == j.toList):=by
 rw [iH];cases i;cases j;simp
section
variable {X:Cx}{a b c:Expr}{ta tb tc:TE}{pos:Pos}
def ff {ai:List (Addr×Obj)}{σ:St}{H:Hp}{s:Shared}{Q:VK}{k k':Bool}(I:Inv X ai σ H s)(q:Q (.bl k) H)(e:k=k'):EP X ai σ Q (.bool k') s:=by
 subst e;exact⟨.bl k,H,I,rfl,q⟩
def iS:oB X (compareOp .Eq) Yw:=by
 intro ai s σ H x y v u Q I rx ry h;obtain⟨hs,q⟩:=h;cases x with
 | dP =>
  cases rx;cases y with
  | dP=>cases ry;exact PySem.EqNone.eq_none_none (ff I q (by simp))
  | bl j=>cases ry;exact PySem.EqNone.eq_none_bool (ff I q (by simp))
  | int j=>obtain⟨t',rfl⟩:=ry;exact PySem.EqNone.eq_none_int (ff I q (by simp))
  | str j=>obtain⟨t',rfl⟩:=ry;exact PySem.EqNone.eq_none_str (ff I q (by simp))
  | _=>exact absurd (show false=true from hs) dS
 | bl i =>
  cases rx;cases y with
  | dP=>cases ry;exact PySem.EqNone.eq_bool_none (ff I q (by simp))
  | bl j=>cases ry;exact eq_bool (ff I q Lm)
  | str j=>obtain⟨t',rfl⟩:=ry;exact PySem.EqMixed.eq_bool_str (ff I q (by simp))
  | _=>exact absurd (show false=true from hs) dS
 | int i =>
  obtain⟨t,rfl⟩:=rx;cases y with
  | dP=>cases ry;exact PySem.EqNone.eq_int_none (ff I q (by simp))
  | int j=>obtain⟨t',rfl⟩:=ry;exact eq_int (ff I q Hu)
  | str j=>obtain⟨t',rfl⟩:=ry;exact PySem.EqMixed.eq_int_str (ff I q (by simp))
  | _=>exact absurd (show false=true from hs) dS
 | str i =>
  obtain⟨t,rfl⟩:=rx;cases y with
  | dP=>cases ry;exact PySem.EqNone.eq_str_none (ff I q (by simp))
  | bl j=>cases ry;exact PySem.EqMixed.eq_str_bool (ff I q (by simp))
  | int j=>obtain⟨t',rfl⟩:=ry;exact PySem.EqMixed.eq_str_int (ff I q (by simp))
  | str j=>obtain⟨t',rfl⟩:=ry;exact eq_str (ff I q Ht)
  | _=>exact absurd (show false=true from hs) dS
 | Ci i =>
  obtain⟨t,rfl⟩:=rx;cases y with
  | Ci j=>obtain⟨t',rfl⟩:=ry;exact PySem.W.eq_bytes (ff I q Hv)
  | _=>exact absurd (show false=true from hs) dS
 | _=>cases y <;> exact absurd (show false=true from hs) dS
def oU:oB X (compareOp .Lt) (JN λi j=>.bl (decide (i < j))):=JT λ_ _ _ _ _ _ _ q=>lt_int q
def Ng:oB X (compareOp .LtE) (JN λi j=>.bl (decide (i<=j))):=JT λ_ _ _ _ _ _ _ q=>le_int q
def qI:oB X (compareOp .Gt) (JN λi j=>.bl (decide (j < i))):=JT λ_ _ _ _ _ _ _ q=>gt_int q
def oB.or {f:Value->Value->Sem Value}{r r':R2}(h:oB X f r)(h':oB X f r'):oB X f (λx y H Q=>r x y H Q\/r' x y H Q):=by
 intro ai s σ H x y v u Q I rx ry q;rcases q with q | q
 .exact h ai s σ H x y v u Q I rx ry q
 exact h' ai s σ H x y v u Q I rx ry q
def bX (b:Expr){op:CmpOp}(h:op≠.In:=by decide)(h2:op≠.NotIn:=by decide):behindInMarks op b=false:=by
 have e1:(op == CmpOp.In)=false:=by cases op <;> first | rfl | exact absurd rfl h
 have e2:(op == CmpOp.NotIn)=false:=by cases op <;> first | rfl | exact absurd rfl h2
 cases b <;> simp [behindInMarks,e1,e2]
def ir {op:CmpOp}{r:R2}(ho:oB X (compareOp op) r)(ha:PE X a ta)(hb:PE X b tb)(hm:behindInMarks op b=false):PE X (.Compare a [op] [b] pos) (Pw r ta tb):=by
 intro ai s σ H Q I h;exact wpAny_Compare1 (Ls ha hb I h λv u s2 x y H2 I2 rx ry q=>ho ai s2 σ H2 x y v u Q I2 rx ry q) hm
def ME (t:TE):TT:=λσ H Q=>t σ H λx H'=>XB x λk=>Q k H'
def bJ {op:CmpOp}{r:R2}(ho:oB X (compareOp op) r)(ha:PE X a ta)(hb:PE X b tb)(hm:behindInMarks op b=false):PT X (.Compare a [op] [b] pos) (ME (Pw r ta tb)):=by
 intro ai s σ H Q I h;refine wpAny_isTrue_Compare1 (cx (ha ai s σ H _ I h) λv s1 ⟨x,H1,I1,r1,q1⟩=>cx (hb ai s1 σ H1 _ I1 q1) λu s2 ⟨y,H2,I2,r2,q2⟩ =>
  cx (ho ai s2 σ H2 x y v u _ I2 r1 r2 q2) λc s3 ⟨z,H3,I3,r3,k,e,q3⟩=>?_) hm
 subst e;cases r3;exact oJ ⟨H3,I3,q3⟩
def zS (K:aY)(x:V)(H:Hp)(k:Bool):Prop :=
 match x with
 | .dP=>k=false
 | .bl b=>k=b
 | .int i=>k=(i != 0)
 | .str y=>y.length<=sizeLine/\k=((y.length:Int) != 0)
 | .Ci y=>y.size<=sizeLine/\k=((y.size:Int) != 0)
 | .ref p=>(∃xs,aH K H p xs/\k=!xs.isEmpty)\/(∃xs,bj K H p xs/\k=!xs.isEmpty)\/∃kvs,H p=some (.dK kvs)/\k=!kvs.isEmpty
 | _=>False
def zu {κ:Type}{kvs:List (κ×V)}{vs:List (κ×Value)}(r:KV kvs vs):(!vs.isEmpty)=!kvs.isEmpty:=by
 cases r <;> rfl
def qQ {xs:List V}{aO:List Value}(r:aU xs aO):(!aO.toArray.isEmpty)=!xs.isEmpty:=by
 cases r <;> simp
def jK:(sizeLine:Nat) < 2 ^ 63:=by rw [gT];decide
def Jk:U6 X (λx H Q=>∃k,zS X.K x H k/\Q k H):=by
 intro ai s σ H x v Q I rx h;obtain⟨k,e,q⟩:=h;have hl:=jK;have hs:sizeLine=16777216:=gT;cases x with
 | dP =>
  cases rx;have e':k=false:=e;subst e';exact truthy_none ⟨H,I,q⟩
 | bl b =>
  cases rx;have e':k=b:=e;subst e';exact oJ ⟨H,I,q⟩
 | int i =>
  obtain⟨t,rfl⟩:=rx;have e':k=(i != 0):=e;subst e';exact PySem.P.truthy_int ⟨H,I,q⟩
 | str y =>
  obtain⟨t,rfl⟩:=rx;obtain⟨hy,e'⟩:y.length<=sizeLine/\k=((y.length:Int) != 0):=e;subst e';exact PySem.P.truthy_str ∅ ⟨H,I.tok _,q⟩
 | Ci y =>
  obtain⟨t,rfl⟩:=rx;obtain⟨hy,e'⟩:y.size<=sizeLine/\k=((y.size:Int) != 0):=e;subst e';exact PySem.W.truthy_bytes ∅ ⟨H,I.tok _,q⟩
 | ref p =>
  cases rx;have e':(∃xs,aH X.K H p xs/\k=!xs.isEmpty)\/(∃xs,bj X.K H p xs/\k=!xs.isEmpty)\/∃kvs,H p=some (.dK kvs)/\k=!kvs.isEmpty:=e;rcases e' with ⟨xs,hx,e'⟩ | ⟨xs,hx,e'⟩ | ⟨kvs,hx,e'⟩
  .subst e';obtain⟨aO,r,pl,hz⟩:=I.list hx;have bI:=r.length;exact wpAny_truthy_list pl.isList (by simp only [b8];omega) ⟨H,I.tok _,by rw [qQ r];exact q⟩
  .subst e';obtain⟨aO,r,pl,hz⟩:=I.tuple hx;have bI:=r.length;exact truthy_tuple pl (by simp only [b8];omega) ⟨H,I.tok _,by rw [qQ r];exact q⟩
  subst e';obtain⟨hz,hS,vs,r,m⟩:kvs.length<=sizeLine/\(p == sysModules)=false/\∃vs,KV kvs vs/\s.heap.DictOf (aX X.prog X.w) p vs:=I.bD p _ hx;have bI:kvs.length=vs.length:=bM r;exact wpAny_truthy_dict hS m ∅ ⟨H,I.tok _,by rw [zu r];exact q⟩
 | _=>exact(show False from e).elim
def gp (ha:PE X a ta)(he:∀whole,isTrue a X.env whole=(do let v <-whole;standAt a.pos;holding [v] (truthy v))) :
  PT X a (λσ H Q=>ta σ H λx H'=>∃k,zS X.K x H' k/\Q k H'):=by
 intro ai s σ H Q I h;refine isTrue_plain (cx (ha ai s σ H _ I h) λv s1 aV=>?_) (he _);obtain⟨x,H1,I1,r1,q1⟩:=aV;exact Jk ai s1 σ H1 x v Q I1 r1 q1
def g7:oB X (binaryOp .Add) (λx y H Q=>∃i j,x=.str i/\y=.str j/\i.length+j.length<=sizeLine/\Q (.str (i++j)) H):=by
 intro ai s σ H x y v u Q I rx ry h;obtain⟨i,j,rfl,rfl,hz,q⟩:=h;obtain⟨t,rfl⟩:=rx;obtain⟨t',rfl⟩:=ry;exact add_str (λt' tk=>⟨.str (i++j),H,I.tok _,⟨_,rfl⟩,q⟩) hz
def vals1 {x:V}{us:List Value}(r:aU [x] us):∃u,us=[u]/\RelV x u:=by
 cases r with
 | cons r1 r2=>cases r2;exact⟨_,rfl,r1⟩
def vals2 {x y:V}{us:List Value}(r:aU [x,y] us):∃u w',us=[u,w']/\RelV x u/\RelV y w':=by
 cases r with
 | cons r1 r2 =>
  cases r2 with
  | cons r3 r4=>cases r4;exact⟨_,_,rfl,r1,r3⟩
def Ce (hc:X.calm=true):dZ X (.builtin "max") (λxs H Q=>∃i j,xs=[.int i,.int j]/\Q (.int (if j > i then j else i)) H):=by
 intro ai s σ H xs us Q I r h;obtain⟨i,j,rfl,q⟩:=h;obtain⟨u,w',rfl,⟨t,rfl⟩,⟨t',rfl⟩⟩:=vals2 r;refine max_two_ints (I.ok.hd hc) λh' tk k=>⟨_,H,I.kept k,?_,q⟩;by_cases hj:j > i
 .rw [ay hj,ay hj];exact⟨_,rfl⟩
 rw [av hj,av hj];exact⟨_,rfl⟩
def Cd (hc:X.calm=true):dZ X (.builtin "min") (λxs H Q=>∃i j,xs=[.int i,.int j]/\Q (.int (if j < i then j else i)) H):=by
 intro ai s σ H xs us Q I r h;obtain⟨i,j,rfl,q⟩:=h;obtain⟨u,w',rfl,⟨t,rfl⟩,⟨t',rfl⟩⟩:=vals2 r;refine min_two_ints (I.ok.hd hc) λh' tk k=>⟨_,H,I.kept k,?_,q⟩;by_cases hj:j < i
 .rw [ay hj,ay hj];exact⟨_,rfl⟩
 rw [av hj,av hj];exact⟨_,rfl⟩
def vI:dZ X (.type "str") (λxs H Q=>∃i,xs=[.int i]/\i.natAbs.log2 < 1920/\Q (.str (toString i)) H):=by
 intro ai s σ H xs us Q I r h;obtain⟨i,rfl,hz,q⟩:=h;obtain⟨u,rfl,t,rfl⟩:=vals1 r;exact PySem.P.str_of_int hz ⟨.str _,H,I.tok _,⟨_,rfl⟩,q⟩
end
structure zV (h:Heap)(x dx C:Addr)(mA:Str->Option Value):Prop where
 obj:h.get? x=some (PySem.W.instObj C dx)
 ns:h.Ns1 dx mA
 ne:dx≠x
def tq {h:Heap}{dx:Addr}{mA:Str->Option Value}(n:h.Ns1 dx mA):∃od,h.get? dx=some od/\∀name,PySem.W.lookIn name od=some (mA name):=by
 obtain⟨o,es,ep,ho,hd,hk,_,hm⟩:=n;refine⟨o,ho,λname=>?_⟩;have e:=hm name;unfold nsFind findBy at e;rw [<-Array.find?_toList] at e;unfold PySem.W.lookIn;rw [hd];dsimp only
 split
 .rename_i y q
  rw [q] at e;exact congrArg some e
 rename_i q
 rw [q] at e;have a:es.toList.any (·.refKey)=false:=by
  rw [List.any_eq_false];intro y hy;obtain⟨z,t,S_⟩:=hk y (Array.mem_toList_iff.mp hy);simp [DictEntry.refKey,S_]
 have a':¬es.toList.any (·.refKey)=true:=by rw [a];exact dS
 rw [av a'];exact congrArg some e
def zV.look {h:Heap}{x dx C:Addr}{mA:Str->Option Value}(I:zV h x dx C mA):∃od,PySem.W.InstAt h x (PySem.W.instObj C dx) C (some od)/\∀name,PySem.W.lookIn name od=some (mA name) :=
 let ⟨od,ho,hl⟩:=tq I.ns
 ⟨od,⟨I.obj,rfl,rfl,ho⟩,hl⟩
section
variable {prog:Program}{w:World}{A:Around}{E:Value->Shared->Prop}{s:Shared}{K:aY}{x dx C f:Addr}{mA:Str->Option Value}{name:Str}{v:Value}
def get_map {expr:Bool}{Q:Value->Shared->Prop}(X:K.In s.heap)(I:zV s.heap x dx C mA)(hg:PySem.W.plainGet K C name=true)(hh:PySem.W.hasDictIn K C=true)
  (ha:PySem.W.findIn K (.ref C) name=some none)(hv:mA name=some v)(Z3:PySem.W.handedIn v=true)(h:Q v { s with toks:=s.toks+1 }) :
  wpAny (model prog w) A (getAttr (.ref x) name expr) Q E s:=by
 obtain⟨od,J,hl⟩:=I.look;exact PySem.W.get_value X J (PySem.W.plainGet_of hg).1 (PySem.W.findObj_own hh ha rfl (by rw [hl,hv])) Z3 h
def EM {pl:Sem Bool}{Q:Value×List Value->Shared->Prop}(X:K.In s.heap)(I:zV s.heap x dx C mA)(hg:PySem.W.plainGet K C name=true)
  (hf:PySem.W.findIn K (.ref C) name=some (some (.ref f)))(ht:PySem.W.isFn K (.ref f)=true)(hv:mA name=none)(h:Q (.ref f,[.ref x]) s) :
  wpAny (model prog w) A (getMethod (.ref x) name pl) Q E s:=by
 obtain⟨od,J,hl⟩:=I.look;exact PySem.W.method_fn X J (PySem.W.plainGet_of hg).1 (PySem.W.plainGet_of hg).2 hf (beq_iff_eq.mp ht) (by show (PySem.W.lookIn name od).map (·.isSome)=some false;rw [hl,hv];rfl) h
def Ga {ns:List Str}{Q:Unit->Shared->Prop}(X:K.In s.heap)(I:zV s.heap x dx C mA)
  (hs:PySem.W.findIn K (.ref C) "__setattr__"=some (some (.builtin "object.__setattr__")))(hp:PySem.W.plainOver K C=true)(ht:PySem.W.takerIn K C name=some none)(hh:PySem.W.hasDictIn K C=true)
  (hw:PySem.Within mA ns)(hsz:ns.length<=sizeLine)
  (h:∀h',zV h' x dx C (λy=>if y=name then some v else mA y)->Heap.SameBut dx s.heap h'->Q () { s with heap:=h',toks:=s.toks+2 }) :
  wpAny (model prog w) A (setAttr (.ref x) name v) Q E s:=by
 obtain⟨od,J,hl⟩:=I.look;refine PySem.W.set_plain X J hs (PySem.W.osa_open (s:={ s with toks:=s.toks+1 }) (r:=none) X J hp ht λb=>?_);obtain⟨cd,hc,BY⟩:=PySem.W.any_some hh;have hx:s.heap.get? x=some ⟨.ref C,some dx,.plain,#[]⟩:=I.obj;refine aB (aR (aB (aB (wpAny_loadPart hx (aB (PySem.W.Looks.here (s:={ s with toks:=s.toks+1 }) (PySem.W.looks_clsIn X hc) ?_))))));rw [BY];refine aR (a:=some dx) (aB (aR (aB ?_)));refine wpAny_nsSet1 (s:={ s with toks:=s.toks+1 }) I.ns λh' Iw NY=>?_;obtain⟨oD,esD,epD,SS,Tq,Tw⟩:=Iw.count (PySem.Within.cons name v hw);refine aB (wpAny_lookBehind SS (by rw [Tq];exact pastItsLine_dict (df Tw (by rw [cH];omega))) ?_);exact aR (h _ ⟨(NY.2 _ (cZ I.ne)).trans I.obj,Iw,I.ne⟩ NY)
def Ej {R:Result->Shared->Prop}{vs:List Value}{kw:List (Str×Value)}(X:K.In s.heap)(hm:PySem.W.makesIn K C=true)
  (hi:PySem.W.findIn K (.ref C) "__init__"=some (some (.ref f)))(hf:PySem.W.typeIn K (.ref f)=some (.type "function"))
  (h:codeAny (model prog w) (A.under (.builtin "type.__call__" ⟨.ref C::vs,kw⟩)) (.call (.ref f) ⟨.ref (s.heap.objs.size+1)::vs,kw⟩) (PySem.W.InitBack (s.heap.objs.size+1) R)
   { s with heap:=(s.heap.push PySem.W.emptyDict).push (PySem.W.instObj C s.heap.objs.size) }) :
  codeAny (model prog w) A (.call (.ref C) ⟨vs,kw⟩) R s:=by
 obtain⟨hh,g,d,t,os⟩:=s;exact PySem.W.make_core (PySem.W.makes_of X hm) (PySem.W.looks_findIn X hi) (λself=>PySem.W.bind_fn X self hf) (.inl rfl) h
end
def dq (f:Str)(v:V):List (Str×V)->List (Str×V)
 | []=>[(f,v)]
 | (g,x)::r=>if g=f then (g,v)::r else (g,x)::dq f v r
theorem oV (f g:Str)(v:V):∀fs:List (Str×V),(dq f v fs).lookup g=if g=f then some v else fs.lookup g
 | []=>by
  show List.lookup g [(f,v)]=_;by_cases h:g=f
  .have hb:(g == f)=true:=beq_iff_eq.mpr h;simp only [List.lookup,hb,ay h]
  have hb:(g == f)=false:=iJ.mpr h;simp only [List.lookup,hb,av h]
 | (k,x)::r=>by
  have ih:=oV f g v r;rw [show dq f v ((k,x)::r)=(if k=f then (k,v)::r else (k,x)::dq f v r) from rfl];by_cases hk:k=f
  .rw [ay hk];by_cases h:g=k
   .have hb:(g == k)=true:=beq_iff_eq.mpr h;simp only [List.lookup,hb,ay (h.trans hk)]
   have hb:(g == k)=false:=iJ.mpr h;simp only [List.lookup,hb,av (λe:g=f=>h (e.trans hk.symm))]
  rw [av hk];by_cases h:g=k
  .have hb:(g == k)=true:=beq_iff_eq.mpr h;simp only [List.lookup,hb,av (λe:g=f=>hk (h.symm.trans e))]
  have hb:(g == k)=false:=iJ.mpr h;simp only [List.lookup,hb];exact ih
theorem oi (f:Str)(v:V):∀fs:List (Str×V),f∈(dq f v fs).map (·.1)/\∀g,g∈fs.map (·.1)->g∈(dq f v fs).map (·.1)
 | []=>⟨by simp [dq],λg h=>by simp at h⟩
 | (k,x)::r=>by
  obtain⟨i1,i2⟩:=oi f v r;rw [show dq f v ((k,x)::r)=(if k=f then (k,v)::r else (k,x)::dq f v r) from rfl];by_cases hk:k=f
  .rw [ay hk];subst hk;exact⟨by simp,λg h=>by simpa using h⟩
  rw [av hk];refine⟨?_,λg h=>?_⟩
  .rw [bz];exact cM _ i1
  rw [bz] at h ⊢;rcases aT.mp h with e | e
  .exact aT.mpr (.inl e)
  exact cM _ (i2 g e)
theorem oW (f:Str)(v:V):∀fs:List (Str×V),(dq f v fs).length<=fs.length+1
 | []=>by simp [dq]
 | (k,x)::r=>by
  have ih:=oW f v r;rw [show dq f v ((k,x)::r)=(if k=f then (k,v)::r else (k,x)::dq f v r) from rfl];by_cases hk:k=f
  .rw [ay hk,cH,cH];omega
  rw [av hk,cH,cH];omega
def hJ.some_of {v:V}{o:Option Value}(r:hJ (some v) o):∃u,o=some u/\RelV v u:=by
 cases o with
 | none=>exact(show False from r).elim
 | some u=>exact⟨u,rfl,r⟩
def hJ.none_of {o:Option Value}(r:hJ none o):o=none:=by
 cases o with
 | none=>rfl
 | some u=>exact(show False from r).elim
def tI {v:V}{u:Value}(r:RelV v u):PySem.W.handedIn u=true:=by
 cases v with
 | dP=>cases (show u=Value.none from r);rfl
 | bl b=>cases (show u=Value.bool b from r);rfl
 | int i=>obtain⟨t,e⟩:=(show ∃t,u=Value.int i t from r);cases e;rfl
 | str x=>obtain⟨t,e⟩:=(show ∃t,u=Value.str x t from r);cases e;rfl
 | Ci b=>obtain⟨t,e⟩:=(show ∃t,u=Value.bytes b t from r);cases e;rfl
 | K_ b=>obtain⟨t,e⟩:=(show ∃t,u=Value.float b t from r);cases e;rfl
 | ref a=>cases (show u=Value.ref a from r);rfl
 | ty n=>cases (show u=Value.type n from r);rfl
section
variable {P:Program}{w:World}{H H':Hp}{h h':Heap}{a C dx:Addr}{fs FP:List (Str×V)}
def vw (bD:j8 P w H h)(e:H a=some (.ins C dx fs)):∃mA,zV h a dx C mA/\(∀f,hJ (fs.lookup f) (mA f))/\PySem.Within mA (fs.map (·.1))/\fs.length<=1000/\H dx=some (.own a):=by
 obtain⟨d,z,ne,ob,mA,n,r,q⟩:=(show bU P w H h a (.ins C dx fs) from bD a _ e);exact⟨mA,⟨ob,n,ne⟩,r,q,z,d⟩
end
structure Cy (K:aY)(C:Addr):Prop where
 pg:PySem.W.plainGet K C Str.empty=true
 hd:PySem.W.hasDictIn K C=true
 po:PySem.W.plainOver K C=true
 sa:PySem.W.findIn K (.ref C) "__setattr__"=some (some (.builtin "object.__setattr__"))
def Cy.get {K:aY}{C:Addr}(c:Cy K C)(f:Str):PySem.W.plainGet K C f=true:=c.pg
def cV (K:aY)(C:Addr)(f:Str):Prop:=PySem.W.findIn K (.ref C) f=some none
def cV.MA {K:aY}{C:Addr}{f:Str}(n:cV K C f):PySem.W.takerIn K C f=some none:=by
 unfold PySem.W.takerIn;rw [show PySem.W.findIn K (.ref C) f=some none from n];rfl
structure Con (K:aY)(C:Addr)(f:Str)(v:V)(u:Value):Prop where
 at_:PySem.W.findIn K (.ref C) f=some (some u)
 rel:RelV v u
 get:PySem.W.specialIn K u "__get__"=some none
 cp:PySem.W.copiedNames.contains f=false
structure Meth (K:aY)(C:Addr)(m:Str)(f:Addr):Prop where
 at_:PySem.W.findIn K (.ref C) m=some (some (.ref f))
 fn:PySem.W.isFn K (.ref f)=true
 kp:PySem.W.keepIn K (.ref f)=true
section
variable {X:Cx}{ai:List (Addr×Obj)}{σ:St}{H:Hp}{s:Shared}{a C dx:Addr}{fs:List (Str×V)}{f:Str}{v:V}{A:Around}{E:Value->Shared->Prop}
def zE {b:Bool}{Q:Value->Shared->Prop}(I:Inv X ai σ H s)(e:H a=some (.ins C dx fs))(c:Cy X.K C)(n:cV X.K C f)(l:fs.lookup f=some v)
  (h:∀u s',Inv X ai σ H s'->RelV v u->Q u s'):wpAny (model X.prog X.w) A (getAttr (.ref a) f b) Q E s:=by
 obtain⟨mA,O,r,_,_,_⟩:=vw I.bD e;obtain⟨u,hu,ru⟩:=hJ.some_of (v:=v) (o:=mA f) (by rw [<-l];exact r f);exact get_map I.jX O (c.get f) c.hd n hu (tI ru) (h u _ (I.tok _) ru)
def qW {m:Str}{g:Addr}{pl:Sem Bool}{Q:Value×List Value->Shared->Prop}(I:Inv X ai σ H s)(e:H a=some (.ins C dx fs))(c:Cy X.K C)(k:Meth X.K C m g)(l:fs.lookup m=none)
  (h:Q (.ref g,[.ref a]) s):wpAny (model X.prog X.w) A (getMethod (.ref a) m pl) Q E s:=by
 obtain⟨mA,O,r,_,_,_⟩:=vw I.bD e;have hn:mA m=none:=hJ.none_of (by rw [<-l];exact r m);exact EM I.jX O (c.get m) k.at_ k.fn hn h
def yu {y:V}{u:Value}{Q:Unit->Shared->Prop}(I:Inv X ai σ H s)(e:H a=some (.ins C dx fs))(c:Cy X.K C)(n:cV X.K C f)(hl:fs.length < 1000)(ry:RelV y u)
  (h:∀s',Inv X ai σ (upd H a (.ins C dx (dq f y fs))) s'->Q () s'):wpAny (model X.prog X.w) A (setAttr (.ref a) f u) Q E s:=by
 obtain⟨mA,O,r,wi,_,ho⟩:=vw I.bD e;have hz:(fs.map (·.1)).length<=sizeLine:=by rw [aC,gT];omega
 refine Ga I.jX O c.sa c.po n.MA c.hd wi hz λh' O' sb=>h _ ?_;have hd:∃o,h'.get? dx=some o:=let ⟨o,_,_,e',_⟩:=O'.ns;⟨o,e'⟩;refine I.write (x:=a) (e:=dx) (by rw [e];exact True.intro) (.inr ho) (λb q hb z=>(sb.2 b hb).trans z) hd ?_;refine⟨by rw [aj O.ne];exact ho,?_,O.ne,O'.obj,_,O'.ns,λg=>?_,λg hg=>?_⟩
 .have:=oW f y fs;omega
 .show hJ ((dq f y fs).lookup g) (if g=f then some u else mA g);rw [oV];by_cases q:g=f
  .rw [ay q,ay q];exact ry
  rw [av q,av q];exact r g
 by_cases q:g=f
 .rw [q];exact(oi f y fs).1
 refine(oi f y fs).2 g (wi g λz=>hg ?_);show (if g=f then some u else mA g)=none;rw [av q];exact z
def Inv.made (I:Inv X ai σ H s):Inv X ai σ (upd (upd H s.heap.objs.size (.own (s.heap.objs.size+1))) (s.heap.objs.size+1) (.ins C s.heap.objs.size []))
  { s with heap:=(s.heap.push PySem.W.emptyDict).push (PySem.W.instObj C s.heap.objs.size) }:=by
 have e1:(s.heap.push PySem.W.emptyDict).get? s.heap.objs.size=some PySem.W.emptyDict:=cI s.heap rfl;have e2:((s.heap.push PySem.W.emptyDict).push (PySem.W.instObj C s.heap.objs.size)).get? (s.heap.objs.size+1)=some (PySem.W.instObj C s.heap.objs.size):=by
  have:=cI (s.heap.push PySem.W.emptyDict) (o:=PySem.W.instObj C s.heap.objs.size) rfl;rwa [i6] at this
 have e3:(s.heap.push PySem.W.emptyDict).Ns s.heap.objs.size (λ_=>none):=⟨PySem.W.emptyDict,#[],_,e1,rfl,(λe he=>absurd he (by simp)),λ_=>rfl⟩;have I1:=I.laid (a:=s.heap.objs.size) (o:=.own (s.heap.objs.size+1)) (h':=s.heap.push PySem.W.emptyDict) (t':=s.toks) (λb u q=>bC _ q) (aK _) ⟨_,e1⟩;refine I1.laid (a:=s.heap.objs.size+1) (o:=.ins C s.heap.objs.size []) (t':=s.toks) (λb u q=>bC _ q) (Nat.le_of_eq (i6 _ _)) ?_;have ne:s.heap.objs.size≠s.heap.objs.size+1:=bx (lI _);refine⟨by rw [aj ne,af],dC _,ne,e2,λ_=>none,(Heap.Ns1.of_empty e3).at λo q=>bC _ q,λ_=>True.intro,λy hy=>absurd rfl hy⟩
def A4 {prog:Program}{w:World}{env:Env}{e:Expr}{f:Str}{pos:Pos}{s:Shared}{Q:Value->Shared->Prop}(hb:attributeBase e f env (eval e env)=eval e env)
  (h:wpAny (model prog w) A (eval e env) (λo s₁=>wpAny (model prog w) A (getAttr o f true) Q E s₁) E s):wpAny (model prog w) A (eval (.Attribute e f pos) env) Q E s :=
 Attribute_any_ h (by rw [arm_eval_Attribute,hb])
end
inductive O6 (K:aY)(H:Hp)(f:Str)(x:V)(R:V->Prop):Prop
|mk(a C dx:Addr)(fs:List (Str×V))(v:V)(e:x=.ref a)(h:H a=some (.ins C dx fs))(c:Cy K C)(n:cV K C f)(l:fs.lookup f=some v)(q:R v)
inductive Xv (K:aY)(H:Hp)(f:Str)(x:V)(R:Addr->Addr->Addr->List (Str×V)->Prop):Prop
|mk(a C dx:Addr)(fs:List (Str×V))(e:x=.ref a)(h:H a=some (.ins C dx fs))(c:Cy K C)(n:cV K C f)(l:fs.length < 1000)(q:R a C dx fs)
def Q0 (K:aY)(ta:TE)(f:Str):TE:=λσ H Q=>ta σ H λx H1=>O6 K H1 f x λv=>Q v H1
def Ra (K:aY)(ta tv:TE)(f:Str):TS:=λD σ H=>tv σ H λy H1=>ta σ H1 λx H2=>Xv K H2 f x λa C dx fs=>D.nx σ (upd H2 a (.ins C dx (dq f y fs)))
section
variable {X:Cx}{o e value:Expr}{f:Str}{pos pos' nR:Pos}{ta tv:TE}
def dQ (he:PE X e ta)(hb:attributeBase e f X.env (eval e X.env)=eval e X.env):PE X (.Attribute e f pos) (Q0 X.K ta f):=by
 intro ai s σ H Q I h;refine A4 hb (cx (he ai s σ H _ I h) λu s1 aV=>?_);obtain⟨x,H1,I1,rx,a,C,dx,fs,v,ex,ea,c,n,l,q⟩:=aV;subst ex;obtain rfl:u=Value.ref a:=rx;exact zE I1 ea c n l λu' s2 I2 ru=>⟨v,H1,I2,ru,q⟩
def fu (ha:PE X o ta)(hv:PE X value tv)(hs:swapsWith value (some (.Attribute o f pos')) pos.line X.env=pure false):PS X (.Assign [.Attribute o f pos'] value pos) (Ra X.K ta tv f):=by
 intro ai s σ H D I h;refine plainObj_wpAny_Assign_Attribute (cx (hv ai s σ H _ I h) λu s1 aV=>?_) hs;obtain⟨y,H1,I1,ry,q⟩:=aV;refine cx (ha ai s1 σ H1 _ I1 q) λov s2 aV=>?_;obtain⟨x,H2,I2,rx,a,C,dx,fs,ex,ea,c,n,l,q2⟩:=aV;subst ex;obtain rfl:ov=Value.ref a:=rx;exact yu I2 ea c n l ry λs3 I3=>⟨σ,_,I3,q2⟩
def Ij {pl:Sem Bool}{m:Str}{apos:Pos}{args:List Expr}{ai:List (Addr×Obj)}{s:Shared}{σ:St}{H:Hp}{Q:Value->Shared->Prop}{te:TE}(he:PE X e te)(I:Inv X ai σ H s)
  (h:te σ H λx H1=>∃a C dx fs g,x=.ref a/\H1 a=some (.ins C dx fs)/\Cy X.K C/\Meth X.K C m g/\fs.lookup m=none /\
   ∀s1,Inv X ai σ H1 s1->wpAny (model X.prog X.w) X.A (callWith pos (.ref g) [.ref a] (backTo pos (starEach args X.env)) (backToKw pos (keywordEach [] X.env))) Q X.xe s1)
  (ht:eval (.Call (.Attribute e m apos) args [] pos) X.env=(do
   let ov <-eval e X.env
   standAt apos.atName
   let (f,first) <-holding [ov] (getMethod ov m pl)
   callWith pos f first (backTo pos (starEach args X.env)) (backToKw pos (keywordEach [] X.env)))) :
  wpAny (model X.prog X.w) X.A (eval (.Call (.Attribute e m apos) args [] pos) X.env) Q X.xe s:=by
 refine PySem.W.methodCall_KW (pl:=pl) (cx (he ai s σ H _ I h) λu s1 aV=>?_) ht;obtain⟨x,H1,I1,rx,a,C,dx,fs,g,ex,ea,c,k,l,q⟩:=aV;subst ex;obtain rfl:u=Value.ref a:=rx;exact qW I1 ea c k l (q s1 I1)
end
section
variable {X:Cx}{ai:List (Addr×Obj)}{σ:St}{H:Hp}{s:Shared}{A:Around}{E:Value->Shared->Prop}{Q:Value->Shared->Prop}{c:Value}{b:Bool}
inductive rJ (K:aY)(H:Hp):V->Value->Prop where
 | dP:rJ K H .dP (.type "NoneType")
 | bl (x:Bool):rJ K H (.bl x) (.type "bool")
 | int (i:Int):rJ K H (.int i) (.type "int")
 | str (x:Str):rJ K H (.str x) (.type "str")
 | K_ (x:UInt64):rJ K H (.K_ x) (.type "float")
 | lst {a:Addr}{xs:List V}(e:H a=some (.lst xs)):rJ K H (.ref a) (.type "list")
 | ju {a:Addr}{o:Obj}{xs:List V}(e:H a=some (.ju o (.lst xs))):rJ K H (.ref a) (.type "list")
 | tup {a:Addr}{xs:List V}(e:H a=some (.tup xs)):rJ K H (.ref a) (.type "tuple")
 | dK {a:Addr}{kvs:List (aN×V)}(e:H a=some (.dK kvs)):rJ K H (.ref a) (.type "dict")
 | dT {a:Addr}{kvs:List (List aN×V)}(e:H a=some (.dT kvs)):rJ K H (.ref a) (.type "dict")
 | ins {a C dx:Addr}{fs:List (Str×V)}(e:H a=some (.ins C dx fs))(cl:Cy K C)(ha:PySem.W.findIn K (.ref C) "__class__"=some (some (.builtin "object.__class__")))
   (hn:PySem.W.specialIn K (.builtin "object.__class__") "__get__"=some (some (.builtin "getset_descriptor.__get__")))(htk:PySem.W.takesIn K (.builtin "object.__class__")=some true)
   (hm:PySem.W.mroIn K C (.type "object")=some true):rJ K H (.ref a) (.ref C)
end
structure dB (k:Nat)(A:Around):Prop where
 hd:A.handled=none
 dp:A.depth+3 * k+5 < recursionLimit
 un:A.units+16 * k+200 < cLine
def dB.mono {j k:Nat}{A:Around}(r:dB k A)(h:j<=k):dB j A:=⟨r.hd,by have:=r.dp;omega,by have:=r.un;omega⟩
theorem dB.deeper {k:Nat}{A:Around}(r:dB (k+1) A)(env:Env):dB k (A.deeper env) :=
 ⟨r.hd,by have:=r.dp;show A.depth+1+3 * k+5 < _;omega,by have:=r.un;show A.units+3+16 * k+200 < _;omega⟩
theorem dB.in1 {k:Nat}{A:Around}(r:dB (k+1) A):dB k A.in1 :=
 ⟨r.hd,by have:=r.dp;show A.depth+3 * k+5 < _;omega,by have:=r.un;show A.units+1+16 * k+200 < _;omega⟩
def zk {A:Around}{C:Addr}{us:List Value}{kw:List (Str×Value)}:(A.under (.builtin "type.__call__" ⟨.ref C::us,kw⟩)).depth=A.depth+1:=by
 first | rfl | simp [Around.under,Code.weight,Code.isCreation,Code.isGuard,Code.isCaller,Code.frames,Code.isFrame,guardIds]
def zj {A:Around}{C:Addr}{us:List Value}{kw:List (Str×Value)}:(A.under (.builtin "type.__call__" ⟨.ref C::us,kw⟩)).units=A.units+1:=by
 first | rfl | simp [Around.under,Code.cUnits,Code.frames,Code.isFrame]
def dB.make {k:Nat}{A:Around}(r:dB (k+1) A)(C:Addr)(us:List Value)(kw:List (Str×Value)):dB k (A.under (.builtin "type.__call__" ⟨.ref C::us,kw⟩)) :=
 ⟨r.hd,by have:=r.dp;rw [zk];omega,by have:=r.un;rw [zj];omega⟩
theorem dB.depth {k:Nat}{A:Around}(r:dB k A):A.depth < recursionLimit:=by have:=r.dp;omega
theorem dB.units {k:Nat}{A:Around}(r:dB k A):A.units+64 < cLine:=by have:=r.un;omega
def qv:TA:=λ_ H Q=>Q [] H
def fq (ta:TE)(tr:TA):TA:=λσ H Q=>ta σ H λx H1=>tr σ H1 λxs H2=>Q (x::xs) H2
section
variable {X:Cx}{e:Expr}{es:List Expr}{te:TE}{t:TA}{pos:Pos}
def ak:PA X [] qv:=λ_ _ _ _ H Q I h=>Calls.spliced_nil ⟨[],H,I,.nil,h⟩
def ae (ha:PE X e te)(hr:PA X es t)(hs:starEach (e::es) X.env=(false,eval e X.env)::starEach es X.env:=by rfl):PA X (e::es) (fq te t):=by
 intro pos ai s σ H Q I h;rw [hs];show wpAny _ _ (spliced ((false,eval e X.env)::backTo pos (starEach es X.env))) _ _ s;refine nH (cx (ha ai s σ H _ I h) λu s1 aV=>?_);obtain⟨x,H1,I1,r1,q1⟩:=aV;refine cx (hr pos ai s1 σ H1 _ I1 q1) λus s2 aV=>?_;obtain⟨xs,H2,I2,r2,q2⟩:=aV;exact⟨x::xs,H2,I2,.cons r1 r2,q2⟩
def rR (t:TA):TE:=λσ H Q=>t σ H λxs H1=>xs.length<=sizeLine/\∀p,H1 p=none->Q (.ref p) (upd H1 p (.tup xs))
def MP (t:TA):TE:=λσ H Q=>t σ H λxs H1=>xs.length<=sizeLine/\∀p,H1 p=none->Q (.ref p) (upd H1 p (.lst xs))
def bS {x1}(h:PA X es t):PE X (.Tuple es x1 pos) (rR t):=by
 intro ai s σ H Q I hq;refine wpAny_Tuple_spliced (cx (h pos ai s σ H _ I hq) λus s1 aV=>?_);obtain⟨xs,H1,I1,r,z,q⟩:=aV;refine⟨by rw [<-r.length];exact z,?_⟩;have hf:H1 s1.heap.objs.size=none:=I1.bD.fresh (aK _);refine⟨.ref s1.heap.objs.size,upd H1 s1.heap.objs.size (.tup xs),I1.laid (t':=s1.toks) (λb u e=>bC _ e) (aK _) ?_,rfl,q _ hf⟩;exact⟨z,us,r,⟨_,cI _ rfl,rfl,_,rfl⟩⟩
def bo (h:PA X es t):PE X (.List es pos) (MP t):=by
 intro ai s σ H Q I hq;refine wpAny_List_spliced (cx (h pos ai s σ H _ I hq) λus s1 aV=>?_);obtain⟨xs,H1,I1,r,z,q⟩:=aV;refine⟨by rw [<-r.length];exact z,?_⟩;have hf:H1 s1.heap.objs.size=none:=I1.bD.fresh (aK _);refine⟨.ref s1.heap.objs.size,upd H1 s1.heap.objs.size (.lst xs),I1.laid (t':=s1.toks) (λb u e=>bC _ e) (aK _) ?_,rfl,q _ hf⟩;exact⟨z,us,0,r,cI _ rfl⟩
end
abbrev Sp:=List V->Hp->VK->XK->Prop
abbrev tZ:=List Env->Hp->Shared->XK->Value->Shared->Prop
structure pI (P:Program)(w:World)(K:aY)(mg:Str->Option Value)(base:Heap)(A:Around)(outer:List Env)(s:Shared)(H:Hp):Prop where
 frames:A.frames=some outer
 mod:Mod K mg base
 bs:∀b o,base.get? b=some o->s.heap.get? b=some o/\H b=none
 E_:base.objs.size<=s.heap.objs.size
 mK:s.heap.FunFrames base outer
 Hn:∀b∈pC outer,H b=none
 bD:j8 P w H s.heap
 bare:AllBare s.gens
def CE (outer:List Env)(P:Program)(w:World)(H:Hp)(s:Shared)(Q:VK)(u:Value)(s':Shared):Prop :=
 ∃v H',s'.os=s.os/\AllBare s'.gens/\Un (pC outer) [] H H' s.heap s'.heap/\j8 P w H' s'.heap/\RelV v u/\Q v H'
def CR (CX:tZ)(outer:List Env)(P:Program)(w:World)(H:Hp)(s:Shared)(Q:VK)(E:XK)(r:Result)(s':Shared):Prop :=
 match r with
 | .ok (.ret u)=>CE outer P w H s Q u s'
 | .ok _=>False
 | .error e=>CX outer H s E e s'
structure bA (P:Program)(w:World)(K:aY)(mg:Str->Option Value)(base:Heap)(CX:tZ) (k:Nat)(f:Addr)(fd:FuncData) (ps:List Str)(sp:Sp):Prop where
 len:∀vs H Q E,sp vs H Q E->vs.length=ps.length
 run:∀(A:Around)(outer:List Env)(s:Shared)(H:Hp)(args:Args)(us:List Value)(vs:List V)(Q:VK)(E:XK),dB k A->pI P w K mg base A outer s H->BindsTo s fd args (ps.zip us)->aU vs us->sp vs H Q E ->
  codeAny (model P w) A (.call (.ref f) args) (CR CX outer P w H s Q E) s
theorem bA.mono {P:Program}{w:World}{K:aY}{mg:Str->Option Value}{base:Heap}{CX:tZ}{j k:Nat}{f:Addr}{fd:FuncData}{ps:List Str}{sp:Sp}(F:bA P w K mg base CX j f fd ps sp)(h:j<=k) :
  bA P w K mg base CX k f fd ps sp:=⟨F.len,λA outer s H args us vs Q E hr=>F.run A outer s H args us vs Q E (hr.mono h)⟩
def bA.imp {P:Program}{w:World}{K:aY}{mg:Str->Option Value}{base:Heap}{CX:tZ}{k:Nat}{f:Addr}{fd:FuncData}{ps:List Str}{sp Vz:Sp}(F:bA P w K mg base CX k f fd ps sp)
  (h:∀vs H Q E,Vz vs H Q E->sp vs H Q E):bA P w K mg base CX k f fd ps Vz :=
 ⟨λvs H Q E q=>F.len vs H Q E (h _ _ _ _ q),λA outer s H args us vs Q E hr he hb hv hs=>F.run A outer s H args us vs Q E hr he hb hv (h _ _ _ _ hs)⟩
def pI.make {P:Program}{w:World}{K:aY}{mg:Str->Option Value}{base:Heap}{A:Around}{outer:List Env}{s:Shared}{H:Hp}(e:pI P w K mg base A outer s H)(C:Addr)(us:List Value)(kw:List (Str×Value)) :
  pI P w K mg base (A.under (.builtin "type.__call__" ⟨.ref C::us,kw⟩)) outer s H:=⟨by first | exact e.frames | (simpa [Around.under,Code.envs,Code.isFrame,pushEnvs] using e.frames),e.mod,e.bs,e.E_,e.mK,e.Hn,e.bD,e.bare⟩
theorem pI.in1 {P:Program}{w:World}{K:aY}{mg:Str->Option Value}{base:Heap}{A:Around}{outer:List Env}{s:Shared}{H:Hp}(e:pI P w K mg base A outer s H) :
  pI P w K mg base A.in1 outer s H:=⟨e.frames,e.mod,e.bs,e.E_,e.mK,e.Hn,e.bD,e.bare⟩
section
variable {X:Cx}{ai:List (Addr×Obj)}{σ:St}{H:Hp}{s s':Shared}
def Inv.E2 (I:Inv X ai σ H s):pI X.prog X.w X.K X.mg X.base X.A X.stack s H :=
 ⟨I.ok.frames,I.ok.mod,I.bs,df I.ok.E_ I.sz,I.stack,I.pK,I.bD,I.bare⟩
def Inv.after {Q:VK}{u:Value}(I:Inv X ai σ H s)(h:CE X.stack X.prog X.w H s Q u s'):EP X ai σ Q u s':=by
 obtain⟨v,H',os,bare,un,bD,r,q⟩:=h;obtain⟨hh,g,d,t,YO⟩:=s';obtain rfl:YO=s.os:=os;exact⟨v,H',I.call (h':=hh) (g':=g) (d':=d) (t':=t) (ch:=[]) un bD bare (λb z=>absurd z (by simp)),r,q⟩
end
def HP (sp:Sp)(rQ:List V)(E:XK)(t:TA):TE:=λσ H Q=>t σ H λvs H1=>sp (vs++rQ) H1 Q E
def MN (C:Addr)(m:Str)(sp:Sp)(rQ:List V)(E:XK)(ta:TE)(t:TA):TE:=λσ H Q=>ta σ H λx H1=>∃a dx fs,x=.ref a/\H1 a=some (.ins C dx fs)/\fs.lookup m=none /\
 t σ H1 λvs H2=>sp (x::(vs++rQ)) H2 Q E
def MO (C:Addr)(sp:Sp)(rQ:List V)(E:XK)(t:TA):TE:=λσ H Q=>t σ H λvs H1=>∀x dx,H1 x=none->H1 dx=none->dx≠x ->
 sp (.ref x::(vs++rQ)) (upd (upd H1 dx (.own x)) x (.ins C dx [])) (λv H2=>v=.dP/\Q (.ref x) H2) E
def Binds (K:aY)(fd:FuncData) (ps:List Str)(ds:List Value):Prop :=
 ∀(s:Shared)(us:List Value),K.In s.heap->(us++ds).length=ps.length->BindsTo s fd ⟨us,[]⟩ (ps.zip (us++ds))
def Binds.all {K:aY}{fd:FuncData}{ps:List Str}(h:∀us:List Value,us.length=ps.length->bindArgs fd ⟨us,[]⟩=pure (ps.zip us)):Binds K fd ps []:=λs us _ hl=>by
 rw [dD] at hl ⊢;exact .of_eq (h us hl)
def Passes (CX:tZ)(X:Cx)(E:XK):Prop:=∀(ai:List (Addr×Obj))(σ:St)(H:Hp)(s:Shared)(e:Value)(s':Shared),Inv X ai σ H s->CX X.stack H s E e s'->X.xe e s'
section
variable {X:Cx}{CX:tZ}{k:Nat}{f C:Addr}{fd:FuncData}{ps:List Str}{sp:Sp}{rQ:List V}{ds:List Value}{E:XK}{x m:Str}{p pos apos:Pos}{e o:Expr}{es:List Expr}{ta:TE}{t:TA}
def Dp {ai:List (Addr×Obj)}{σ:St}{H:Hp}{s:Shared}{Q:VK}{us:List Value}{vs:List V}(F:bA X.prog X.w X.K X.mg X.base CX k f fd ps sp)(hr:dB k X.A)(hb:Binds X.K fd ps ds)(hd:aU rQ ds)(hx:Passes CX X E)
  (I:Inv X ai σ H s)(r:aU vs us)(h:sp (vs++rQ) H Q E):wpAny (model X.prog X.w) X.A (call (.ref f) us) (EP X ai σ Q) X.xe s:=by
 have r2:aU (vs++rQ) (us++ds):=r.append hd;have hl:(us++ds).length=ps.length:=by rw [<-r2.length];exact F.len _ _ _ _ h
 refine hZ (ix (F.run X.A X.stack s H ⟨us,[]⟩ (us++ds) (vs++rQ) Q E hr I.E2 (hb s us I.jX hl) r2 h) λr s' hq=>?_);cases r with
 | error e=>exact hx ai σ H s e s' I hq
 | ok fl =>
  cases fl with
  | ret u=>exact I.after hq
  | next=>exact False.elim hq
  | brk=>exact False.elim hq
  | cont=>exact False.elim hq
def GU (F:bA X.prog X.w X.K X.mg X.base CX k f fd ps sp)(hr:dB k X.A)(hg:Gl X x)(hm:X.mg x=some (.ref f))(hk:PySem.W.keepIn X.K (.ref f)=true)(hb:Binds X.K fd ps ds)(hd:aU rQ ds)(hx:Passes CX X E)
  (ha:PA X (e::es) t)(vC:(x == ("__debug__":Str))=false:=by decide)(he:starEach (e::es) X.env=(false,eval e X.env)::starEach es X.env:=by rfl)(oX:(backTo pos (starEach es X.env)).any (·.1)=false:=by rfl) :
  PE X (.Call (.Name x p) (e::es) [] pos) (HP sp rQ E t):=by
 intro ai s σ H Q I h;refine ka (jc I hg hm ?_ vC);refine PySem.W.callWith_K (h₀:=X.base) I.ok.mod.Kn hk (cx (ha pos ai s σ H _ I h) λus s1 aV=>?_) he oX;obtain⟨vs,H1,I1,r,q⟩:=aV;refine⟨I1.jX,?_⟩;exact Dp F hr hb hd hx I1 r q
def AB {pl:Sem Bool}(he:PE X o ta)(c:Cy X.K C)(hm:Meth X.K C m f)(F:bA X.prog X.w X.K X.mg X.base CX k f fd ps sp)(hr:dB k X.A)(hb:Binds X.K fd ps ds)(hd:aU rQ ds)(hx:Passes CX X E)(ha:PA X (e::es) t)
  (mD:starEach (e::es) X.env=(false,eval e X.env)::starEach es X.env:=by rfl)(oX:(backTo pos (starEach es X.env)).any (·.1)=false:=by rfl)
  (ht:eval (.Call (.Attribute o m apos) (e::es) [] pos) X.env=(do
   let ov <-eval o X.env
   standAt apos.atName
   let (f,first) <-holding [ov] (getMethod ov m pl)
   callWith pos f first (backTo pos (starEach (e::es) X.env)) (backToKw pos (keywordEach [] X.env))):=by rfl) :
  PE X (.Call (.Attribute o m apos) (e::es) [] pos) (MN C m sp rQ E ta t):=by
 intro ai s σ H Q I h;refine PySem.W.methodCall_KW (pl:=pl) (cx (he ai s σ H _ I h) λu s1 aV=>?_) ht;obtain⟨x,H1,I1,rx,a,dx,fs,ex,ea,l,q⟩:=aV;subst ex;obtain rfl:u=Value.ref a:=rx;refine qW I1 ea c hm l ?_;refine PySem.W.callWith_K (first:=[.ref a]) (h₀:=X.base) I.ok.mod.Kn hm.kp (cx (ha pos ai s1 σ H1 _ I1 q) λus s2 aV=>?_) mD oX;obtain⟨vs,H2,I2,r,q2⟩:=aV;refine⟨I2.jX,?_⟩;exact Dp (us:=.ref a::us) (vs:=.ref a::vs) F hr hb hd hx I2 (.cons rfl r) q2
structure Mk (K:aY)(C f:Addr):Prop where
 makes:PySem.W.makesIn K C=true
 init:PySem.W.findIn K (.ref C) "__init__"=some (some (.ref f))
 fn:PySem.W.isFn K (.ref f)=true
 kp:PySem.W.keepIn K (.ref C)=true
def Dn {ai:List (Addr×Obj)}{σ:St}{H:Hp}{s:Shared}{Q:VK}{us:List Value}{vs:List V}(M:Mk X.K C f)(F:bA X.prog X.w X.K X.mg X.base CX k f fd ps sp)(hr:dB (k+1) X.A)(hb:Binds X.K fd ps ds)(hd:aU rQ ds)
  (hx:Passes CX X E)(I:Inv X ai σ H s)(r:aU vs us)
  (h:∀x dx,H x=none->H dx=none->dx≠x->sp (.ref x::(vs++rQ)) (upd (upd H dx (.own x)) x (.ins C dx [])) (λv H2=>v=.dP/\Q (.ref x) H2) E) :
  wpAny (model X.prog X.w) X.A (call (.ref C) us) (EP X ai σ Q) X.xe s:=by
 have hq:=h (s.heap.objs.size+1) s.heap.objs.size (I.bD.fresh (gU _)) (I.bD.fresh (aK _)) (bx (lI _));have I2:=Inv.made (C:=C) I;have r2:aU (V.ref (s.heap.objs.size+1)::(vs++rQ)) (Value.ref (s.heap.objs.size+1)::(us++ds)):=.cons rfl (r.append hd);have hl:(Value.ref (s.heap.objs.size+1)::us++ds).length=ps.length:=by
  have e:=r2.length;rw [F.len _ _ _ _ hq] at e;exact e.symm
 refine hZ (Ej (f:=f) I.jX M.makes M.init (beq_iff_eq.mp M.fn) (ix (F.run _ X.stack _ _ ⟨Value.ref (s.heap.objs.size+1)::us,[]⟩ (Value.ref (s.heap.objs.size+1)::(us++ds)) _ _ E (hr.make C us [])
  (I2.E2.make C us []) (hb _ (Value.ref (s.heap.objs.size+1)::us) I2.jX hl) r2 hq) λr s' N4=>?_))
 cases r with
 | error e=>exact hx ai σ _ _ e s' I2 N4
 | ok fl =>
  cases fl with
  | ret u =>
   obtain⟨v,H',I3,rv,ev,q3⟩:=I2.after N4;subst ev;exact⟨rv,⟨V.ref (s.heap.objs.size+1),H',I3,rfl,q3⟩⟩
  | next=>exact False.elim N4
  | brk=>exact False.elim N4
  | cont=>exact False.elim N4
def va (M:Mk X.K C f)(F:bA X.prog X.w X.K X.mg X.base CX k f fd ps sp)(hr:dB (k+1) X.A)(hg:Gl X x)(hm:X.mg x=some (.ref C))(hb:Binds X.K fd ps ds)(hd:aU rQ ds)(hx:Passes CX X E)
  (ha:PA X (e::es) t)(vC:(x == ("__debug__":Str))=false:=by decide)(he:starEach (e::es) X.env=(false,eval e X.env)::starEach es X.env:=by rfl)(oX:(backTo pos (starEach es X.env)).any (·.1)=false:=by rfl) :
  PE X (.Call (.Name x p) (e::es) [] pos) (MO C sp rQ E t):=by
 intro ai s σ H Q I h;refine ka (jc I hg hm ?_ vC);refine PySem.W.callWith_K (h₀:=X.base) I.ok.mod.Kn M.kp (cx (ha pos ai s σ H _ I h) λus s1 aV=>?_) he oX;obtain⟨vs,H1,I1,r,q⟩:=aV;refine⟨I1.jX,?_⟩;exact Dn M F hr hb hd hx I1 r q
end
section
variable {X:Cx}{CX:tZ}{k:Nat}{f C:Addr}{fd:FuncData}{ps ks:List Str}{sp:Sp}{E:XK}{x m:Str}{p pos apos ZP:Pos}{e o:Expr}{es:List Expr}{kws:List Keyword}{te ta:TE}{t tk:TA}{nm:Option Str}
structure U9 (K:aY)(fd:FuncData) (ps ks:List Str)(g:List Value->List Value->List Value)(gV:List V->List V->List V):Prop where
 to:∀(s:Shared)(us ws:List Value),K.In s.heap->(g us ws).length=ps.length->BindsTo s fd ⟨us,ks.zip ws⟩ (ps.zip (g us ws))
 rel:∀{vs:List V}{us:List Value}{zs:List V}{ws:List Value},aU vs us->aU zs ws->aU (gV vs zs) (g us ws)
variable {g:List Value->List Value->List Value}{gV:List V->List V->List V}
end
structure aM (N P:List Str)(sc:Scope):Prop where
 kind:sc.kind=.function
 co:sc.isCoroutine=false
 gen:sc.isGenerator=false
 nd:N.Nodup
 pre:N.take P.length=P
 par:∀x∈P,sc.names.lookup x=some .local\/sc.names.lookup x=some .cell
 J0:∀y∈sc.names,y.2≠.free
def i5 {N P:List Str}{sc:Scope}(a:sc.kind=.function)(b:sc.isCoroutine=false)(c:sc.isGenerator=false)(d:N.take P.length=P)(e:N.Nodup/\(∀x∈P,sc.names.lookup x=some .local\/sc.names.lookup x=some .cell)/\∀y∈sc.names,y.2≠.free):aM N P sc:=⟨a,b,c,e.1,d,e.2.1,e.2.2⟩
theorem tS {kindOf:Str->Option NameKind}{x:Str}:∀{binds:List (Str×Value)}{m:Str->Option Value},(∀v,(x,v)∉binds)->bindL kindOf binds m x=m x
 | [],_,_=>rfl
 | (n,v)::r,m,h=>by
  unfold bindL;rw [tS λw hw=>h w (cM _ hw)]
  split
  .have:x≠n:=by rintro rfl;exact h v bT
   simp [this]
  rfl
theorem tU {kindOf:Str->Option NameKind}{x:Str}:∀{binds:List (Str×Value)}{m:Str->Option Value},(∀v,(x,v)∉binds)->bindC kindOf binds m x=m x
 | [],_,_=>rfl
 | (n,v)::r,m,h=>by
  unfold bindC;rw [tU λw hw=>h w (cM _ hw)]
  split
  .rfl
  have:x≠n:=by rintro rfl;exact h v bT
  simp [this]
theorem tT {kindOf:Str->Option NameKind}{x:Str}{v:Value}:∀{P:List Str}{vs:List Value}{i:Nat}{m:Str->Option Value},P.Nodup->P[i]?=some x->vs[i]?=some v->kindOf x=some .local ->
  bindL kindOf (P.zip vs) m x=some v
 | [],_,_,_,_,h,_,_=>by simp at h
 | _::_,[],_,_,_,_,h,_=>by simp at h
 | p::P,w::vs,0,m,nd,h1,h2,hk=>by
  simp at h1 h2;subst h1;subst h2;show bindL kindOf ((p,w)::P.zip vs) m p=_;unfold bindL;rw [tS λv hv=>(oG.mp nd).1 (List.of_mem_zip hv).1,ay hk];simp
 | p::P,w::vs,i+1,m,nd,h1,h2,hk=>by
  show bindL kindOf ((p,w)::P.zip vs) m x=_;unfold bindL;exact tT (i:=i) (oG.mp nd).2 (by simpa using h1) (by simpa using h2) hk
theorem tV {kindOf:Str->Option NameKind}{x:Str}{v:Value}:∀{P:List Str}{vs:List Value}{i:Nat}{m:Str->Option Value},P.Nodup->P[i]?=some x->vs[i]?=some v->kindOf x≠some .local ->
  bindC kindOf (P.zip vs) m x=some v
 | [],_,_,_,_,h,_,_=>by simp at h
 | _::_,[],_,_,_,_,h,_=>by simp at h
 | p::P,w::vs,0,m,nd,h1,h2,hk=>by
  simp at h1 h2;subst h1;subst h2;show bindC kindOf ((p,w)::P.zip vs) m p=_;unfold bindC;rw [tU λv hv=>(oG.mp nd).1 (List.of_mem_zip hv).1,av hk];simp
 | p::P,w::vs,i+1,m,nd,h1,h2,hk=>by
  show bindC kindOf ((p,w)::P.zip vs) m x=_;unfold bindC;exact tV (i:=i) (oG.mp nd).2 (by simpa using h1) (by simpa using h2) hk
def start (N:List Str)(vs:List V):St:=vs.map some++List.replicate (N.length - vs.length) none
def gK (CX:tZ)(P:Program)(w:World)(K:aY)(mg:Str->Option Value)(base:Heap) (N:List Str)(qual:Str)(scope:Scope)(f:Addr)(cd:Value)(A:Around)(outer:List Env)(s:Shared)(H:Hp)(E:XK):Cx where
 prog:=P
 w:=w
 K:=K
 mg:=mg
 base:=base
 A:=A.deeper (envOfC qual scope s.heap.objs.size f cd)
 N:=N
 s₀:=s
 H₀:=H
 env:=envOfC qual scope s.heap.objs.size f cd
 outer:=outer
 stack:=envOfC qual scope s.heap.objs.size f cd::outer
 ex:=[]
 calm:=true
 fn:=λ_=>true
 pn:=[]
 xe:=λe s'=>wpAny (model P w) (A.deeper (envOfC qual scope s.heap.objs.size f cd)) (leaving (envOfC qual scope s.heap.objs.size f cd) e) (λ_ Gn=>CX outer H s E e Gn) (λe' Gn=>CX outer H s E e' Gn) s'
def xD {sc:Scope}{n:Nat}{x:Str}(h:sc.names.lookup x=some .cell):∃c,(cellsFrom n sc.names []).lookup x=some c:=by
 have q:=PySem.W.cellsFrom_some sc.names n [] (.inl h);exact lM.mp q
def tF {CX:tZ}{P:Program}{w:World}{K:aY}{mg:Str->Option Value}{base:Heap}{N ps:List Str}{qual:Str}{scope:Scope}{f:Addr}{cd:Value}{A:Around}{outer:List Env}{s s1:Shared}{H:Hp}{E:XK}{us:List Value}{vs:List V}
  (S:aM N ps scope)(hd:A.handled=none)(e0:pI P w K mg base A outer s H)(hl:vs.length=ps.length)(r:aU vs us)
  (x:InCallC s s.heap.objs.size (bindL (envOfC qual scope s.heap.objs.size f cd).kindOf (ps.zip us) λ_=>none) (cellsFrom (s.heap.objs.size+1) scope.names []) (bindC (envOfC qual scope s.heap.objs.size f cd).kindOf (ps.zip us) λ_=>none) s1) :
  Inv (gK CX P w K mg base N qual scope f cd A outer s H E) [] (start N vs) H s1:=by
 have oX:ps.length<=N.length:=by have:=congrArg List.length S.pre;rw [fh] at this;omega
 obtain⟨h1,tk,rfl,hk⟩:=x.done;have Nm:∀b:Addr,b∉(gK CX P w K mg base N qual scope f cd A outer s H E).ex:=λb z=>absurd (show b∈([]:List Addr) from z) (by simp);refine⟨⟨e0.mod,S.kind,rfl,rfl,aK _,λy z c h1 h2=>?_,λy hy=>?_,λy c _ h=>?_,λ_=>hd,Around.frames_deeper e0.frames,.inr ⟨rfl,rfl⟩,λb z=>absurd z (Nm b),e0.bs,e0.E_,λb _ _=>Nm b,λb z=>absurd z (Nm b),e0.mK,e0.Hn⟩,
  rfl,e0.bare,Un.kept hk,⟨_,x.toInCall.ns,λi y v h1 h2 h3=>?_⟩,λy c h=>⟨_,x.cell y c h⟩,e0.bD.fresh (aK _),λy c h=>?_,λp hp=>absurd (show p∈([]:List (Addr×Obj)) from hp) (by simp),e0.bD.kept hk,?_⟩
 .exact name_of_addr x.apart (qk h1) (qk h2)
 .have hy:scope.names.lookup y=some .cell\/scope.names.lookup y=some .free:=hy;rcases hy with hy | hy
  .exact xD hy
  exact absurd rfl (S.J0 _ (qk hy))
 .exact jy (x.above y c (qk h))
 .have hi:i < vs.length:=by
   unfold start at h2;by_cases hi:i < vs.length
   .exact hi
   rw [p5 (by simpa using hi)] at h2;rw [List.getElem?_replicate] at h2
   split at h2 <;> cases h2
  have ha:vs[i]?=some v:=by
   unfold start at h2;rw [sC (by simpa using hi),bH] at h2;cases e:vs[i]? with
   | none=>rw [e] at h2;cases h2
   | some a=>rw [e] at h2;cases h2;rfl
  obtain⟨u,hu,rv⟩:=r.get ha;have hp:ps[i]?=some y:=by
   rw [<-S.pre,List.getElem?_take_of_lt ∅];exact h1
  have VW:ps.Nodup:=by rw [<-S.pre];exact S.nd.sublist (List.take_sublist _ _)
  refine⟨u,rv,?_⟩;rcases S.par y (bQ hp) with k | k
  .exact .inl ⟨k,tT VW hp hu k⟩
  obtain⟨c,e⟩:=xD (n:=s.heap.objs.size+1) k;refine .inr ⟨.inl k,c,e,?_⟩;have q:=x.cell y c e;rw [tV VW hp hu (by show scope.names.lookup y≠_;rw [k];decide)] at q;exact q
 .exact e0.bD.fresh (jy (x.above y c (qk h)))
 unfold start;show _=N.length;rw [bZ,aC,ql];omega
def AU {CX:tZ}{P:Program}{w:World}{K:aY}{mg:Str->Option Value}{base:Heap}{k:Nat}{f:Addr}{name qual:Str}{params:Arguments}{body:List Stmt}{scope:Scope}{dV kV doc pm dG ct oc:Value}{an od:Option Addr}
  {vS:Array (Option Value)}{N ps:List Str}{sp:Sp}(lk:K.lookup f=some ⟨oc,od,.func (PySem.W.fnOf name qual params body scope dV kV doc pm an dG ct),vS⟩)(rX:PySem.W.codeIn K dG qual=true)(S:aM N ps scope)
  (len:∀vs H Q E,sp vs H Q E->vs.length=ps.length)
  (g9:∀(A:Around)(outer:List Env)(s:Shared)(H:Hp)(vs:List V)(Q:VK)(E:XK),dB k (A.deeper (envOfC qual scope s.heap.objs.size f dG))->sp vs H Q E ->
   ∃t,xK (gK CX P w K mg base N qual scope f dG A outer s H E) body t/\t { nx:=λ_ H'=>Q .dP H',rt:=Q } (start N vs) H) :
  bA P w K mg base CX (k+1) f (PySem.W.fnOf name qual params body scope dV kV doc pm an dG ct) ps sp:=by
 refine⟨len,λA outer s H args us vs Q E hr e0 hb r px=>?_⟩;have hl:=len _ _ _ _ px;have KX:K.In s.heap:=e0.mod.Kn.keeps λb o e=>(e0.bs b o e).1;have lim:s.heap.NoLimit:=e0.mod.nolimit.keeps λb o e=>(e0.bs b o e).1;have iU:∀y∈ps.zip us,scope.names.lookup y.1=some .local\/(scope.names.lookup y.1=some .cell/\((cellsFrom (s.heap.objs.size+1) scope.names []).lookup y.1).isSome=true):=λ⟨n,v⟩ hy=>by
  rcases S.par n (List.of_mem_zip hy).1 with q | q
  .exact .inl q
  exact .inr ⟨q,PySem.W.cellsFrom_some _ _ _ (.inl q)⟩
 refine codeAny_call_function hr.depth (KX _ _ lk) rfl S.co S.gen rfl (PySem.W.codeRec_of KX rX) (hb _ _ _ _ ?_);refine wpAny_newFunctionEnv_cells S.kind iU λenv he s1 x=>?_;subst he;refine⟨lim.keeps x.toInCall.keep,codeAny_func ?_⟩;obtain⟨t,ht,hq⟩:=g9 A outer s H vs Q E (hr.deeper _) px;have I:Inv (gK CX P w K mg base N qual scope f dG A outer s H E) [] (start N vs) H s1:=tF S hr.hd e0 hl r x;refine cw (ht [] s1 (start N vs) H _ I hq) (λfl s' hs=>?_) λe s' hs=>hs;have fin:∀{σ':St}{H':Hp}{v:V}{u:Value},Inv (gK CX P w K mg base N qual scope f dG A outer s H E) [] σ' H' s'->RelV v u->Q v H'->CE outer P w H s Q u s' :=
  λ{σ' H' v u} J rv q=>⟨v,H',J.os,J.bare,J.base,J.bD,rv,q⟩
 cases fl with
 | ret u =>
  obtain⟨v,σ',H',J,rv,q⟩:=hs;exact fin J rv q
 | next =>
  obtain⟨σ',H',J,q⟩:=hs;exact fin (v:=V.dP) (u:=Value.none) J rfl q
 | brk =>
  obtain⟨_,_,_,q⟩:=hs;exact False.elim q
 | cont =>
  obtain⟨_,_,_,q⟩:=hs;exact False.elim q
section
variable {X:Cx}{x:Str}{p pos:Pos}{e:Expr}{es:List Expr}{t:TA}{id T:String}{r:List V->Hp->VK->Prop}
def Vt (r:List V->Hp->VK->Prop)(t:TA):TE:=λσ H Q=>t σ H λvs H1=>r vs H1 Q
def aJ (hc:dZ X (.builtin id) r)(hg:Gl X x)(hm:X.mg x=none)(hv:bootBuiltins x=some (.builtin id))(ha:PA X (e::es) t)(hn:x ≠ "__name__" := by decide)(vC:(x == ("__debug__":Str))=false:=by decide)
  (he:starEach (e::es) X.env=(false,eval e X.env)::starEach es X.env:=by rfl)(oX:(backTo pos (starEach es X.env)).any (·.1)=false:=by rfl):PE X (.Call (.Name x p) (e::es) [] pos) (Vt r t):=by
 intro ai s σ H Q I h;refine ka (g8 I hg hm hv ?_ hn vC);refine PyProof.Rows.callWith_builtin1 (cx (ha pos ai s σ H _ I h) λus s1 aV=>?_) he oX;obtain⟨vs,H1,I1,r1,q1⟩:=aV;exact hc ai s1 σ H1 vs us Q I1 r1 q1
def a_ (hc:dZ X (.type T) r)(hg:Gl X x)(hm:X.mg x=none)(hv:bootBuiltins x=some (.type T))(ha:PA X (e::es) t)(hn:x ≠ "__name__" := by decide)(vC:(x == ("__debug__":Str))=false:=by decide)
  (he:starEach (e::es) X.env=(false,eval e X.env)::starEach es X.env:=by rfl)(oX:(backTo pos (starEach es X.env)).any (·.1)=false:=by rfl):PE X (.Call (.Name x p) (e::es) [] pos) (Vt r t):=by
 intro ai s σ H Q I h;refine ka (g8 I hg hm hv ?_ hn vC);refine v8 (cx (ha pos ai s σ H _ I h) λus s1 aV=>?_) he oX;obtain⟨vs,H1,I1,r1,q1⟩:=aV;exact hc ai s1 σ H1 vs us Q I1 r1 q1
end
end L2
namespace HT
open PySem PyProof.Rows
section
open PySem.SeqAt
open PySem.AutoSeq1 (wpAny_loadPart')
open PySem.MeetsSeq PySem.MeetsSeq2 PySem.MeetsSeq3
end
section
variable {prog:Program}{w:World}{A:Around}{E:Value->Shared->Prop}{s:Shared}
def nY (n d:Nat):Option Int->Nat
 | none=>d
 | some v=>if v < 0 then (v+(n:Int)).toNat else min v.toNat n
def Dj (n d:Nat):nY n d none=d:=rfl
def Au (n d k:Nat):nY n d (some (k:Int))=min k n:=by
 show (if (k:Int) < 0 then ((k:Int)+(n:Int)).toNat else min (k:Int).toNat n)=min k n;rw [av ∅,lJ]
end
end HT
namespace L2
open PySem PySem.Spec PyProof.Rows
abbrev TO:=St->Hp->(Option Int->Hp->Prop)->Prop
def PO (X:Cx)(e:Option Expr)(t:TO):Prop :=
 ∀(ai:List (Addr×Obj))(s:Shared)(σ:St)(H:Hp)(Q:Option Int->Hp->Prop),Inv X ai σ H s->t σ H Q ->
  wpAny (model X.prog X.w) X.A (evalPart e X.env) (λu s'=>∃o H',Inv X ai σ H' s'/\IsPart u o/\Q o H') X.xe s
def F8:TO:=λ_ H Q=>Q none H
def MH (t:TE):TO:=λσ H Q=>t σ H λx H1=>U3 x λi=>Q (some i) H1
def intsAre_of {ns:List Int}:∀{us:List Value},aU (ns.map V.int) us->IntsAre us ns:=by
 induction ns with
 | nil=>intro us r;rw [iz] at r;cases r;exact .nil
 | cons n ns ih =>
  intro us r;rw [bz] at r;cases r with
  | cons r1 r2 =>
   obtain⟨t,e⟩:=r1;subst e;exact .cons n t (ih r2)
section
variable {X:Cx}{e:Expr}{te:TE}{lo hi:Option Expr}{tl th:TO}{pos p2:Pos}
def fV:PO X none F8:=by
 intro ai s σ H Q I h;rw [evalPart_none];exact aR ⟨none,H,I,.none,h⟩
def dW (h:PE X e te):PO X (some e) (MH te):=by
 intro ai s σ H Q I hw;rw [evalPart_some];refine cx (h ai s σ H _ I hw) λu s1 aV=>?_;obtain⟨x,H1,I1,r1,q1⟩:=aV;obtain⟨i,rfl,q⟩:=q1;obtain⟨t,rfl⟩:=r1;exact⟨some i,H1,I1,.int i t,q⟩
def Mr (X:Cx)(r:V->Option Int->Option Int->Hp->VK->Prop):Prop :=
 ∀(ai:List (Addr×Obj))(s:Shared)(σ:St)(H:Hp)(x:V)(v vl vu:Value)(lo hi:Option Int)(sl:Addr)(Q:VK),Inv X ai σ H s->RelV x v->s.heap.IsSliceOf sl vl vu .none->IsPart vl lo->IsPart vu hi->r x lo hi H Q ->
  ∃T id,typeLookup (.type T) "__getitem__"=pure (some (.builtin id))/\s.TypeIs v T/\wpAny (model X.prog X.w) X.A (getItem v (.ref sl)) (EP X ai σ Q) X.xe s
def Mr.or {r r':V->Option Int->Option Int->Hp->VK->Prop}(h:Mr X r)(h':Mr X r'):Mr X (λx lo hi H Q=>r x lo hi H Q\/r' x lo hi H Q):=by
 intro ai s σ H x v vl vu lo hi sl Q I rx hs pl pu q;rcases q with q | q
 .exact h ai s σ H x v vl vu lo hi sl Q I rx hs pl pu q
 exact h' ai s σ H x v vl vu lo hi sl Q I rx hs pl pu q
def X4 (r:V->Option Int->Option Int->Hp->VK->Prop)(te:TE)(tl th:TO):TE:=λσ H Q=>te σ H λx H1=>tl σ H1 λl H2=>th σ H2 λu H3=>r x l u H3 Q
def dO {r:V->Option Int->Option Int->Hp->VK->Prop}(hr:Mr X r)(he:PE X e te)(hl:PO X lo tl)(hu:PO X hi th):PE X (.Subscript e (.Slice lo hi none p2) pos) (X4 r te tl th):=by
 intro ai s σ H Q I h;refine Subscript_ (cx (he ai s σ H _ I h) λv s1 aV=>?_);obtain⟨x,H1,I1,r1,q1⟩:=aV;refine wpAny_Slice (cx (hl ai s1 σ H1 _ I1 q1) λvl s2 aV=>?_);obtain⟨l,H2,I2,pl,q2⟩:=aV;refine cx (hu ai s2 σ H2 _ I2 q2) λvu s3 aV=>?_;obtain⟨u,H3,I3,pu,q3⟩:=aV;rw [evalPart_none];refine aR ?_;have I4:Inv X ai σ H3 { s3 with heap:=s3.heap.push { cls:=.type "slice",data:=.fields #[vl,vu,.none] } }:=I3.kept (t':=s3.toks) λb ob q=>bC _ q;obtain⟨T,id,hT,ht,hg⟩:=hr ai { s3 with heap:=s3.heap.push { cls:=.type "slice",data:=.fields #[vl,vu,.none] } } σ H3 x v vl vu l u s3.heap.objs.size Q I4 r1 (Heap.IsSliceOf.new ..) pl pu q3;show wpAny (model X.prog X.w) X.A (subscriptTail e (.Slice lo hi none p2) v (.ref s3.heap.objs.size)) (EP X ai σ Q) X.xe { s3 with heap:=s3.heap.push { cls:=.type "slice",data:=.fields #[vl,vu,.none] } };exact tail_any (ops:=[.ref s3.heap.objs.size,v]) ht hT hg (by with_unfolding_all rfl)
def eK (xs:List V)(lo hi:Option Int):List V:=(xs.drop (HT.nY xs.length 0 lo)).take (HT.nY xs.length xs.length hi - HT.nY xs.length 0 lo)
def xr (xs:List V)(lo hi:Option Int):(eK xs lo hi).length<=xs.length:=by
 unfold eK;rw [fh,oH];omega
end
def Ey (n:Nat) (i:Int):Option Nat:=if 0<=i then (if i < n then some i.toNat else none) else if -(n:Int)<=i then some (i+n).toNat else none
def si {α:Type}(xs:List α) (i:Int):Option α:=(Ey xs.length i).bind λj=>xs[j]?
def AL {n:Nat}{i:Int}{j:Nat}(h:Ey n i=some j):seqIndex? i n=some j/\j < n/\-(n:Int)<=i/\i < n:=by
 unfold Ey at h;by_cases h0:0<=i
 .rw [ay h0] at h;by_cases h1:i < n
  .rw [ay h1] at h;have e:i.toNat=j:=ib h;exact⟨by rw [seqIndex_of h0 h1,e],∅,∅,h1⟩
  rw [av h1] at h;cases h
 rw [av h0] at h;by_cases h1:-(n:Int)<=i
 .rw [ay h1] at h;have e:(i+n).toNat=j:=ib h;exact⟨by rw [seqIndex_neg ∅ h1,e],∅,h1,∅⟩
 rw [av h1] at h;cases h
def vK {α:Type}{xs:List α}{i:Int}{v:α}(h:si xs i=some v):∃j,seqIndex? i xs.length=some j/\xs[j]?=some v/\j < xs.length/\-(xs.length:Int)<=i/\i < xs.length:=by
 unfold si at h;cases e:Ey xs.length i with
 | none=>rw [e] at h;cases h
 | some j =>
  rw [e] at h;obtain⟨h1,h2,h3,h4⟩:=AL e;exact⟨j,h1,h,h2,h3,h4⟩
def dY {α:Type}{xs:List α}{j:Nat}{v:α}(h:xs[j]?=some v):si xs (j:Int)=some v:=by
 have hj:j < xs.length:=(bR.mp h).1;have e:Ey xs.length (j:Int)=some j:=by
  unfold Ey;rw [ay ∅,ay ∅];simp
 unfold si;rw [e];exact h
def mS {α:Type}(xs:List α)(v:α):si (xs++[v]) (-1)=some v:=by
 have hl:(xs++[v]).length=xs.length+1:=by simp
 have e:Ey (xs++[v]).length (-1)=some xs.length:=by
  unfold Ey;rw [hl,av nofun,ay ∅]
  congr 1
  omega
 unfold si;rw [e];show (xs++[v])[xs.length]?=some v;simp
def HE (b:Expr):Prop:=∀o i,subscripted b false o i=operate [o,i] (getItem o i)
def HH (X:Cx)(r:R2):Prop :=
 ∀(value slice:Expr)(ai:List (Addr×Obj))(s:Shared)(σ:St)(H:Hp)(x y:V)(v u:Value)(Q:VK),Inv X ai σ H s->RelV x v->RelV y u->r x y H Q ->
  subscripted slice false v u=operate [v,u] (getItem v u)->wpAny (model X.prog X.w) X.A (subscriptTail value slice v u) (EP X ai σ Q) X.xe s
def Pe (X:Cx)(id:String)(r:V->List V->Hp->VK->Prop):Prop :=
 ∀(ai:List (Addr×Obj))(s:Shared)(σ:St)(H:Hp)(x:V)(xs:List V)(v:Value)(us:List Value)(Q:VK),Inv X ai σ H s->RelV x v->aU xs us->r x xs H Q ->
  wpAny (model X.prog X.w) X.A (call (.builtin id) (v::us)) (EP X ai σ Q) X.xe s
section
variable {X:Cx}{a b:Expr}{ta tb:TE}{pos:Pos}
def HH.or {r r':R2}(h:HH X r)(h':HH X r'):HH X (λx y H Q=>r x y H Q\/r' x y H Q):=by
 intro value slice ai s σ H x y v u Q I rx ry q hs;rcases q with q | q
 .exact h value slice ai s σ H x y v u Q I rx ry q hs
 exact h' value slice ai s σ H x y v u Q I rx ry q hs
def Pe.or {id:String}{r r':V->List V->Hp->VK->Prop}(h:Pe X id r)(h':Pe X id r'):Pe X id (λx xs H Q=>r x xs H Q\/r' x xs H Q):=by
 intro ai s σ H x xs v us Q I rx rs q;rcases q with q | q
 .exact h ai s σ H x xs v us Q I rx rs q
 exact h' ai s σ H x xs v us Q I rx rs q
def aQ {r:R2}(hr:HH X r)(ha:PE X a ta)(hb:PE X b tb)(hs:HE b):PE X (.Subscript a b pos) (Pw r ta tb):=by
 intro ai s σ H Q I h;exact Subscript_ (Ls ha hb I h λv u s2 x y H2 I2 rx ry q=>hr a b ai s2 σ H2 x y v u Q I2 rx ry q (hs _ _))
inductive U2 (S:Addr->List V->Prop)(x y:V)(R:V->Prop):Prop
|mk(p:Addr)(xs:List V) (i:Int)(v:V)(e:x=.ref p)(e2:y=.int i)(s:S p xs)(a:si xs i=some v)(q:R v)
def M_ (K:aY):R2:=λx y H Q=>U2 (aH K H) x y λv=>Q v H
def Rl (K:aY):R2:=λx y H Q=>U2 (bj K H) x y λv=>Q v H
def Rm:R2:=λx y H Q=>∃z i c,x=.str z/\y=.int i/\z.length<=sizeLine/\si z.cps.toList i=some c/\Q (.str ⟨#[c]⟩) H
def aL:HH X (M_ X.K):=by
 intro value slice ai s σ H x y v u Q I rx ry h hs;obtain⟨p,xs,i,z,rfl,rfl,hq,he,q⟩:=h;cases rx;obtain⟨t,rfl⟩:=ry;obtain⟨aO,r,pl,hz⟩:=I.list hq;obtain⟨j,h1,h2,h3,h4,h5⟩:=vK he;obtain⟨w,ew,yO⟩:=r.get h2;have hl:=r.length;have hn:=jK;have fin:EP X ai σ Q w s:=⟨z,H,I,yO,q⟩;by_cases h0:0<=i
 .have hj:i.toNat=j:=by
   rw [seqIndex_of h0 h5] at h1;exact ib h1
  exact item_listR pl.isList h0 ∅ (by rw [hj];simpa using ew) fin hs
 have hj:(i+(aO.toArray.size:Int)).toNat=j:=by
  rw [seqIndex_neg ∅ h4] at h1;rw [b8,<-hl];exact ib h1
 exact subscriptTail_builtinR (x:=w) pl.isList.typeIs slot_list_getitem.lookup
  (wpAny_getItem_list_neg (Q:=λr s'=>r=w/\EP X ai σ Q r s') pl.isList ∅ (by rw [b8] <;> omega) ∅ (by rw [hj];simpa using ew) ⟨rfl,fin⟩) hs
def cK:HH X (Rl X.K):=by
 intro value slice ai s σ H x y v u Q I rx ry h hs;obtain⟨p,xs,i,z,rfl,rfl,hq,he,q⟩:=h;cases rx;obtain⟨t,rfl⟩:=ry;obtain⟨aO,r,pl,hz⟩:=I.tuple hq;obtain⟨j,h1,h2,h3,h4,h5⟩:=vK he;obtain⟨w,ew,yO⟩:=r.get h2;have hl:=r.length;have hn:=jK;have fin:EP X ai σ Q w s:=⟨z,H,I,yO,q⟩;exact subscriptTail_builtinR (x:=w) pl.typeIs slot_tuple_getitem.lookup
  (getItem_tuple (j:=j) (Q:=λr s'=>r=w/\EP X ai σ Q r s') pl ∅ ∅ (by rw [b8,<-hl];exact h1) (by simpa using ew) ⟨rfl,fin⟩) hs
def Kt:HH X Rm:=by
 intro value slice ai s σ H x y v u Q I rx ry h hs;obtain⟨z,i,c,rfl,rfl,hz,he,q⟩:=h;obtain⟨t,rfl⟩:=rx;obtain⟨t',rfl⟩:=ry;obtain⟨j,h1,h2,h3,h4,h5⟩:=vK he;have hl:z.cps.toList.length=z.length:=by simp [Str.length]
 rw [hl] at h1 h4 h5;have hn:=jK;exact tail_any (typeIs_str s z t) slot_str_getitem.lookup (getItem_str (c:=c) (by
  have e1:decide (i < -(2 ^ 63:Int))=false:=eM ∅;have e2:decide (i≥2 ^ 63)=false:=eM ∅;rw [e1,e2,Bool.or_false]) (by rw [h1];simpa using h2) ⟨.str ⟨#[c]⟩,H,I.tok _,⟨_,rfl⟩,q⟩) hs
def zi (aO:List Value) (n j:Nat)(u:Value):Obj.mapSeq (·.setIfInBounds j u) { cls:=.type "list",data:=.seq aO.toArray n }={ cls:=.type "list",data:=.seq (aO.set j u).toArray n }:=by
 simp [Obj.mapSeq]
theorem Inv.lst {ai:List (Addr×Obj)}{σ:St}{H:Hp}{s:Shared}{p:Addr}{xs:List V}(I:Inv X ai σ H s)(h:H p=some (.lst xs)) :
  ∃(aO:List Value) (n:Nat),aU xs aO/\s.heap.get? p=some { cls:=.type "list",data:=.seq aO.toArray n }/\xs.length<=sizeLine:=by
 obtain⟨z,aO,n,r,e⟩:=I.bD p _ h;exact⟨aO,n,r,e,z⟩
def Inv.Ke {ai:List (Addr×Obj)}{σ:St}{H:Hp}{s:Shared}{p:Addr}{xs ys:List V}{aO kY:List Value}{n n':Nat}{f:Obj->Obj}(I:Inv X ai σ H s)(h:H p=some (.lst xs))
  (ho:s.heap.get? p=some { cls:=.type "list",data:=.seq aO.toArray n })(hf:f { cls:=.type "list",data:=.seq aO.toArray n }={ cls:=.type "list",data:=.seq kY.toArray n' })(r:aU ys kY)(hz:ys.length<=sizeLine) (t:Nat) :
  Inv X ai σ (upd H p (.lst ys)) { s with heap:=s.heap.update p f,toks:=t }:=by
 have e:(s.heap.update p f).get? p=some { cls:=.type "list",data:=.seq kY.toArray n' }:=by
  rw [pY f ho (by rw [hf] <;> rfl),hf]
 refine I.write (x:=p) (e:=p) (by rw [h];trivial) (.inl rfl) (λb u hb q=>(jl _ _ (cZ hb)).trans q) ⟨_,e⟩ ?_;exact⟨hz,kY,n',r,e⟩
def M9:V->V->V->Hp->(Hp->Prop)->Prop:=λo i v H Q=>∃p xs k j,o=.ref p/\i=.int k/\H p=some (.lst xs)/\Ey xs.length k=some j/\Q (upd H p (.lst (xs.set j v)))
def set_list:O9 X M9:=by
 intro ai s σ H o i v ov iv u Q I ro ri rv h;obtain⟨p,xs,k,j,rfl,rfl,hp,hj,q⟩:=h;cases ro;obtain⟨t,rfl⟩:=ri;obtain⟨aO,n,r,ho,hz⟩:=I.lst hp;obtain⟨h1,h2,h3,h4⟩:=AL hj;have hl:=r.length;have hn:=jK;have I':Inv X ai σ (upd H p (.lst (xs.set j v))) { s with heap:=s.heap.update p (Obj.mapSeq (·.setIfInBounds j u)) } :=
  I.Ke hp ho (zi aO n j u) (r.set rv j) (by rw [qa];exact hz) s.toks
 by_cases h0:0<=k
 .have hk:k.toNat=j:=by
   rw [seqIndex_of h0 h4] at h1;exact ib h1
  exact PySem.W.ki_setAt ho h0 ∅ (by rw [b8,<-hl];exact h4) (by rw [hk];exact⟨_,I',q⟩)
 have hk:(k+(aO.toArray.size:Int)).toNat=j:=by
  rw [seqIndex_neg ∅ h3] at h1;rw [b8,<-hl];exact ib h1
 exact PySem.W.ki_setBack ho ∅ (by rw [b8,<-hl];exact h3) ∅ (by rw [hk];exact⟨_,I',q⟩)
def uR (lo hi:Option Int) (n:Nat):(sliceBounds lo hi none n).1=((HT.nY n 0 lo:Nat):Int)/\(sliceBounds lo hi none n).2.1=((HT.nY n n hi:Nat):Int)/\(sliceBounds lo hi none n).2.2=1:=by
 refine⟨?_,?_,rfl⟩
 .cases lo with
  | none=>simp [sliceBounds,HT.nY]
  | some i =>
   simp only [sliceBounds,HT.nY,Option.getD_none,show (1:Int) > 0 by decide,if_true];by_cases h:i < 0
   .simp only [h,if_true] <;> omega
   simp only [h,if_false] <;> omega
 cases hi with
 | none=>simp [sliceBounds,HT.nY]
 | some i =>
  simp only [sliceBounds,HT.nY,Option.getD_none,show (1:Int) > 0 by decide,if_true];by_cases h:i < 0
  .simp only [h,if_true] <;> omega
  simp only [h,if_false] <;> omega
def rT (aO:List Value)(lo hi:Option Int):slicePick aO.toArray lo hi none=((aO.drop (HT.nY aO.length 0 lo)).take (HT.nY aO.length aO.length hi - HT.nY aO.length 0 lo)).toArray:=by
 obtain⟨h1,h2,h3⟩:=uR lo hi aO.toArray.size;unfold slicePick;rw [h1,h2,h3];simp only [sliceRange_one,pick_run,b8] <;> rfl
def Rk (K:aY):V->Option Int->Option Int->Hp->VK->Prop:=λx lo hi H Q=>Xu x (aH K H) λxs=>∀p,H p=none->Q (.ref p) (upd H p (.lst (eK xs lo hi)))
def eY:Mr X (Rk X.K):=by
 intro ai s σ H x v vl vu lo hi sl Q I rx hs pl pu h;obtain⟨a,xs,rfl,hx,q⟩:=h;cases rx;obtain⟨aO,r,ht,hz⟩:=I.list hx;have bI:=r.length;refine⟨"list",_,slot_list_getitem.lookup,ht.isList.typeIs,?_⟩;refine wpAny_getItem_list_slice ht.isList hs pl pu .none (by simp) ?_ (by rw [b8] <;> omega)
 rw [rT,<-bI];refine⟨.ref s.heap.objs.size,_,I.laid (t':=s.toks) (o:=.lst (eK xs lo hi)) (λb ob q=>bC _ q) (aK _) ?_,rfl,q _ (I.bD.fresh (aK _))⟩;exact⟨df (xr xs lo hi) hz,_,0,(r.drop (HT.nY xs.length 0 lo)).take (HT.nY xs.length xs.length hi - HT.nY xs.length 0 lo),cI _ rfl⟩
def iY:V->Bool
 | .dP=>true
 | .bl _=>true
 | .int _=>true
 | .str _=>true
 | _=>false
def AX:V->V->Bool
 | .dP,.dP=>true
 | .bl a,.bl b=>a == b
 | .bl a,.int b=>(if a then 1 else 0) == b
 | .int a,.bl b=>a == (if b then 1 else 0)
 | .int a,.int b=>a == b
 | .str a,.str b=>a == b
 | _,_=>false
def EZ {A:Around}{s:Shared}{y x:V}{u v:Value}(ry:RelV y u)(rx:RelV x v)(fy:iY y=true)(fx:iY x=true):SeqAt.EqAt A s u v (AX y x):=by
 cases y with
 | dP =>
  cases ry;cases x with
  | dP=>cases rx;exact SeqAt.EqAt.same _
  | bl b=>cases rx;exact SeqAt.EqAt.none_bool b
  | int b=>obtain⟨t,rfl⟩:=rx;exact SeqAt.EqAt.none_int b t
  | str b=>obtain⟨t,rfl⟩:=rx;exact SeqAt.EqAt.none_str b t
  | _=>exact absurd (show false=true from fx) dS
 | bl a =>
  cases ry;cases x with
  | dP=>cases rx;exact SeqAt.EqAt.bool_none a
  | bl b=>cases rx;exact SeqAt.EqAt.bool_bool a b
  | int b=>obtain⟨t,rfl⟩:=rx;exact SeqAt.EqAt.bool_int a b t
  | str b=>obtain⟨t,rfl⟩:=rx;exact SeqAt.EqAt.bool_str a b t
  | _=>exact absurd (show false=true from fx) dS
 | int a =>
  obtain⟨t',rfl⟩:=ry;cases x with
  | dP=>cases rx;exact SeqAt.EqAt.int_none a t'
  | bl b=>cases rx;exact SeqAt.EqAt.int_bool a t' b
  | int b=>obtain⟨t,rfl⟩:=rx;exact SeqAt.EqAt.int_int a t' b t
  | str b=>obtain⟨t,rfl⟩:=rx;exact SeqAt.EqAt.int_str a t' b t
  | _=>exact absurd (show false=true from fx) dS
 | str a =>
  obtain⟨t',rfl⟩:=ry;cases x with
  | dP=>cases rx;exact SeqAt.EqAt.str_none a t'
  | bl b=>cases rx;exact SeqAt.EqAt.str_bool a t' b
  | int b=>obtain⟨t,rfl⟩:=rx;exact SeqAt.EqAt.str_int a t' b t
  | str b=>obtain⟨t,rfl⟩:=rx;exact SeqAt.EqAt.str_str a t' b t
  | _=>exact absurd (show false=true from fx) dS
 | _=>exact absurd (show false=true from fy) dS
def zK (x:V)(u:Value):Bool:=match u with
 | .none=>AX .dP x
 | .bool b=>AX (.bl b) x
 | .int i _=>AX (.int i) x
 | .str z _=>AX (.str z) x
 | _=>false
def EY {x y:V}{u:Value}(r:RelV y u)(f:iY y=true):zK x u=AX y x:=by
 cases y with
 | dP=>cases r;rfl
 | bl b=>cases r;rfl
 | int i=>obtain⟨t,rfl⟩:=r;rfl
 | str z=>obtain⟨t,rfl⟩:=r;rfl
 | _=>exact absurd (show false=true from f) dS
theorem mT {x:V}:∀{xs:List V}{us:List Value},aU xs us->xs.all iY=true->us.any (zK x)=xs.any λy=>AX y x
 | _,_,.nil,_=>rfl
 | y::xs,u::us,.cons r t,f=>by
  rw [List.all_cons,lH] at f;rw [p_,p_,EY r f.1,mT t f.2]
theorem jI {A:Around}{s:Shared}{x:V}{v:Value}(rx:RelV x v)(fx:iY x=true):∀{xs:List V}{us:List Value},aU xs us->xs.all iY=true->∀u∈us,SeqAt.EqAt A s u v (zK x u)
 | _,_,.nil,_=>λu hu=>by cases hu
 | y::xs,u::us,.cons r t,f=>λu' hu=>by
  rw [List.all_cons,lH] at f;rcases aT.mp hu with rfl | hu
  .rw [EY r f.1];exact EZ r rx f.1 fx
  exact jI rx fx t f.2 u' hu
def FK (x:V)(xs:List V):Bool:=xs.any λy=>AX y x
inductive Xy (S:Addr->List V->Prop)(x y:V)(R:List V->Prop):Prop
|mk(p:Addr)(xs:List V)(e:y=.ref p)(s:S p xs)(f:iY x=true)(g:xs.all iY=true)(q:R xs)
def VM (K:aY)(neg:Bool):R2:=λx y H Q=>Xy (λp xs=>aH K H p xs\/bj K H p xs) x y λxs=>Q (.bl (if neg then !FK x xs else FK x xs)) H
def n_:oB X (compareOp .In) (VM X.K false):=by
 intro ai s σ H x y v u Q I rx ry h;obtain⟨p,xs,rfl,hq,fx,fs,q⟩:=h;cases ry;rcases hq with hq | hq
 .obtain⟨aO,r,pl,hz⟩:=I.list hq;refine SeqAt.in_listAt (zK x) pl.isList (λw hw=>jI rx fx r fs w (by simpa using hw)) ⟨.bl _,H,I,rfl,?_⟩;rw [show aO.toArray.any (zK x)=aO.any (zK x) by simp,mT r fs];exact q
 obtain⟨aO,r,pl,hz⟩:=I.tuple hq;refine SeqAt.in_tupleAt (zK x) pl (λw hw=>jI rx fx r fs w (by simpa using hw)) ⟨.bl _,H,I,rfl,?_⟩;rw [show aO.toArray.any (zK x)=aO.any (zK x) by simp,mT r fs];exact q
def vc:oB X (compareOp .NotIn) (VM X.K true):=by
 intro ai s σ H x y v u Q I rx ry h;obtain⟨p,xs,rfl,hq,fx,fs,q⟩:=h;cases ry;rcases hq with hq | hq
 .obtain⟨aO,r,pl,hz⟩:=I.list hq;refine SeqAt.notIn_listAt (zK x) pl.isList (λw hw=>jI rx fx r fs w (by simpa using hw)) ⟨.bl _,H,I,rfl,?_⟩;rw [show aO.toArray.any (zK x)=aO.any (zK x) by simp,mT r fs];exact q
 obtain⟨aO,r,pl,hz⟩:=I.tuple hq;refine SeqAt.notIn_tupleAt (zK x) pl (λw hw=>jI rx fx r fs w (by simpa using hw)) ⟨.bl _,H,I,rfl,?_⟩;rw [show aO.toArray.any (zK x)=aO.any (zK x) by simp,mT r fs];exact q
def bN:dZ X (.builtin "len") (λxs H Q=>Lx xs (λp ys=>aH X.K H p ys\/bj X.K H p ys) λys=>Q (.int ys.length) H):=by
 intro ai s σ H xs us Q I r h;obtain⟨p,ys,rfl,hq,q⟩:=h;obtain⟨u,rfl,rx⟩:=vals1 r;cases rx;have hn:=jK;rcases hq with hq | hq
 .obtain⟨aO,r',pl,hz⟩:=I.list hq;have bI:=r'.length;exact Calls.call_len_list pl.isList (by simp only [b8] <;> omega) ⟨.int ys.length,H,I.tok _,⟨s.toks+1,by rw [b8,bI]⟩,q⟩
 obtain⟨aO,r',pl,hz⟩:=I.tuple hq;have bI:=r'.length;exact len_tuple pl (by simp only [b8] <;> omega) ⟨.int ys.length,H,I.tok _,⟨s.toks+1,by rw [b8,bI]⟩,q⟩
def mR:dZ X (.builtin "len") (λxs H Q=>∃z,xs=[.str z]/\z.length<=sizeLine/\Q (.int z.length) H):=by
 intro ai s σ H xs us Q I r h;obtain⟨z,rfl,hz,q⟩:=h;obtain⟨u,rfl,t,rfl⟩:=vals1 r;have hn:=jK;exact len_str ∅ ⟨.int z.length,H,I.tok _,⟨_,rfl⟩,q⟩
def dZ.or {f:Value}{r r':List V->Hp->VK->Prop}(h:dZ X f r)(h':dZ X f r'):dZ X f (λxs H Q=>r xs H Q\/r' xs H Q):=by
 intro ai s σ H xs us Q I rs q;rcases q with q | q
 .exact h ai s σ H xs us Q I rs q
 exact h' ai s σ H xs us Q I rs q
def gL:dZ X (.type "list") (λxs H Q=>Lx xs (λp ys=>aH X.K H p ys\/bj X.K H p ys) λys=>∀l,H l=none->Q (.ref l) (upd H l (.lst ys))):=by
 intro ai s σ H xs us Q I r h;obtain⟨p,ys,rfl,hq,q⟩:=h;obtain⟨u,rfl,rx⟩:=vals1 r;cases rx;have fin:∀(aO:List Value),aU ys aO->ys.length<=sizeLine->∀(h':Heap) (c':Nat),(∀b o',s.heap.get? b=some o'->h'.get? b=some o') ->
   h'.get? s.heap.objs.size=some { cls:=.type "list",dict:=none,data:=.seq aO.toArray c',slots:=#[] }->EP X ai σ Q (.ref s.heap.objs.size) { s with heap:=h' }:=λaO r' hz h' c' kp e =>
  ⟨.ref s.heap.objs.size,_,I.laid (t':=s.toks) kp (aK _) (show bU X.prog X.w _ h' _ (.lst ys) from ⟨hz,aO,c',r',e⟩),rfl,q _ (I.bD.fresh (aK _))⟩
 rcases hq with hq | hq
 .obtain⟨aO,r',pl,hz⟩:=I.list hq;have bI:=r'.length;obtain⟨o,ho,hc,n,hd⟩:=pl.isList;exact call_list_seq p (.inl rfl) ho hc hd (λh' c' kp e=>fin aO r' hz h' c' kp e) (by simp only [b8] <;> omega)
 obtain⟨aO,r',pl,hz⟩:=I.tuple hq;have bI:=r'.length;obtain⟨o,ho,hc,n,hd⟩:=pl;exact call_list_seq p (.inr rfl) ho hc hd (λh' c' kp e=>fin aO r' hz h' c' kp e) (by simp only [b8] <;> omega)
def eU:dZ X (.type "tuple") (λxs H Q=>∃p ys,xs=[.ref p]/\((aH X.K H p ys/\∀l,H l=none->Q (.ref l) (upd H l (.tup ys)))\/(bj X.K H p ys/\Q (.ref p) H))):=by
 intro ai s σ H xs us Q I r h;obtain⟨p,ys,rfl,h⟩:=h;obtain⟨u,rfl,rx⟩:=vals1 r;cases rx;rcases h with ⟨hq,q⟩ | ⟨hq,q⟩
 .obtain⟨aO,r',pl,hz⟩:=I.list hq;have bI:=r'.length;refine call_tuple_list pl.isList (λh' kp=>?_) (by simp only [b8] <;> omega)
  have I1:Inv X ai σ H { s with heap:=h' }:=I.kept (t':=s.toks) kp;have I2:Inv X ai σ (upd H h'.objs.size (.tup ys)) { s with heap:=h'.push { cls:=.type "tuple",data:=.seq aO.toArray } } :=
   I1.laid (t':=s.toks) (λb o e=>bC _ e) (aK _) (show bU X.prog X.w _ _ _ (.tup ys) from ⟨hz,aO,r',IsTup.new _ _⟩)
  exact⟨.ref h'.objs.size,_,I2,rfl,q _ (I1.bD.fresh (aK _))⟩
 obtain⟨aO,r',pl,hz⟩:=I.tuple hq;exact call_tuple_same pl ⟨.ref p,H,I,rfl,q⟩
def Vp (K:aY)(T:String)(x:V)(H:Hp):Prop:=match x with
 | .str _=>T = "str"
 | .int _=>T = "int"
 | .ref p=>(T = "list" /\ ∃xs,aH K H p xs)\/(T = "tuple" /\ ∃o,K.lookup p=some o/\o.cls=.type "tuple" /\ o.dict=none) \/
   (T = "dict" /\ ((∃kvs,H p=some (.dK kvs))\/∃kvs,H p=some (.dT kvs)))\/(T = "set" /\ ∃S n,H p=some (.set S n))
 | _=>False
def Jj {ai:List (Addr×Obj)}{σ:St}{H:Hp}{s:Shared}{T:String}{x:V}{v:Value}(I:Inv X ai σ H s)(r:RelV x v)(ty:Vp X.K T x H) :
  s.TypeIs v T/\∀a,v=.ref a->∃ob,s.heap.get? a=some ob/\ob.dict=none:=by
 cases x with
 | str z =>
  obtain⟨t,rfl⟩:=r;cases (show T = "str" from ty);exact⟨typeIs_str s z t,λ_ e=>nomatch e⟩
 | int i =>
  obtain⟨t,rfl⟩:=r;cases (show T = "int" from ty);exact⟨typeIs_int s i t,λ_ e=>nomatch e⟩
 | ref p =>
  cases r;rcases ty with ⟨rfl,xs,hq⟩ | ⟨rfl,o,hk,hc,hd⟩ | ⟨rfl,hk⟩ | ⟨rfl,S,n,hk⟩
  .obtain⟨aO,_,pl,_⟩:=I.list hq;refine⟨pl.isList.typeIs,λa e=>?_⟩;cases e;obtain⟨o,n,e,c,hd,_⟩:=pl;exact⟨o,e,hd⟩
  .refine⟨⟨o,I.jX p o hk,hc⟩,λa e=>?_⟩;cases e;exact⟨o,I.jX _ o hk,hd⟩
  .have z:∃o,s.heap.get? p=some o/\o.ExactDict:=by
    rcases hk with ⟨kvs,hk⟩ | ⟨kvs,hk⟩
    .obtain⟨_,_,_,_,o,_,_,e,ex,_⟩:=I.bD p _ hk;exact⟨o,e,ex⟩
    obtain⟨_,_,_,_,o,_,_,e,ex,_⟩:=I.bD p _ hk;exact⟨o,e,ex⟩
   obtain⟨o,e,ex⟩:=z;refine⟨⟨o,e,ex.1⟩,λa e2=>?_⟩;cases e2;exact⟨o,e,ex.2.1⟩
  obtain⟨o,_,_,_,e,ex,_⟩:=I.bD p _ hk;refine⟨⟨o,e,ex.1⟩,λa e2=>?_⟩;cases e2;exact⟨o,e,ex.2.1⟩
 | _=>exact False.elim ty
def X_ (K:aY)(T:String)(r:V->List V->Hp->VK->Prop)(to:TE)(t:TA):TE:=λσ H Q=>to σ H λx H1=>Vp K T x H1/\t σ H1 λxs H2=>r x xs H2 Q
variable {o e:Expr}{es:List Expr}{to:TE}{t:TA}{name:Str}{apos gu:Pos}{T id:String}{r:V->List V->Hp->VK->Prop}
def cX (pa:PlainAttrs T)(slot:Slot T name id)(Z7:typeOf (.builtin id)=pure (.type "method_descriptor"))(hm:Pe X id r)(ho:PE X o to)(ha:PA X (e::es) t)
  (Ou:attributeBase o name X.env (eval o X.env)=eval o X.env:=by rfl)
  (Th:((backTo gu (starEach (e::es) X.env)).all (λx=>!x.1) && (backToKw gu (keywordEach [] X.env)).all (λx=>x.1.isSome)
   && decide ((e::es).length+([]:List Keyword).length+(if ([]:List Keyword).isEmpty then 0 else 1) < 30))=true:=by rfl)
  (Ob:(apos.endLine == gu.line)=true:=by rfl)(hs:starEach (e::es) X.env=(false,eval e X.env)::starEach es X.env:=by rfl)(zy:(backTo gu (starEach es X.env)).any (·.1)=false:=by rfl) :
  PE X (.Call (.Attribute o name apos) (e::es) [] gu) (X_ X.K T r to t):=by
 intro ai s σ H Q I h;refine wpAny_Call_method_late Ou Th Ob rfl (cx (ho ai s σ H _ I h) λv s1 aV=>?_);obtain⟨x,H1,I1,r1,ty,q1⟩:=aV;obtain⟨h1,h2⟩:=Jj I1 r1 ty;refine⟨T,id,pa,slot,Z7,h1,h2,?_⟩;have hA:=ha gu ai s1 σ H1 _ I1 q1;rw [hs] at hA ⊢;refine ux (by show (false || (backTo gu (starEach es X.env)).any (·.1))=false;rw [zy] <;> rfl) (uj ?_)
 refine cx hA λus s2 aV=>?_;obtain⟨vs,H2,I2,r2,q2⟩:=aV;exact hm ai s2 σ H2 x vs v us Q I2 r1 r2 q2
end
def IY (X:Cx)(id:String)(r:V->List V->Hp->VK->Prop):Prop :=
 ∀(ai:List (Addr×Obj))(s:Shared)(σ:St)(H:Hp)(x:V)(xs:List V)(v:Value)(us:List Value)(Q:VK),Inv X ai σ H s->RelV x v->aU xs us->r x xs H Q ->
  wpAny (model X.prog X.w) X.A (call (.builtin id) (v::us)) (EP X ai σ Q) X.xe s
def aU.one:∀{x:V}{us:List Value},aU [x] us->∃u,us=[u]/\RelV x u
 | _,_,.cons r .nil=>⟨_,rfl,r⟩
def aU.two:∀{x y:V}{us:List Value},aU [x,y] us->∃u v,us=[u,v]/\RelV x u/\RelV y v
 | _,_,_,.cons r (.cons q .nil)=>⟨_,_,rfl,r,q⟩
def aU.zero:∀{us:List Value},aU [] us->us=[]
 | _,.nil=>rfl
theorem aU.reverse {xs:List V}{us:List Value}(h:aU xs us):aU xs.reverse us.reverse:=by
 induction h with
 | nil=>exact .nil
 | cons r t ih=>rw [List.reverse_cons,List.reverse_cons];exact aU.append ih (.cons r .nil)
section
variable {X:Cx}{ai:List (Addr×Obj)}{σ:St}{H:Hp}{s:Shared}{l b:Addr}{xs ys zs:List V}
def Inv.Kf {aO kY:List Value}{n:Nat}{f:Array Value->Array Value}{t':Nat}(I:Inv X ai σ H s)(hH:H l=some (.lst xs))
  (e:s.heap.get? l=some { cls:=.type "list",data:=.seq aO.toArray n })(hf:f aO.toArray=kY.toArray)(hv:aU ys kY)(hz:ys.length<=sizeLine) :
  Inv X ai σ (upd H l (.lst ys)) { s with heap:=s.heap.update l (Obj.mapSeq f),toks:=t' }:=by
 have q:=PySem.IsL.update e f;rw [hf] at q;refine I.write (x:=l) (e:=l) (by rw [hH];exact trivial) (.inl rfl) (λb' u hb hu=>(jl s.heap (Obj.mapSeq f) (cZ hb)).trans hu) ⟨_,q⟩ ?_;exact⟨hz,kY,_,hv,q⟩
def Inv.R9 {aO:List Value}{t':Nat}(I:Inv X ai σ H s)(hv:aU ys aO)(hz:ys.length<=sizeLine) :
  Inv X ai σ (upd H s.heap.objs.size (.lst ys)) { s with heap:=s.heap.push { cls:=.type "list",data:=.seq aO.toArray },toks:=t' } :=
 I.laid (λ_ _ q=>bC _ q) (aK _) ⟨hz,aO,0,hv,cI _ rfl⟩
theorem Inv.fresh (I:Inv X ai σ H s):H s.heap.objs.size=none:=I.bD.fresh (aK _)
def Inv.BH (I:Inv X ai σ H s)(hH:H l=some (.lst xs)):xs.length<=sizeLine/\∃(aO:List Value) (n:Nat),aU xs aO/\xs.length=aO.length/\s.heap.get? l=some { cls:=.type "list",data:=.seq aO.toArray n }:=by
 obtain⟨z,aO,n,r,e⟩:=I.bD l _ hH;exact⟨z,aO,n,r,r.length,e⟩
def Ec {n:Nat}(h:n<=sizeLine):Builtin.List.listTooLong n=false:=by
 unfold Builtin.List.listTooLong;exact eM ∅
end
section
variable {X:Cx}
inductive O7 (H:Hp)(x:V)(vs:List V)(R:Addr->List V->V->Prop):Prop
|mk(l:Addr)(xs:List V)(y:V)(e:x=.ref l)(e2:vs=[y])(h:H l=some (.lst xs))(z:xs.length < sizeLine)(q:R l xs y)
def Gx:V->List V->Hp->VK->Prop:=λx vs H Q=>O7 H x vs λl xs y=>Q .dP (upd H l (.lst (xs++[y])))
def cA:IY X "list.append" Gx:=by
 intro ai s σ H x vs v us Q I rx rv h;obtain⟨l,xs,y,rfl,rfl,hH,hz,q⟩:=h;cases rx;obtain⟨u,rfl,ru⟩:=rv.one;obtain⟨z,aO,n,r,hl,e⟩:=I.BH hH;refine call_meets F.slot_list_append ⟨_,e,rfl⟩ F.entry_list_append (F.args_list_append_2 _ _) (PySem.list_append l aO.toArray n u (by rw [b8];omega)) ⟨e,?_⟩;refine⟨.dP,_,I.Kf (kY:=aO++[u]) hH e (by simp) (r.append (.cons ru .nil)) ?_,rfl,q⟩;rw [bZ,qm];omega
def Gw:V->List V->Hp->VK->Prop:=λx vs H Q=>∃l b xs zs,x=.ref l/\vs=[.ref b]/\H l=some (.lst xs)/\H b=some (.lst zs)/\xs.length+zs.length<=sizeLine/\Q .dP (upd H l (.lst (xs++zs)))
def BA:IY X "list.extend" Gw:=by
 intro ai s σ H x vs v us Q I rx rv h;obtain⟨l,b,xs,zs,rfl,rfl,hH,hB,hz,q⟩:=h;cases rx;obtain⟨u,rfl,ru⟩:=rv.one;cases ru;obtain⟨z,aO,n,r,hl,e⟩:=I.BH hH;obtain⟨z2,jd,n2,r2,qS,e2⟩:=I.BH hB;have hsz:aO.toArray.size+jd.toArray.size<=sizeLine:=by rw [b8,b8];omega
 have Oa:¬(!aO.toArray.isEmpty && Builtin.List.listTooLong (aO.toArray.size+jd.toArray.size))=true:=by
  rw [Ec hsz,Bool.and_false];exact dS
 refine call_meets F.slot_list_extend ⟨_,e,rfl⟩ F.entry_list_extend (F.args_list_extend_2 _ _)
  (AutoSeq1.list_extend_list_list_0 l aO.toArray n b jd.toArray n2 Oa (by rw [b8];omega) ∅) ⟨e,e2,?_⟩
 refine⟨.dP,_,I.Kf (kY:=aO++jd) hH e (by simp) (r.append r2) ?_,rfl,q⟩;rw [bZ];omega
def Rn:R2:=λx y H Q=>XH (λl xs=>H l=some (.lst xs)) x y λxs zs=>∀p,H p=none->Q (.ref p) (upd H p (.lst (xs++zs)))
def iC:oB X (binaryOp .Add) Rn:=by
 intro ai s σ H x y v u Q I rx ry h;obtain⟨l,b,xs,zs,rfl,rfl,hH,hB,hz,q⟩:=h;cases rx;cases ry;obtain⟨z,aO,n,r,hl,e⟩:=I.BH hH;obtain⟨z2,jd,n2,r2,qS,e2⟩:=I.BH hB;refine PySem.P.add_list e e2 ?_ (by rw [b8,b8];omega);have ea:aO.toArray++jd.toArray=(aO++jd).toArray:=by simp
 rw [ea];exact⟨.ref _,_,I.R9 (t':=s.toks) (r.append r2) (by rw [bZ];omega),rfl,q _ I.fresh⟩
end
section
variable {prog:Program}{w:World}{A:Around}{E:Value->Shared->Prop}{s:Shared}
set_option maxRecDepth 100000 in
end
section
variable {X:Cx}
end
end L2
namespace FX
open PySem PySem.W PySem.Calls PyProof.Rows
def pq {P:Params}{h:Heap}:∀(ns:List Int)(vs:List Value),WellAll P h vs (ns.map WData.int)->IntsAre vs ns:=by
 intro ns
 induction ns with
 | nil =>
  intro vs w;rw [iz] at w;cases w;exact .nil
 | cons n ns ih =>
  intro vs w;rw [bz] at w;cases w with
  | cons a b =>
   cases a;exact .cons _ _ (ih _ b)
def Bi {l:OpenLaw}{n:Nat}(hn:l.most=some n){P:Params}{h:Heap}{args:List WData}{vals:List Value}
  (Hc:l.row.toRowW.claim.pre args=true)(Sv:WellAll P h vals args) :
  ∃a vs ns,vals=[Value.ref a]/\args=[WData.list (ns.map WData.int)]/\h.get? a=some { cls:=.type "list",data:=.seq vs.toArray }/\IntsAre vs ns/\ns.length<=n:=by
 have hsh:WShape.hasAll [] args [.list .int]=true:=(pre_splitW Hc).1;have hc:l.pre.holds [] { args:=args }=true:=(pre_splitW Hc).2;obtain⟨d,r,rfl,h1,h2⟩:=hasAllW_cons hsh;obtain rfl:=hasAllW_nil h2;obtain⟨xs,rfl,h3⟩:=hasW_list h1;obtain⟨ns,rfl⟩:=items_int h3;have bI:ns.length<=n:=by
  unfold OpenLaw.pre at hc;have h4:(WTm.not (.lt (.lit (.int (n:Int))) (.len (.arg 0)))).holds [] { args:=[.list (ns.map .int)] }=true:=by
   have h4:=(holds_andW hc).1;rw [hn] at h4;exact h4
  have h5:=condW_of h4 (w_not (w_lt w_lit (w_len_list (w_arg rfl))));rw [aC] at h5;refine Nat.le_of_not_lt λq=>?_;have q':(n:Int) < ((ns.length:Nat):Int):=by omega
  first
   | (rw [gC q'] at h5;exact absurd h5 nofun)
   | (simp at h5;omega)
 cases Sv with
 | cons w1 w2 =>
  cases w2;cases w1 with
  | list ho pB=>exact⟨_,_,ns,rfl,rfl,ho,pq ns _ pB,bI⟩
def Bk (l:OpenLaw)(args:List WData):l.row.toRowW.claim.post args (.bool true) args=true :=
 postW_of (r:=l.row.toRowW) (X:=(true == true))
  (show WShape.has [] (.bool true) .bool=true by first | rfl | decide | simp [WShape.has,WShape.arms,WShape.armsAll])
  (show (WTm.eq .res (.lit (.bool true))).value [] { args:=args,res:=some (.bool true),after:=args }=some (.bool (true == true)) from w_eq_bool (w_res rfl) w_lit) rfl
def o_ {l:OpenLaw}{n:Nat}{q:Program}{loose:List Str}{XP:(Str->Option Value)->Heap->Prop}{YP:World->Heap->Prop}{d:DefRec}
  (hn:l.most=some n)(KR:d.params.defaults=[])
  (call:∀(w:World)(s₀ s₁:Shared)(mg mb:Str->Option Value)(fa:Addr)(o:Obj)(pm cd doc:Value)(a:Addr)(vs:List Value)(ns:List Int),
   Ground q loose [] XP w s₀ mg mb s₁.heap->YP w s₁.heap ->
   s₁.heap.get? fa=some o->o.data=.func (docDef d.name d.params d.body d.scope pm cd doc)->s₁.heap.CodeRec cd d.name->mg d.name=some (.ref fa) ->
   s₁.heap.get? a=some { cls:=.type "list",data:=.seq vs.toArray }->IntsAre vs ns->ns.length<=n->s₁.gens=#[] ->
   codeAny (model l.prog w) callerA (.call (.ref fa) ⟨[.ref a],[]⟩) (λr s'=>r=.ok (.ret (.bool true))/\OldK s₁.heap s'.heap/\s'.os=s₁.os/\AllBare s'.gens) s₁) :
  WalkO q loose XP YP l.row.toRowW d [] (λf vs=>PySem.call f vs):=by
 intro w s₀ s₁ mg mb G Y fa o pm cd doc dV kV ho hd rX hD KJ hg args vals as Hc aae hrd Sv hlo;obtain rfl:dV=.none:=Dflts.none hD KR;obtain rfl:kV=.none:=Dflts.noKw hD;obtain⟨a,vs,ns,rfl,rfl,ED,hints,bI⟩:=Bi hn Hc Sv;refine enter_call (ix (call w s₀ s₁ mg mb fa o pm cd doc a vs ns G Y ho (fd_plain hd) rX KJ ED hints bI hg) λr s' hq=>?_);obtain⟨rfl,h2,h3,h4⟩:=hq;exact⟨.inl ⟨.bool true,.bool true,[],rfl,λ_=>rfl,.bool true,Bk l _,λ_=>⟨List.Pairwise.nil,λ_ hm=>(nomatch hm)⟩⟩,h2,h3,h4⟩
section
variable {prog:Program}{w:World}{A:Around}{E:Value->Shared->Prop}{s:Shared}{K:Frag}
def qL (h:Heap):Heap:={ h with objs:=#[] }
def kQ (h:Heap)(b:Addr):(qL h).get? b=none:=by
 cases e:(qL h).get? b with
 | none=>rfl
 | some o=>exact absurd (aS e) (Nat.not_lt_zero _)
def ledger (h:Heap)(L d:Addr):List (Addr×Obj):=(List.range h.objs.size).filterMap λa=>if a=L\/a=d then none else (h.get? a).map λo=>(a,o)
def i_ {h:Heap}{L d a:Addr}{o:Obj}:(a,o)∈ledger h L d↔a≠L/\a≠d/\h.get? a=some o:=by
 unfold ledger;rw [List.mem_filterMap];constructor
 .rintro⟨b,_,e⟩
  split at e
  .cases e
  rename_i hb
  obtain⟨o',ho,e'⟩:=cf.mp e;cases e';exact⟨λq=>hb (.inl q),λq=>hb (.inr q),ho⟩
 rintro⟨n1,n2,ho⟩;refine⟨a,lE.mpr (aS ho),?_⟩;rw [av (show ¬(a=L\/a=d) from λq=>q.elim n1 n2),ho] <;> rfl
def wL {h:Heap}{L d:Addr}{od:Obj}(vV:d≠L)(ho:h.get? d=some od):News (qL h) L h ([]++(d,od)::ledger h L d):=by
 rintro⟨a,o⟩ hp;rcases aT.mp hp with e | hp
 .cases e;exact⟨ho,vV,kQ _ _⟩
 obtain⟨n1,n2,e⟩:=i_.mp hp;exact⟨e,n1,kQ _ _⟩
def K6 {h:Heap}{L:Addr}{m:Str->Option Value}(n:h.Ns L m):Fr (qL h) L h m :=
 ⟨n,λb o e=>(by rw [kQ] at e;cases e),dC _⟩
end
end FX
namespace L2
open PySem PySem.Spec PyProof.Rows
theorem nP:∀{vs:List Value}{ns:List Int},IntsAre vs ns->aU (ns.map V.int) vs
 | _,_,.nil=>.nil
 | _,_,.cons n t h=>.cons ⟨t,rfl⟩ (nP h)
def LD (H:Hp):Prop:=∀b,H b=none\/∃o xs,H b=some (.ju o (.lst xs))
def Ep {P:Program}{w:World}{K:aY}{mg mb:Str->Option Value}{CX:tZ}{k:Nat}{fa a:Addr}{fd:FuncData}{x:Str}{sp:Sp}{s₁:Shared}{vs:List Value}{ns:List Int}
  (KX:K.In s₁.heap)(vU:s₁.heap.Ns mainGlobals mg)(hb:s₁.heap.Ns builtinsNs mb)(KY:∀x:Str,x ≠ "__name__" -> mb x=bootBuiltins x)(KL:s₁.heap.NoLimit)(hg:s₁.gens=#[])
  (ha:s₁.heap.get? a=some { cls:=.type "list",data:=.seq vs.toArray })(hi:IntsAre vs ns)(hl:ns.length<=sizeLine)(hr:dB k callerA)
  (F:∀base:Heap,K.In base->base.Ns mainGlobals mg->bA P w K mg base CX k fa fd [x] sp)(mH:∀(s:Shared)(u:Value),BindsTo s fd ⟨[u],[]⟩ [(x,u)])
  (px:∀H:Hp,LD H->aH K H a (ns.map V.int)->sp [.ref a] H (λv _=>v=.bl true) λ_ _ _=>False)
  (K2:∀H e s',CX [] H s₁ (λ_ _ _=>False) e s'->False) :
  codeAny (model P w) callerA (.call (.ref fa) ⟨[.ref a],[]⟩) (λr s'=>r=.ok (.ret (.bool true))/\OldK s₁.heap s'.heap/\s'.os=s₁.os/\AllBare s'.gens) s₁:=by
 have rv:=nP hi;have Kk:=hi.length;have core:∀H:Hp,LD H->aH K H a (ns.map V.int)->j8 P w H s₁.heap->(∀b,H b≠none->b=a)->(H a≠none->K.lookup a=none) ->
   codeAny (model P w) callerA (.call (.ref fa) ⟨[.ref a],[]⟩) (λr s'=>r=.ok (.ret (.bool true))/\OldK s₁.heap s'.heap/\s'.os=s₁.os/\AllBare s'.gens) s₁:=by
  intro H hO hS bD hA hK;have j3:∀{b:Addr}{o:Obj},s₁.heap.get? b=some o->H b=none->(kZ s₁.heap H).get? b=some o:=λe n=>wZ e n;have Nm:∀{b:Addr}{o:Obj}{es:Array DictEntry}{ep:Nat},s₁.heap.get? b=some o->o.data=.dict es ep->H b=none:=λ{b o es ep} e d=>by
   cases q:H b with
   | none=>rfl
   | some u =>
    have e':b=a:=hA b (by rw [q];simp);subst e';rw [ha] at e;cases e;have d':Data.seq vs.toArray _=Data.dict es ep:=d;cases d'
  have G1:∀{b:Addr}{m:Str->Option Value},s₁.heap.Ns b m->(kZ s₁.heap H).Ns b m:=λ{b m} ⟨o,es,ep,e,d,r⟩=>⟨o,es,ep,j3 e (Nm e d),d,r⟩;have Ox:K.In (kZ s₁.heap H):=λb o e=>j3 (KX b o e) (by
   cases q:H b with
   | none=>rfl
   | some u =>
    have e':b=a:=hA b (by rw [q];simp);subst e';rw [hK (by rw [q];simp)] at e;cases e)
  have hM:Mod K mg (kZ s₁.heap H):=⟨Ox,G1 vU,⟨mb,G1 hb,KY⟩,let ⟨mc,h1,h2⟩:=KL;⟨mc,G1 h1,h2⟩⟩;have e0:pI P w K mg (kZ s₁.heap H) callerA [] s₁ H:=⟨rfl,hM,λb o e=>AH e,Nat.le_of_eq (tH _ _),trivial,λb hb=>absurd (show b∈([]:List Addr) from hb) (by simp),bD,.of_eq hg⟩;refine ix ((F _ Ox (G1 vU)).run callerA [] s₁ H ⟨[.ref a],[]⟩ [.ref a] [.ref a] _ _ hr e0 (mH s₁ (.ref a)) (.cons rfl .nil) (px H hO hS)) λr s' h=>?_;cases r with
  | error e=>exact(K2 H e s' h).elim
  | ok fl =>
   cases fl with
   | next=>exact False.elim h
   | brk=>exact False.elim h
   | cont=>exact False.elim h
   | ret u =>
    obtain⟨v,H',os,bare,un,Hd,r',q⟩:=h;have q':v=.bl true:=q;subst q';obtain rfl:u=Value.bool true:=r';refine⟨rfl,OldK.of_keep λb o e=>?_,os,bare⟩;cases q:H b with
    | none=>exact un.keep b o e q (by intro z;exact absurd (show b∈([]:List Addr) from z) (by simp)) (by simp)
    | some u =>
     rcases hO b with z | ⟨ob,xs,z⟩
     .rw [q] at z;cases z
     have z2:=un.jO b ob _ z;obtain⟨e1,_⟩:=bD b _ z;obtain⟨e2,_⟩:=Hd b _ z2;rw [e] at e1;cases e1;exact e2
 cases hk:K.lookup a with
 | some o =>
  have e:=KX a o hk;rw [ha] at e;cases e;refine core (λ_=>none) (λ_=>.inl rfl) (.inr ⟨_,vs.toArray,_,hk,rfl,rfl,rfl,by rw [b8,Kk];exact hl,by simpa using rv⟩) (λb u z=>by have z':(none:Option HO)=some u:=z;cases z') (λb z=>absurd rfl z) λz=>absurd rfl z
 | none =>
  refine core (λb=>if b=a then some (.ju { cls:=.type "list",data:=.seq vs.toArray } (.lst (ns.map V.int))) else none) (λb=>?_) (.inl (.inr ⟨{ cls:=.type "list",data:=.seq vs.toArray },ay rfl⟩)) (λb u z=>?_) (λb z=>?_) λ_=>hk
  .by_cases hb:b=a
   .exact .inr ⟨_,_,ay hb⟩
   exact .inl (av hb)
  .by_cases hb:b=a
   .have z':=(ay hb).symm.trans z;cases z';subst hb;exact⟨ha,by rw [aC];exact hl,vs,_,rv,ha⟩
   have z':=(av hb).symm.trans z;cases z'
  by_cases hb:b=a
  .exact hb
  exact absurd (av hb) z
abbrev KOf {K:aY}{h:Heap}(_:K.In h):aY:=K
def Pu {l:PySem.W.OpenLaw}{n k:Nat}{q:Program}{loose:List Str}{XP:(Str->Option Value)->Heap->Prop}{YP:World->Heap->Prop}{d:DefRec}{K:Params->aY}{CX:World->tZ}{sp:World->Sp}{x:Str}
  (hn:l.most=some n)(Iw:n<=sizeLine)(KR:d.params.defaults=[])(hr:dB k callerA)
  (hY:∀(w:World)(h:Heap),YP w h->(K w.params).In h)
  (F:∀(w:World)(mg:Str->Option Value)(fa:Addr)(h:Heap),(K w.params).In h->h.Ns mainGlobals mg->mg d.name=some (.ref fa) ->
   ∃fd:FuncData,(∀(s:Shared)(u:Value),BindsTo s fd ⟨[u],[]⟩ [(x,u)]) /\
    ∀base:Heap,(K w.params).In base->base.Ns mainGlobals mg->bA l.prog w (K w.params) mg base (CX w) k fa fd [x] (sp w))
  (px:∀(w:World)(H:Hp)(a:Addr)(ns:List Int),ns.length<=n->LD H->aH (K w.params) H a (ns.map V.int)->sp w [.ref a] H (λv _=>v=.bl true) λ_ _ _=>False)
  (K2:∀(w:World)(H:Hp)(s:Shared)(e:Value)(s':Shared),CX w [] H s (λ_ _ _=>False) e s'->False) :
  PySem.W.WalkO q loose XP YP l.row.toRowW d [] (λf vs=>PySem.call f vs):=by
 refine FX.o_ hn KR λw s₀ s₁ mg mb fa o pm cd doc a vs ns G Y ho hd rX KJ ED hints bI hg=>?_;have KX:=hY w _ Y;obtain⟨fd,hb,hF⟩:=F w mg fa _ KX G.T.g KJ;exact Ep KX G.T.g G.T.b G.T.builtins G.T.nolimit hg ED hints (df bI Iw) hr hF hb (λH hO hS=>px w H a ns bI hO hS) λH e s'=>K2 w H s₁ e s'
def cW (s:Stmt):Arguments:=match s with
 | .FunctionDef _ a _ _ _ _ _ _ _ _=>a
 | _=>{ posonlyargs:=[],args:=[],vararg:=none,kwonlyargs:=[],kw_defaults:=[],kwarg:=none,defaults:=[] }
def bV (s:Stmt):List Stmt:=match s with
 | .FunctionDef _ _ b _ _ _ _ _ _ _=>b
 | _=>[]
def ax (s:Stmt):Scope:=match s with
 | .FunctionDef _ _ _ _ _ _ sc _ _ _=>sc
 | _=>{ kind:=.function,names:=[],isGenerator:=false,isCoroutine:=false }
abbrev e_:tZ:=λ_ _ _ _ _ _=>False
abbrev E0:XK:=λ_ _ _=>False
def qH {X:Cx}:Passes e_ X E0:=λ_ _ _ _ _ _ _ h=>h.elim
structure hU (K:aY)(x qual:Str)(st:Stmt)(f:Addr)(fd:FuncData):Prop where
 ex:∃(oc:Value)(od:Option Addr)(kV doc pm:Value)(an:Option Addr)(dG ct:Value)(vS:Array (Option Value)),
  fd=PySem.W.fnOf x qual (cW st) (bV st) (ax st) .none kV doc pm an dG ct/\K.lookup f=some ⟨oc,od,.func fd,vS⟩/\PySem.W.codeIn K dG qual=true
 kp:PySem.W.keepIn K (.ref f)=true
section
variable {P:Program}{w:World}{K:aY}{mg:Str->Option Value}{base:Heap}
def hU.ok {x qual:Str}{st:Stmt}{f:Addr}{fd:FuncData}{N ps:List Str}{k:Nat}{sp:Sp}(F:hU K x qual st f fd)(S:aM N ps (ax st))(len:∀vs H Q E,sp vs H Q E->vs.length=ps.length)
  (g9:∀(dG:Value)(A:Around)(outer:List Env)(s:Shared)(H:Hp)(vs:List V)(Q:VK)(E:XK),dB k (A.deeper (envOfC qual (ax st) s.heap.objs.size f dG))->sp vs H Q E ->
   ∃t,xK (gK e_ P w K mg base N qual (ax st) f dG A outer s H E).Bw (bV st) t/\t { nx:=λ_ H'=>Q .dP H',rt:=Q } (start N vs) H):bA P w K mg base e_ (k+1) f fd ps sp:=by
 obtain⟨oc,od,kV,doc,pm,an,dG,ct,vS,rfl,lk,rX⟩:=F.ex;refine AU lk rX S len λA outer s H vs Q E hr px=>?_;obtain⟨t,h,q⟩:=g9 dG A outer s H vs Q E hr px;exact⟨t,h.Bw,q⟩
def hU.binds {x qual:Str}{st:Stmt}{f:Addr}{fd:FuncData}{ps:List Str}(F:hU K x qual st f fd)
  (h:∀(kV doc pm:Value)(an:Option Addr)(dG ct:Value)(us:List Value),us.length=ps.length->bindArgs (PySem.W.fnOf x qual (cW st) (bV st) (ax st) .none kV doc pm an dG ct) ⟨us,[]⟩=pure (ps.zip us)):Binds K fd ps []:=by
 obtain⟨oc,od,kV,doc,pm,an,dG,ct,vS,rfl,lk,rX⟩:=F.ex;exact .all (h kV doc pm an dG ct)
def ET {x qual:Str}{st:Stmt}{f:Addr}{oc:Value}{od an:Option Addr}{vS:Array (Option Value)}{kV doc pm dG ct:Value}(l:K.lookup f=some ⟨oc,od,.func (PySem.W.fnOf x qual (cW st) (bV st) (ax st) .none kV doc pm an dG ct),vS⟩)
  (c:PySem.W.codeIn K dG qual=true)(k:PySem.W.keepIn K (.ref f)=true):hU K x qual st f (PySem.W.fnOf x qual (cW st) (bV st) (ax st) .none kV doc pm an dG ct):=⟨⟨oc,od,kV,doc,pm,an,dG,ct,vS,rfl,l,c⟩,k⟩
end
def gq {A:Around}{k:Nat}(hr:dB k A):A.units+1 < cLine:=oK (Nat.add_le_add_left (by decide:1<=64) _) hr.units
section
variable {X:Cx}
def pv (i:Nat){x:Str}{pos:Pos}(hN:X.N[i]?=some x:=by rfl)(hv:Qy X.env.scope x:=by first | exact Or.inl rfl | exact Or.inr (bO rfl) | exact Or.inr (Or.inr rfl))(hd:(x == ("__debug__":Str))=false:=by decide)
  (rX:(x == ("__classdict__":Str))=false:=by decide):PE X (.Name x pos) (fE i):=JO hN hv hd rX
end
def eC {A B:Prop}(h:B):if false=true then A else B:=by
 rw [av dS];exact h
def fU {A B:Prop}(h:A):if true=true then A else B:=by
 rw [ay rfl];exact h
def c_ {c A B:Prop} [Decidable c] (h1:c->A)(h2:¬c->B):if c then A else B:=by
 by_cases h:c
 .rw [ay h];exact h1 h
 rw [av h];exact h2 h
def aD (H H':Hp):Prop:=∀b o,H b=some o->H' b=some o
def aD.refl (H:Hp):aD H H:=λ_ _ h=>h
def aD.trans {H H1 H2:Hp}(a:aD H H1)(b:aD H1 H2):aD H H2:=λc o h=>b c o (a c o h)
def aD.free {H H':Hp}(e:aD H H'){l:Addr}(h:H' l=Option.none):H l=Option.none:=by
 cases q:H l with
 | none=>rfl
 | some o =>
  rw [e l o q] at h;cases h
def aD.seq {K:aY}{H H':Hp}{a:Addr}{xs:List V}(e:aD H H')(h:aH K H a xs):aH K H' a xs:=by
 rcases h with (h | ⟨o,h⟩) | h
 .exact .inl (.inl (e _ _ h))
 .exact .inl (.inr ⟨o,e _ _ h⟩)
 exact .inr h
end L2
namespace HD
open PySem PySem.W
def Dq (st:SharedT->Thread->Option (SharedT×Thread))(ok:Thread->Bool):Nat->SharedT->Thread->Option SharedT
 | 0,_,_=>none
 | n+1,s,t=>match through t with
  | true=>some s
  | false=>match ok t with
   | false=>none
   | true=>match st s t with
    | some (s',t')=>Dq st ok n s' t'
    | none=>none
theorem Av {tb:String->Option Builtin}{p:Program}{w:World}{n₀:Nat}{ann:Option Value}:∀{n:Nat}{s s':SharedT}{t:Thread},Dq (stepT (denote tb) p w) (stepOk n₀ ann) n s t=some s'->topRun tb p w n₀ ann n s.abs t=some s'.abs
 | 0,_,_,_,h=>by cases h
 | n+1,s,s',t,h=>by
  unfold Dq at h;unfold topRun;cases he:through t with
  | true=>rw [he] at h;cases h;rfl
  | false =>
   rw [he] at h;cases hk:stepOk n₀ ann t with
   | false=>rw [hk] at h;cases h
   | true =>
    rw [hk] at h;cases hs:stepT (denote tb) p w s t with
    | none=>rw [hs] at h;cases h
    | some r=>obtain⟨s₂,t₂⟩:=r;rw [hs] at h;rw [stepT_spec hs];exact Av h
def VN:List Obj->Nat->BT->BT
 | [],_,t=>t
 | o::r,i,t=>VN r (i+1) (t.ins i o)
noncomputable def A2 (P:Params):BT:=VN (boot_heap P).objs.toList 0 .nil
def Ck (P:Params):absHeap (A2 P) 11 {}=boot_heap P:=by kernel_rfl
def K8 {β:Type}:Obj->(Obj->β)->β
 | ⟨c,d,t,s⟩,k=>k ⟨c,d,t,s⟩
def pT {β:Type}:List Obj->(List Obj->β)->β
 | [],k=>k []
 | x::r,k=>K8 x λy=>pT r λys=>k (y::ys)
theorem qY {β:Type}:∀(l:List Obj)(k:List Obj->β),pT l k=k l
 | [],_=>rfl
 | ⟨c,d,t,s⟩::r,k=>by
  show pT r (λys=>k (⟨c,d,t,s⟩::ys))=_;rw [qY r]
def Ek (p q:Program) (loose:List Str)(Xt:Shared->Bool){α:Type}(Yf:Shared->α)(g0:Bool)(h₀:Heap)(s:Shared) :=
 ((staticsOk (importedModules p.main.body) h₀ s.heap && namesBound p s.heap && gensDone s && laidKept h₀ s.heap),openSeen q loose (importedModules p.main.body) Xt g0 s,Yf s)
def Df {β:Type}(f:Shared->β)(s:SharedT):β:=pT (s.tree.list s.n) λl=>f ⟨⟨l.toArray,s.life⟩,s.gens,s.drawn,s.toks,s.os⟩
def De {β:Type}(f:Shared->β)(s:SharedT):Df f s=f s.abs:=qY _ _
def NC {p q:Program}{loose:List Str}{Xt:Shared->Bool}{α:Type}{Yf:Shared->α}{Ya:World->α}{N:Nat}{g0:Bool}{ann:Option Value}{M:Nat}
  (DK:∀w:World,(fencedOpening treeTable p w N).map (λs=>(s.heap,s.gens,s.drawn,s.toks))=some (boot_heap w.params,Array.mk [],boot_drawn,boot_toks))
  (size:∀w:World,((boot_heap w.params).isNs mainGlobals && (Array.mk []:Array GenState).size == 0,(boot_heap w.params).objs.size,(boot_heap w.params).nsMap mainGlobals "__annotations__")=(true,11,ann))
  (run:∀(w:World)(os:OsState),(Dq (stepT (denote treeTable) p w) (stepOk 11 ann) M ⟨A2 w.params,11,{},Array.mk [],boot_drawn,boot_toks,os⟩ (topStub p)).map (Df (Ek p q loose Xt Yf g0 (boot_heap w.params)))=some (true,openGood q loose,Ya w))
  (le:Nat.ble M N=true):LeftO p q loose Xt Yf Ya N g0:=λw=>by
 obtain⟨⟨h,gs,d,k,os⟩,e,e'⟩:=cf.mp (DK w);obtain⟨rfl,rfl,rfl,rfl⟩:h=boot_heap w.params/\gs=Array.mk []/\d=boot_drawn/\k=boot_toks:=by simpa using e'
 obtain⟨z1,z2,z3⟩:_/\_/\_:=by simpa only [iG] using size w
 obtain⟨s',r0,l0⟩:=cf.mp (run w os);rw [De] at l0;obtain⟨l1,l2,l3⟩:_/\_/\_:=by simpa only [Ek,iG] using l0
 have r:=Av r0;have ea:SharedT.abs ⟨A2 w.params,11,{},Array.mk [],boot_drawn,boot_toks,os⟩=⟨boot_heap w.params,Array.mk [],boot_drawn,boot_toks,os⟩:=by
  unfold SharedT.abs;rw [Ck]
 rw [ea] at r;have r:=topRun_mono (N - M) _ _ _ _ r;rw [show M+(N - M)=N by have:=Nat.le_of_ble_eq_true le;omega] at r;have t:topFrom treeTable p w N ⟨boot_heap w.params,Array.mk [],boot_drawn,boot_toks,os⟩=some s'.abs:=by
  unfold topFrom;dsimp only;rw [z1,z2,z3,r];show (match staticsOk (importedModules p.main.body) (boot_heap w.params) s'.abs.heap && namesBound p s'.abs.heap && gensDone s'.abs && laidKept (boot_heap w.params) s'.abs.heap with | true=>_ | false=>_)=_
  rw [l1]
 unfold openEnds;rw [e];show (topFrom treeTable p w N _).map _=_;rw [t];exact congrArg some (Prod.ext l2 l3)
end HD
set_option maxHeartbeats 0
namespace HD
open PySem PySem.W L2 PySem.Challenge
def dE (P:Params)(x:Str)(t:Tok)(v:Value):DictEntry:=⟨PyData.keyHash P x,.str x t,v⟩
def top (p:Program) (i:Nat):Stmt:=p.main.body.getD i (.Pass ⟨0,0,0,0⟩)
def gy (p:Program) (i j:Nat):Stmt:=match top p i with
 | .ClassDef _ _ _ body _ _ _ _ _ _ _=>body.getD j (.Pass ⟨0,0,0,0⟩)
 | _=>.Pass ⟨0,0,0,0⟩
def posOf (s:Stmt):Pos:=match s with
 | .FunctionDef _ _ _ _ _ _ _ _ _ p=>p
 | _=>⟨0,0,0,0⟩
def cF (a:Addr)(n q:Str)(i:Nat)(l m:Int)(x y:Addr)(u v s t:Value)(z:Int)(w:Nat):Addr×Obj:=(a,⟨.type "code",none,.fields #[.str n i,.str q (i+1),.str "/claim/cut.py" (i+2),.int l 0,.int m 0,.int 0 0,.int 0 0,.int 3 0,.ref x,.bool true,.int 181 0,.ref y,u,v,s,t,.int z 0,.int l 0,.str "/claim/cut.py" w],#[]⟩)
def fF (a:Addr)(n q:Str)(s:Stmt)(m:Value):Addr×Obj:=(a,⟨.type "function",none,.func (fnOf n q (cW s) (bV s) (ax s) .none .none .none m none (.ref (a-1)) .none),#[]⟩)
def dR (P:Params)(x:Str)(t:Tok)(a:Addr):DictEntry:=dE P x t (.ref a)
def m0:Value:=.str "__main__" 164
def m1:Value:=.str "wright.errors" 194
def m2:Value:=.str "wright.rules" 510
def m3:Value:=.str "wright.begin_tables" 542
def m4:Value:=.str "wright.loops" 636
def m5:Value:=.str "wright.tree_sizes" 666
def m6:Value:=.str "wright.grammar_faults" 687
def m7:Value:=.str "wright.least_trees" 714
def m8:Value:=.str "wright.grammars" 800
def m9:Value:=.str "wright.grammar_texts" 843
def vT:Value:=.str "law_wright_k17_rows_of_grammars_refused" 906
noncomputable def K' (p:Program)(P:Params):Frag:=[
 (2,⟨.none,none,.dict #[] 0,#[]⟩),
 (3,⟨.type "dict",none,.dict #[dE P "__name__" 165 (.str "law_wright_k17_rows_of_grammars_refused" 906),dE P "__doc__" 166 (.none),dE P "__package__" 167 (.none),dE P "__loader__" 168 (.builtin "__main__.__loader__#opaque"),dE P "__spec__" 169 (.none),dR P "__annotations__" 170 6,dR P "__builtins__" 171 4,dE P "__file__" 173 (.str "/claim/cut.py" 172),dE P "__cached__" 174 (.none),dR P "_wall" 193 21,dR P "WrightError" 213 31,dR P "NoPattern" 238 51,dR P "NoWord" 263 70,dR P "NoRow" 288 89,dR P "NoRules" 304 101,dR P "Twice" 329 120,dR P "Endless" 354 139,dR P "Unmet" 379 158,dR P "Loop" 404 177,dR P "Vast" 429 196,dR P "TooMany" 445 208,dR P "Clash" 468 225,dR P "Refused" 493 244,dR P "NoDeed" 509 256,dR P "heads_of" 517 263,dR P "words_in" 523 268,dR P "numbers_by_name" 529 273,dR P "standings_by_part" 541 280,dR P "found_empties" 549 285,dR P "first_places" 560 292,dR P "BeginTable" 635 342,dR P "find_loop" 643 351,dR P "steps_with_like_rows" 649 356,dR P "way_back" 665 363,dR P "least_sizes" 673 368,dR P "greatest_empty_sizes" 680 375,dR P "settled_sizes" 686 380,dE P "MOST_RULES" 690 (.int (60) 689),dR P "refuse_faults" 696 385,dR P "refuse_twice" 707 392,dR P "names_met" 713 397,dR P "least_by_part" 721 402,dR P "rule_size" 727 407,dR P "empty_by_name" 733 412,dR P "LeastTrees" 799 455,dR P "Grammar" 842 484,dR P "WAYS" 848 489,dR P "MARKS" 852 490,dE P "MOST_SIGNS" 854 (.int (14) 853),dR P "read_grammar" 860 495,dR P "read_row" 866 500,dR P "read_rules" 872 505,dR P "is_part" 879 512,dR P "comes_again" 886 519,dR P "with_added_rules" 897 526,dR P "rules_again" 905 533,dR P "_law_cell_at" 915 540,dR P "_law_whole" 922 547,dR P "_law_stream" 933 554,dR P "_law_row" 944 561,dR P "_law_bad" 952 568,dR P "_law_another" 960 575,dR P "_law_refused" 970 582,dR P "law" 986 589] 64,#[]⟩),
 (cF 20 "_wall" "_wall" 187 1 1 15 16 .none (.ref 17) (.ref 18) (.ref 19) 191 192),
 (fF 21 "_wall" "_wall" (top p 0) m0),
 (30,⟨.type "dict",none,.dict #[dE P "__module__" 203 (.str "wright.errors" 194),dE P "__firstlineno__" 207 (.int (5) 206),dR P "__static_attributes__" 208 29,dR P "__weakref__" 210 32,dE P "__doc__" 211 (.none)] 3,#[]⟩),
 (31,⟨.type "type",none,.cls ⟨"WrightError",[.type "ValueError"],[.ref 31,.type "ValueError",.type "Exception",.type "BaseException",.type "object"],30,"WrightError",true,[],[.ref 51,.ref 70,.ref 89,.ref 101,.ref 120,.ref 139,.ref 158,.ref 177,.ref 196,.ref 208,.ref 225,.ref 244,.ref 256],false,none,false⟩,#[some (.ref 22),none,some (.str "WrightError" 196),some (.str "WrightError" 204),some (.builtin "ValueError.__new__"),some (.bool true)]⟩),
 (32,⟨.type "getset_descriptor",none,.fields #[.str "__weakref__" 209,.ref 31,.builtin "ExceptionGroup.__weakref__",.none],#[]⟩),
 (cF 47 "__init__" "NoPattern.__init__" 226 9 2 42 43 .none (.ref 44) (.ref 45) (.ref 46) 231 232),
 (fF 48 "__init__" "NoPattern.__init__" (gy p 3 0) m1),
 (50,⟨.type "dict",none,.dict #[dE P "__module__" 221 (.str "wright.errors" 194),dE P "__firstlineno__" 225 (.int (7) 224),dR P "__init__" 233 48,dR P "__static_attributes__" 235 49,dE P "__doc__" 236 (.none)] 2,#[]⟩),
 (51,⟨.type "type",none,.cls ⟨"NoPattern",[.ref 31],[.ref 51,.ref 31,.type "ValueError",.type "Exception",.type "BaseException",.type "object"],50,"NoPattern",true,[],[],false,none,false⟩,#[some (.ref 35),none,some (.str "NoPattern" 214),some (.str "NoPattern" 222),some (.builtin "ValueError.__new__"),some (.bool true)]⟩),
 (cF 66 "__init__" "NoWord.__init__" 251 14 2 61 62 .none (.ref 63) (.ref 64) (.ref 65) 256 257),
 (fF 67 "__init__" "NoWord.__init__" (gy p 4 0) m1),
 (69,⟨.type "dict",none,.dict #[dE P "__module__" 246 (.str "wright.errors" 194),dE P "__firstlineno__" 250 (.int (12) 249),dR P "__init__" 258 67,dR P "__static_attributes__" 260 68,dE P "__doc__" 261 (.none)] 2,#[]⟩),
 (70,⟨.type "type",none,.cls ⟨"NoWord",[.ref 31],[.ref 70,.ref 31,.type "ValueError",.type "Exception",.type "BaseException",.type "object"],69,"NoWord",true,[],[],false,none,false⟩,#[some (.ref 54),none,some (.str "NoWord" 239),some (.str "NoWord" 247),some (.builtin "ValueError.__new__"),some (.bool true)]⟩),
 (cF 85 "__init__" "NoRow.__init__" 276 19 2 80 81 .none (.ref 82) (.ref 83) (.ref 84) 281 282),
 (fF 86 "__init__" "NoRow.__init__" (gy p 5 0) m1),
 (88,⟨.type "dict",none,.dict #[dE P "__module__" 271 (.str "wright.errors" 194),dE P "__firstlineno__" 275 (.int (17) 274),dR P "__init__" 283 86,dR P "__static_attributes__" 285 87,dE P "__doc__" 286 (.none)] 2,#[]⟩),
 (89,⟨.type "type",none,.cls ⟨"NoRow",[.ref 31],[.ref 89,.ref 31,.type "ValueError",.type "Exception",.type "BaseException",.type "object"],88,"NoRow",true,[],[],false,none,false⟩,#[some (.ref 73),none,some (.str "NoRow" 264),some (.str "NoRow" 272),some (.builtin "ValueError.__new__"),some (.bool true)]⟩),
 (100,⟨.type "dict",none,.dict #[dE P "__module__" 296 (.str "wright.errors" 194),dE P "__firstlineno__" 300 (.int (22) 299),dR P "__static_attributes__" 301 99,dE P "__doc__" 302 (.none)] 2,#[]⟩),
 (101,⟨.type "type",none,.cls ⟨"NoRules",[.ref 31],[.ref 101,.ref 31,.type "ValueError",.type "Exception",.type "BaseException",.type "object"],100,"NoRules",true,[],[],false,none,false⟩,#[some (.ref 92),none,some (.str "NoRules" 289),some (.str "NoRules" 297),some (.builtin "ValueError.__new__"),some (.bool true)]⟩),
 (cF 116 "__init__" "Twice.__init__" 317 26 2 111 112 .none (.ref 113) (.ref 114) (.ref 115) 322 323),
 (fF 117 "__init__" "Twice.__init__" (gy p 7 0) m1),
 (119,⟨.type "dict",none,.dict #[dE P "__module__" 312 (.str "wright.errors" 194),dE P "__firstlineno__" 316 (.int (24) 315),dR P "__init__" 324 117,dR P "__static_attributes__" 326 118,dE P "__doc__" 327 (.none)] 2,#[]⟩),
 (120,⟨.type "type",none,.cls ⟨"Twice",[.ref 31],[.ref 120,.ref 31,.type "ValueError",.type "Exception",.type "BaseException",.type "object"],119,"Twice",true,[],[],false,none,false⟩,#[some (.ref 104),none,some (.str "Twice" 305),some (.str "Twice" 313),some (.builtin "ValueError.__new__"),some (.bool true)]⟩),
 (cF 135 "__init__" "Endless.__init__" 342 31 2 130 131 .none (.ref 132) (.ref 133) (.ref 134) 347 348),
 (fF 136 "__init__" "Endless.__init__" (gy p 8 0) m1),
 (138,⟨.type "dict",none,.dict #[dE P "__module__" 337 (.str "wright.errors" 194),dE P "__firstlineno__" 341 (.int (29) 340),dR P "__init__" 349 136,dR P "__static_attributes__" 351 137,dE P "__doc__" 352 (.none)] 2,#[]⟩),
 (139,⟨.type "type",none,.cls ⟨"Endless",[.ref 31],[.ref 139,.ref 31,.type "ValueError",.type "Exception",.type "BaseException",.type "object"],138,"Endless",true,[],[],false,none,false⟩,#[some (.ref 123),none,some (.str "Endless" 330),some (.str "Endless" 338),some (.builtin "ValueError.__new__"),some (.bool true)]⟩),
 (cF 154 "__init__" "Unmet.__init__" 367 36 2 149 150 .none (.ref 151) (.ref 152) (.ref 153) 372 373),
 (fF 155 "__init__" "Unmet.__init__" (gy p 9 0) m1),
 (157,⟨.type "dict",none,.dict #[dE P "__module__" 362 (.str "wright.errors" 194),dE P "__firstlineno__" 366 (.int (34) 365),dR P "__init__" 374 155,dR P "__static_attributes__" 376 156,dE P "__doc__" 377 (.none)] 2,#[]⟩),
 (158,⟨.type "type",none,.cls ⟨"Unmet",[.ref 31],[.ref 158,.ref 31,.type "ValueError",.type "Exception",.type "BaseException",.type "object"],157,"Unmet",true,[],[],false,none,false⟩,#[some (.ref 142),none,some (.str "Unmet" 355),some (.str "Unmet" 363),some (.builtin "ValueError.__new__"),some (.bool true)]⟩),
 (cF 173 "__init__" "Loop.__init__" 392 41 2 168 169 .none (.ref 170) (.ref 171) (.ref 172) 397 398),
 (fF 174 "__init__" "Loop.__init__" (gy p 10 0) m1),
 (176,⟨.type "dict",none,.dict #[dE P "__module__" 387 (.str "wright.errors" 194),dE P "__firstlineno__" 391 (.int (39) 390),dR P "__init__" 399 174,dR P "__static_attributes__" 401 175,dE P "__doc__" 402 (.none)] 2,#[]⟩),
 (177,⟨.type "type",none,.cls ⟨"Loop",[.ref 31],[.ref 177,.ref 31,.type "ValueError",.type "Exception",.type "BaseException",.type "object"],176,"Loop",true,[],[],false,none,false⟩,#[some (.ref 161),none,some (.str "Loop" 380),some (.str "Loop" 388),some (.builtin "ValueError.__new__"),some (.bool true)]⟩),
 (cF 192 "__init__" "Vast.__init__" 417 46 2 187 188 .none (.ref 189) (.ref 190) (.ref 191) 422 423),
 (fF 193 "__init__" "Vast.__init__" (gy p 11 0) m1),
 (195,⟨.type "dict",none,.dict #[dE P "__module__" 412 (.str "wright.errors" 194),dE P "__firstlineno__" 416 (.int (44) 415),dR P "__init__" 424 193,dR P "__static_attributes__" 426 194,dE P "__doc__" 427 (.none)] 2,#[]⟩),
 (196,⟨.type "type",none,.cls ⟨"Vast",[.ref 31],[.ref 196,.ref 31,.type "ValueError",.type "Exception",.type "BaseException",.type "object"],195,"Vast",true,[],[],false,none,false⟩,#[some (.ref 180),none,some (.str "Vast" 405),some (.str "Vast" 413),some (.builtin "ValueError.__new__"),some (.bool true)]⟩),
 (207,⟨.type "dict",none,.dict #[dE P "__module__" 437 (.str "wright.errors" 194),dE P "__firstlineno__" 441 (.int (49) 440),dR P "__static_attributes__" 442 206,dE P "__doc__" 443 (.none)] 2,#[]⟩),
 (208,⟨.type "type",none,.cls ⟨"TooMany",[.ref 31],[.ref 208,.ref 31,.type "ValueError",.type "Exception",.type "BaseException",.type "object"],207,"TooMany",true,[],[],false,none,false⟩,#[some (.ref 199),none,some (.str "TooMany" 430),some (.str "TooMany" 438),some (.builtin "ValueError.__new__"),some (.bool true)]⟩),
 (cF 221 "__init__" "Clash.__init__" 458 53 2 218 219 .none .none .none (.ref 220) 461 462),
 (fF 222 "__init__" "Clash.__init__" (gy p 13 0) m1),
 (224,⟨.type "dict",none,.dict #[dE P "__module__" 453 (.str "wright.errors" 194),dE P "__firstlineno__" 457 (.int (51) 456),dR P "__init__" 463 222,dR P "__static_attributes__" 465 223,dE P "__doc__" 466 (.none)] 2,#[]⟩),
 (225,⟨.type "type",none,.cls ⟨"Clash",[.ref 31],[.ref 225,.ref 31,.type "ValueError",.type "Exception",.type "BaseException",.type "object"],224,"Clash",true,[],[],false,none,false⟩,#[some (.ref 211),none,some (.str "Clash" 446),some (.str "Clash" 454),some (.builtin "ValueError.__new__"),some (.bool true)]⟩),
 (cF 240 "__init__" "Refused.__init__" 481 58 2 235 236 .none (.ref 237) (.ref 238) (.ref 239) 486 487),
 (fF 241 "__init__" "Refused.__init__" (gy p 14 0) m1),
 (243,⟨.type "dict",none,.dict #[dE P "__module__" 476 (.str "wright.errors" 194),dE P "__firstlineno__" 480 (.int (56) 479),dR P "__init__" 488 241,dR P "__static_attributes__" 490 242,dE P "__doc__" 491 (.none)] 2,#[]⟩),
 (244,⟨.type "type",none,.cls ⟨"Refused",[.ref 31],[.ref 244,.ref 31,.type "ValueError",.type "Exception",.type "BaseException",.type "object"],243,"Refused",true,[],[],false,none,false⟩,#[some (.ref 228),none,some (.str "Refused" 469),some (.str "Refused" 477),some (.builtin "ValueError.__new__"),some (.bool true)]⟩),
 (255,⟨.type "dict",none,.dict #[dE P "__module__" 501 (.str "wright.errors" 194),dE P "__firstlineno__" 505 (.int (61) 504),dR P "__static_attributes__" 506 254,dE P "__doc__" 507 (.none)] 2,#[]⟩),
 (256,⟨.type "type",none,.cls ⟨"NoDeed",[.ref 31],[.ref 256,.ref 31,.type "ValueError",.type "Exception",.type "BaseException",.type "object"],255,"NoDeed",true,[],[],false,none,false⟩,#[some (.ref 247),none,some (.str "NoDeed" 494),some (.str "NoDeed" 502),some (.builtin "ValueError.__new__"),some (.bool true)]⟩),
 (cF 262 "heads_of" "heads_of" 512 64 1 259 260 .none .none .none (.ref 261) 515 516),
 (fF 263 "heads_of" "heads_of" (top p 17) m2),
 (cF 267 "words_in" "words_in" 518 66 1 264 265 .none .none .none (.ref 266) 521 522),
 (fF 268 "words_in" "words_in" (top p 18) m2),
 (cF 272 "numbers_by_name" "numbers_by_name" 524 74 1 269 270 .none .none .none (.ref 271) 527 528),
 (fF 273 "numbers_by_name" "numbers_by_name" (top p 19) m2),
 (cF 279 "standings_by_part" "standings_by_part" 530 79 1 274 275 .none (.ref 276) (.ref 277) (.ref 278) 539 540),
 (fF 280 "standings_by_part" "standings_by_part" (top p 20) m2),
 (cF 284 "found_empties" "found_empties" 544 86 1 281 282 .none .none .none (.ref 283) 547 548),
 (fF 285 "found_empties" "found_empties" (top p 22) m3),
 (cF 291 "first_places" "first_places" 550 97 2 286 287 .none (.ref 288) (.ref 289) (.ref 290) 558 559),
 (fF 292 "first_places" "first_places" (top p 23) m3),
 (cF 303 "__init__" "BeginTable.__init__" 573 106 2 300 301 .none .none .none (.ref 302) 576 577),
 (fF 304 "__init__" "BeginTable.__init__" (gy p 24 0) m3),
 (cF 310 "find_begins" "BeginTable.find_begins" 579 117 3 305 306 .none (.ref 307) (.ref 308) (.ref 309) 588 589),
 (fF 311 "find_begins" "BeginTable.find_begins" (gy p 24 1) m3),
 (cF 317 "words_of_part" "BeginTable.words_of_part" 591 125 2 312 313 .none (.ref 314) (.ref 315) (.ref 316) 596 597),
 (fF 318 "words_of_part" "BeginTable.words_of_part" (gy p 24 2) m3),
 (cF 324 "first_words" "BeginTable.first_words" 599 128 2 319 320 .none (.ref 321) (.ref 322) (.ref 323) 604 605),
 (fF 325 "first_words" "BeginTable.first_words" (gy p 24 3) m3),
 (cF 331 "all_empty" "BeginTable.all_empty" 607 131 2 326 327 .none (.ref 328) (.ref 329) (.ref 330) 612 613),
 (fF 332 "all_empty" "BeginTable.all_empty" (gy p 24 4) m3),
 (cF 338 "words_of_parts" "BeginTable.words_of_parts" 615 134 3 333 334 .none (.ref 335) (.ref 336) (.ref 337) 621 622),
 (fF 339 "words_of_parts" "BeginTable.words_of_parts" (gy p 24 5) m3),
 (341,⟨.type "dict",none,.dict #[dE P "__module__" 568 (.str "wright.begin_tables" 542),dE P "__firstlineno__" 572 (.int (104) 571),dR P "__init__" 578 304,dR P "find_begins" 590 311,dR P "words_of_part" 598 318,dR P "first_words" 606 325,dR P "all_empty" 614 332,dR P "words_of_parts" 623 339,dR P "__static_attributes__" 628 340,dR P "__dict__" 630 343,dR P "__weakref__" 632 344,dE P "__doc__" 633 (.none)] 4,#[]⟩),
 (342,⟨.type "type",none,.cls ⟨"BeginTable",[.type "object"],[.ref 342,.type "object"],341,"BeginTable",true,[],[],false,none,false⟩,#[none,none,some (.str "BeginTable" 561),some (.str "BeginTable" 569),some (.builtin "object.__new__"),some (.bool true)]⟩),
 (343,⟨.type "getset_descriptor",none,.fields #[.str "__dict__" 629,.ref 342,.builtin "function.__dict__",.builtin "function.__dict__#set"],#[]⟩),
 (344,⟨.type "getset_descriptor",none,.fields #[.str "__weakref__" 631,.ref 342,.builtin "ExceptionGroup.__weakref__",.none],#[]⟩),
 (cF 350 "find_loop" "find_loop" 638 137 1 347 348 .none .none .none (.ref 349) 641 642),
 (fF 351 "find_loop" "find_loop" (top p 26) m4),
 (cF 355 "steps_with_like_rows" "steps_with_like_rows" 644 141 1 352 353 .none .none .none (.ref 354) 647 648),
 (fF 356 "steps_with_like_rows" "steps_with_like_rows" (top p 27) m4),
 (cF 362 "way_back" "way_back" 650 150 3 357 358 .none (.ref 359) (.ref 360) (.ref 361) 663 664),
 (fF 363 "way_back" "way_back" (top p 28) m4),
 (cF 367 "least_sizes" "least_sizes" 668 166 1 364 365 .none .none .none (.ref 366) 671 672),
 (fF 368 "least_sizes" "least_sizes" (top p 30) m5),
 (cF 374 "greatest_empty_sizes" "greatest_empty_sizes" 674 168 1 369 370 .none (.ref 371) (.ref 372) (.ref 373) 678 679),
 (fF 375 "greatest_empty_sizes" "greatest_empty_sizes" (top p 31) m5),
 (cF 379 "settled_sizes" "settled_sizes" 681 170 3 376 377 .none .none .none (.ref 378) 684 685),
 (fF 380 "settled_sizes" "settled_sizes" (top p 32) m5),
 (cF 384 "refuse_faults" "refuse_faults" 691 183 2 381 382 .none .none .none (.ref 383) 694 695),
 (fF 385 "refuse_faults" "refuse_faults" (top p 35) m6),
 (cF 391 "refuse_twice" "refuse_twice" 697 202 1 386 387 .none (.ref 388) (.ref 389) (.ref 390) 705 706),
 (fF 392 "refuse_twice" "refuse_twice" (top p 36) m6),
 (cF 396 "names_met" "names_met" 708 209 1 393 394 .none .none .none (.ref 395) 711 712),
 (fF 397 "names_met" "names_met" (top p 37) m6),
 (cF 401 "least_by_part" "least_by_part" 716 219 1 398 399 .none .none .none (.ref 400) 719 720),
 (fF 402 "least_by_part" "least_by_part" (top p 39) m7),
 (cF 406 "rule_size" "rule_size" 722 227 2 403 404 .none .none .none (.ref 405) 725 726),
 (fF 407 "rule_size" "rule_size" (top p 40) m7),
 (cF 411 "empty_by_name" "empty_by_name" 728 229 2 408 409 .none .none .none (.ref 410) 731 732),
 (fF 412 "empty_by_name" "empty_by_name" (top p 41) m7),
 (cF 423 "__init__" "LeastTrees.__init__" 746 236 3 420 421 .none .none .none (.ref 422) 749 750),
 (fF 424 "__init__" "LeastTrees.__init__" (gy p 42 0) m7),
 (cF 430 "least_of" "LeastTrees.least_of" 752 243 2 425 426 .none (.ref 427) (.ref 428) (.ref 429) 757 758),
 (fF 431 "least_of" "LeastTrees.least_of" (gy p 42 1) m7),
 (cF 437 "hollow_of" "LeastTrees.hollow_of" 760 246 2 432 433 .none (.ref 434) (.ref 435) (.ref 436) 765 766),
 (fF 438 "hollow_of" "LeastTrees.hollow_of" (gy p 42 2) m7),
 (cF 444 "begun_place" "LeastTrees.begun_place" 768 249 3 439 440 .none (.ref 441) (.ref 442) (.ref 443) 774 775),
 (fF 445 "begun_place" "LeastTrees.begun_place" (gy p 42 3) m7),
 (cF 451 "begun_of" "LeastTrees.begun_of" 777 252 4 446 447 .none (.ref 448) (.ref 449) (.ref 450) 784 785),
 (fF 452 "begun_of" "LeastTrees.begun_of" (gy p 42 4) m7),
 (454,⟨.type "dict",none,.dict #[dE P "__module__" 741 (.str "wright.least_trees" 714),dE P "__firstlineno__" 745 (.int (234) 744),dR P "__init__" 751 424,dR P "least_of" 759 431,dR P "hollow_of" 767 438,dR P "begun_place" 776 445,dR P "begun_of" 786 452,dR P "__static_attributes__" 792 453,dR P "__dict__" 794 456,dR P "__weakref__" 796 457,dE P "__doc__" 797 (.none)] 4,#[]⟩),
 (455,⟨.type "type",none,.cls ⟨"LeastTrees",[.type "object"],[.ref 455,.type "object"],454,"LeastTrees",true,[],[],false,none,false⟩,#[none,none,some (.str "LeastTrees" 734),some (.str "LeastTrees" 742),some (.builtin "object.__new__"),some (.bool true)]⟩),
 (456,⟨.type "getset_descriptor",none,.fields #[.str "__dict__" 793,.ref 455,.builtin "function.__dict__",.builtin "function.__dict__#set"],#[]⟩),
 (457,⟨.type "getset_descriptor",none,.fields #[.str "__weakref__" 795,.ref 455,.builtin "ExceptionGroup.__weakref__",.none],#[]⟩),
 (467,⟨.type "tuple",none,.seq #[.none] 0,#[]⟩),
 (cF 473 "__init__" "Grammar.__init__" 814 257 3 468 469 .none (.ref 470) (.ref 471) (.ref 472) 820 821),
 (474,⟨.type "function",none,.func (fnOf "__init__" "Grammar.__init__" (cW (gy p 44 0)) (bV (gy p 44 0)) (ax (gy p 44 0)) (.ref 467) (.none) (.none) (.str "wright.grammars" 800) (none) (.ref 473) (.none)),#[]⟩),
 (cF 480 "start" "Grammar.start" 823 265 1 475 476 .none (.ref 477) (.ref 478) (.ref 479) 827 828),
 (fF 481 "start" "Grammar.start" (gy p 44 1) m8),
 (483,⟨.type "dict",none,.dict #[dE P "__module__" 809 (.str "wright.grammars" 800),dE P "__firstlineno__" 813 (.int (255) 812),dR P "__init__" 822 474,dR P "start" 829 481,dR P "__static_attributes__" 835 482,dR P "__dict__" 837 485,dR P "__weakref__" 839 486,dE P "__doc__" 840 (.none)] 4,#[]⟩),
 (484,⟨.type "type",none,.cls ⟨"Grammar",[.type "object"],[.ref 484,.type "object"],483,"Grammar",true,[],[],false,none,false⟩,#[none,none,some (.str "Grammar" 802),some (.str "Grammar" 810),some (.builtin "object.__new__"),some (.bool true)]⟩),
 (485,⟨.type "getset_descriptor",none,.fields #[.str "__dict__" 836,.ref 484,.builtin "function.__dict__",.builtin "function.__dict__#set"],#[]⟩),
 (486,⟨.type "getset_descriptor",none,.fields #[.str "__weakref__" 838,.ref 484,.builtin "ExceptionGroup.__weakref__",.none],#[]⟩),
 (489,⟨.type "tuple",none,.seq #[.str "left" 845,.str "right" 846,.str "none" 847] 0,#[]⟩),
 (490,⟨.type "tuple",none,.seq #[.str "*" 849,.str "+" 850,.str "?" 851] 0,#[]⟩),
 (cF 494 "read_grammar" "read_grammar" 855 271 1 491 492 .none .none .none (.ref 493) 858 859),
 (fF 495 "read_grammar" "read_grammar" (top p 49) m9),
 (cF 499 "read_row" "read_row" 861 279 3 496 497 .none .none .none (.ref 498) 864 865),
 (fF 500 "read_row" "read_row" (top p 50) m9),
 (cF 504 "read_rules" "read_rules" 867 288 3 501 502 .none .none .none (.ref 503) 870 871),
 (fF 505 "read_rules" "read_rules" (top p 51) m9),
 (cF 511 "is_part" "is_part" 873 299 1 506 507 .none (.ref 508) (.ref 509) (.ref 510) 877 878),
 (fF 512 "is_part" "is_part" (top p 52) m9),
 (cF 518 "comes_again" "comes_again" 880 301 1 513 514 .none (.ref 515) (.ref 516) (.ref 517) 884 885),
 (fF 519 "comes_again" "comes_again" (top p 53) m9),
 (cF 525 "with_added_rules" "with_added_rules" 887 303 1 520 521 .none (.ref 522) (.ref 523) (.ref 524) 895 896),
 (fF 526 "with_added_rules" "with_added_rules" (top p 54) m9),
 (cF 532 "rules_again" "rules_again" 898 314 1 527 528 .none (.ref 529) (.ref 530) (.ref 531) 903 904),
 (fF 533 "rules_again" "rules_again" (top p 55) m9),
 (cF 539 "_law_cell_at" "_law_cell_at" 908 322 2 534 535 .none (.ref 536) (.ref 537) (.ref 538) 913 914),
 (fF 540 "_law_cell_at" "_law_cell_at" (top p 57) vT),
 (cF 546 "_law_whole" "_law_whole" 916 326 1 541 542 .none (.ref 543) (.ref 544) (.ref 545) 920 921),
 (fF 547 "_law_whole" "_law_whole" (top p 58) vT),
 (cF 553 "_law_stream" "_law_stream" 923 328 2 548 549 .none (.ref 550) (.ref 551) (.ref 552) 931 932),
 (fF 554 "_law_stream" "_law_stream" (top p 59) vT),
 (cF 560 "_law_row" "_law_row" 934 335 2 555 556 .none (.ref 557) (.ref 558) (.ref 559) 942 943),
 (fF 561 "_law_row" "_law_row" (top p 60) vT),
 (cF 567 "_law_bad" "_law_bad" 945 354 1 562 563 .none (.ref 564) (.ref 565) (.ref 566) 950 951),
 (fF 568 "_law_bad" "_law_bad" (top p 61) vT),
 (cF 574 "_law_another" "_law_another" 953 358 1 569 570 .none (.ref 571) (.ref 572) (.ref 573) 958 959),
 (fF 575 "_law_another" "_law_another" (top p 62) vT),
 (cF 581 "_law_refused" "_law_refused" 961 363 2 576 577 .none (.ref 578) (.ref 579) (.ref 580) 968 969),
 (fF 582 "_law_refused" "_law_refused" (top p 63) vT),
 (cF 588 "law" "law" 971 372 1 583 584 .none (.ref 585) (.ref 586) (.ref 587) 984 985),
 (fF 589 "law" "law" (top p 64) vT)]
def as:List Addr:=[2,3,20,21,30,31,32,47,48,50,51,66,67,69,70,85,86,88,89,100,101,116,117,119,120,135,136,138,139,154,155,157,158,173,174,176,177,192,193,195,196,207,208,221,222,224,225,240,241,243,244,255,256,262,263,267,268,272,273,279,280,284,285,291,292,303,304,310,311,317,318,324,325,331,332,338,339,341,342,343,344,350,351,355,356,362,363,367,368,374,375,379,380,384,385,391,392,396,397,401,402,406,407,411,412,423,424,430,431,437,438,444,445,451,452,454,455,456,457,467,473,474,480,481,483,484,485,486,489,490,494,495,499,500,504,505,511,512,518,519,525,526,532,533,539,540,546,547,553,554,560,561,567,568,574,575,581,582,588,589]
def q' (p:Program):Program:=view p [0,2,3,4,5,6,7,8,9,10,11,12,13,14,15,17,18,19,20,22,23,24,26,27,28,30,31,32,34,35,36,37,39,40,41,42,44,46,47,48,49,50,51,52,53,54,55,57,58,59,60,61,62,63,64]
abbrev loose:List Str:=[]
abbrev steps:Nat:=5414
abbrev bound:Nat:=11808
abbrev BN:OpenLaw:=rw_wright_k17_rows_of_grammars_refused
noncomputable abbrev K (P:Params):Frag:=K' pw_wright_k17_rows_of_grammars_refused P
theorem O2 (P:Params):as=(K P).map (·.1):=by kernel_rfl
noncomputable abbrev hook:Hook:=kmHook K as O2 [399,370,365]
def pre (h:BN.row.wellSaid=true->BN.row.Holds):BN.Holds:=by
 o_law
 exact h (by assumption)
abbrev Xt:Shared->Bool:=λs=>xlAt (q' pw_wright_k17_rows_of_grammars_refused) [] s && recOk (RowW.records (OpenRow.toRowW (OpenLaw.row rw_wright_k17_rows_of_grammars_refused))) s
def run (w:World)(os:OsState):(Dq (stepT (denote treeTable) pw_wright_k17_rows_of_grammars_refused w) (stepOk 11 (some (.ref 6))) steps ⟨A2 w.params,11,{},Array.mk [],boot_drawn,boot_toks,os⟩ (topStub pw_wright_k17_rows_of_grammars_refused)).map
  (Df (Ek pw_wright_k17_rows_of_grammars_refused (q' pw_wright_k17_rows_of_grammars_refused) loose Xt (Hook.obs hook) true (boot_heap w.params)))=some (true,openGood (q' pw_wright_k17_rows_of_grammars_refused) loose,Hook.val hook w):=by
 rw [PySem.W.Fast.te10156331382660048174,PySem.W.Fast.te11892475500146522536,PySem.W.Fast.te14364793385576792824,PySem.W.Fast.te6613529449190102663,PySem.W.Fast.te7075296473965151834]
 kernel_rfl
theorem size (w:World):((boot_heap w.params).isNs mainGlobals && (Array.mk []:Array GenState).size == 0,(boot_heap w.params).objs.size,(boot_heap w.params).nsMap mainGlobals "__annotations__")=(true,11,some (.ref 6)):=by kernel_rfl
def DK:∀w:World,(fencedOpening treeTable pw_wright_k17_rows_of_grammars_refused w bound).map (λs=>(s.heap,s.gens,s.drawn,s.toks))=some (boot_heap w.params,Array.mk [],boot_drawn,boot_toks) :=
 boot_open (nofun) nofun (λs=>by kernel_rfl)
def left:LeftO (OpenRow.toRowW BN.row).prog (q' pw_wright_k17_rows_of_grammars_refused) loose Xt (Hook.obs hook) (Hook.val hook) bound:=NC DK size run nofun
def jL:DefRec:={ name := "law",params:=cW (top pw_wright_k17_rows_of_grammars_refused 64),body:=bV (top pw_wright_k17_rows_of_grammars_refused 64),scope:=ax (top pw_wright_k17_rows_of_grammars_refused 64),pos:=posOf (top pw_wright_k17_rows_of_grammars_refused 64) }
def Ry:defOf (q' pw_wright_k17_rows_of_grammars_refused) BN.row.name=some (jL,[]):=by kernel_rfl
def Rx:BN.row.prog.theDef BN.row.name=some (jL.params,jL.body,jL.scope):=by kernel_rfl
def YT:kwWritten? jL.params.kwonlyargs jL.params.kw_defaults=some []:=by kernel_rfl
def YS:(chainsOk (q' pw_wright_k17_rows_of_grammars_refused) && opensWell BN.row.prog && (frees BN.row.toRowW && BN.row.within.isEmpty))=true:=by kernel_rfl
def YR:jL.params.defaults=[]:=by kernel_rfl
def hold (h:WalkO (q' pw_wright_k17_rows_of_grammars_refused) loose (XL (q' pw_wright_k17_rows_of_grammars_refused) []) (Hook.says hook) BN.row.toRowW jL [] λf vs=>PySem.call f vs)(hw:BN.row.toRowW.promised):BN.Holds :=
 pre λQ_=>holds_open (q:=q' pw_wright_k17_rows_of_grammars_refused) (loose:=loose) (Xt:=Xt) (XP:=XL (q' pw_wright_k17_rows_of_grammars_refused) []) (Yf:=Hook.obs hook) (Ya:=Hook.val hook) (YP:=Hook.says hook) (N:=bound) left (Hook.of hook) (Hook.keeps hook) (λs e=>xl_of s (sq.mp e).1) XL.keeps Ry Rx YT (λs e=>recFacts_of (sq.mp e).2) rfl Q_ YS ⟨rfl,rfl,rfl,rfl,rfl,nofun⟩ hw h
end HD
namespace L2
open PySem PySem.Spec PyProof.Rows
section
variable {κ:Type} [DecidableEq κ]
def bh (kvs:List (κ×V))(k:κ):Option V:=(kvs.find? λkv=>decide (kv.1=k)).map (·.2)
def bE (kvs:List (κ×V))(k:κ)(v:V):List (κ×V) :=
 if (kvs.any λkv=>decide (kv.1=k))=true then kvs.map (λkv=>if kv.1=k then (kv.1,v) else kv) else kvs++[(k,v)]
def II (kvs:List (κ×V))(k:κ):List (κ×V):=kvs.filter λkv=>decide (kv.1≠k)
def dM {p:κ×V}{r:List (κ×V)}{k:κ}(e:p.1=k):bh (p::r) k=some p.2:=by simp [bh,nu,e]
def dN {p:κ×V}{r:List (κ×V)}{k:κ}(e:¬p.1=k):bh (p::r) k=bh r k:=by simp [bh,nu,e]
theorem iN (k:κ):∀kvs:List (κ×V),(kvs.any λkv=>decide (kv.1=k))=(bh kvs k).isSome
 | []=>rfl
 | p::r=>by
  rw [p_];by_cases e:p.1=k
  .simp only [dM e,gC e,Bool.true_or,Option.isSome_some]
  rw [dN e,eM e,Bool.false_or];exact iN k r
theorem wc (k j:κ)(y:V):∀kvs:List (κ×V),bh (kvs.map λkv=>if kv.1=k then (kv.1,y) else kv) j=(bh kvs j).map λx=>if j=k then y else x
 | []=>rfl
 | p::r=>by
  have ih:=wc k j y r;rw [bz];by_cases h:p.1=k
  .rw [ay h];by_cases e:p.1=j
   .rw [dM (p:=(p.1,y)) e,dM e,qb,ay (e.symm.trans h)]
   rw [dN (p:=(p.1,y)) e,dN e,ih]
  rw [av h];by_cases e:p.1=j
  .rw [dM (p:=p) e,dM e,qb,av (λz=>h (e.trans z))]
  rw [dN (p:=p) e,dN e,ih]
theorem sF (k j:κ)(y:V):∀kvs:List (κ×V),bh kvs k=none->bh (kvs++[(k,y)]) j=if j=k then some y else bh kvs j
 | [],_=>by
  by_cases e:k=j
  .rw [ay e.symm];exact dM (p:=(k,y)) e
  rw [av (λz=>e z.symm)];exact dN (p:=(k,y)) e
 | p::r,hn=>by
  rw [List.cons_append];have hk:¬p.1=k:=λz=>by rw [dM z] at hn;cases hn
  rw [dN hk] at hn;have ih:=sF k j y r hn;by_cases e:p.1=j
  .rw [dM e,dM e,av (λz=>hk (e.trans z))]
  rw [dN e,dN e,ih]
def wb (kvs:List (κ×V))(k j:κ)(y:V):bh (bE kvs k y) j=if j=k then some y else bh kvs j:=by
 unfold bE;by_cases a:(kvs.any λkv=>decide (kv.1=k))=true
 .rw [ay a,wc];rw [iN] at a;by_cases e:j=k
  .obtain⟨x,hx⟩:=lM.mp a;rw [ay e,e,hx,qb,ay rfl]
  rw [av e];cases bh kvs j with
  | none=>rfl
  | some x=>rw [qb,av e]
 rw [av a];refine sF k j y kvs ?_;rw [iN] at a;cases q:bh kvs k with
 | none=>rfl
 | some x=>rw [q] at a;exact(a rfl).elim
def d8 (kvs:List (κ×V))(k:κ)(v:V):(bE kvs k v).length<=kvs.length+1:=by
 unfold bE
 split
 .rw [aC];omega
 rw [bZ,cH,jw];omega
def wz {kvs:List (κ×V)}{k:κ}(v:V)(h:bh kvs k=none):bE kvs k v=kvs++[(k,v)]:=by
 unfold bE;rw [iN,h];exact av nofun
def hJ.iT {o:Option V}{u:Option Value}(r:hJ o u):o.isSome=u.isSome:=by
 cases o with
 | none=>cases u with
  | none=>rfl
  | some _=>exact(show False from r).elim
 | some _=>cases u with
  | none=>exact(show False from r).elim
  | some _=>rfl
theorem hJ.getD {o:Option V}{u:Option Value}{d:V}{d':Value}(r:hJ o u)(rd:RelV d d'):RelV (o.getD d) (u.getD d'):=by
 cases o with
 | none=>cases u with
  | none=>exact rd
  | some _=>exact(show False from r).elim
 | some _=>cases u with
  | none=>exact(show False from r).elim
  | some _=>exact r
def KV.val {kvs:List (κ×V)}{vs:List (κ×Value)}(r:KV kvs vs)(k:κ):hJ (bh kvs k) (valueAt vs k):=by
 unfold KV at r
 induction r with
 | nil=>exact True.intro
 | @cons p q ps qs h t ih =>
  obtain⟨h1,h2⟩:=h;by_cases e:p.1=k
  .have e':q.1=k:=h1.symm.trans e;have b:valueAt (q::qs) k=some q.2:=by simp [valueAt,nu,e']
   rw [dM e,b];exact h2
  have e':¬q.1=k:=λz=>e (h1.trans z);have b:valueAt (q::qs) k=valueAt qs k:=by simp [valueAt,nu,e']
  rw [dN e,b];exact ih
theorem KV.any {kvs:List (κ×V)}{vs:List (κ×Value)}(r:KV kvs vs)(k:κ):(kvs.any λkv=>decide (kv.1=k))=vs.any λkv=>decide (kv.1=k):=by
 unfold KV at r
 induction r with
 | nil=>rfl
 | cons h t ih=>rw [p_,p_,ih,h.1]
def KV.JK {kvs:List (κ×V)}{vs:List (κ×Value)}(r:KV kvs vs)(k:κ){y:V}{u:Value}(ry:RelV y u) :
  KV (kvs.map λkv=>if kv.1=k then (kv.1,y) else kv) (vs.map λkv=>if kv.1=k then (kv.1,u) else kv):=by
 unfold KV at r ⊢
 induction r with
 | nil=>exact .nil
 | @cons p q ps qs h t ih =>
  rw [bz,bz];refine .cons ?_ ih;obtain⟨h1,h2⟩:=h;by_cases e:p.1=k
  .rw [ay e,ay (h1.symm.trans e)];exact⟨h1,ry⟩
  rw [av e,av (λz=>e (h1.trans z))];exact⟨h1,h2⟩
def KV.put {kvs:List (κ×V)}{vs:List (κ×Value)}(r:KV kvs vs)(k:κ){y:V}{u:Value}(ry:RelV y u):KV (bE kvs k y) (stored vs k u):=by
 unfold bE stored;rw [r.any k];by_cases e:(vs.any λkv=>decide (kv.1=k))=true
 .rw [ay e,ay e];exact r.JK k ry
 rw [av e,av e];exact fJ r ⟨rfl,ry⟩
def KV.drop {kvs:List (κ×V)}{vs:List (κ×Value)}(r:KV kvs vs)(k:κ):KV (II kvs k) (without vs k):=by
 unfold KV at r ⊢;unfold II without
 induction r with
 | nil=>exact .nil
 | @cons p q ps qs h t ih =>
  obtain⟨h1,h2⟩:=h;rw [nE,nE];by_cases e:p.1=k
  .have a:¬decide (p.1≠k)=true:=by simp [e]
   have b:¬decide (q.1≠k)=true:=by simp [h1.symm.trans e]
   rw [av a,av b];exact ih
  have e':¬q.1=k:=λz=>e (h1.trans z);have a:decide (p.1≠k)=true:=by simp [e]
  have b:decide (q.1≠k)=true:=by simp [e']
  rw [ay a,ay b];exact .cons ⟨h1,h2⟩ ih
def KV.keys {kvs:List (κ×V)}{vs:List (κ×Value)}(r:KV kvs vs):kvs.map (·.1)=vs.map (·.1):=by
 unfold KV at r
 induction r with
 | nil=>rfl
 | cons h t ih=>rw [bz,bz,ih,h.1]
theorem KV.length {kvs:List (κ×V)}{vs:List (κ×Value)}(r:KV kvs vs):kvs.length=vs.length:=bM r
end
def kj {P:Program}{w:World}{k:aN}{u:Value}(r:RelV (kV k) u):(aX P w).is k u=true:=by
 cases k with
 | inl i=>obtain⟨t,e⟩:=(show ∃t,u=Value.int i t from r);subst e;exact wN P w i t
 | inr x=>obtain⟨t,e⟩:=(show ∃t,u=Value.str x t from r);subst e;exact wM P w x t
theorem tE {P:Program}{w:World}:∀{ks:List aN}{us:List Value},aU (ks.map kV) us->ItemsAre (aX P w) ks us
 | [],_,r=>by rw [iz] at r;cases r;exact .nil
 | k::ks,_,r=>by
  rw [bz] at r;cases r with
  | cons h t=>exact .cons (kj h) (tE t)
abbrev KT (H:Hp):List (List aN×V)->List (List aN×Addr×Value)->Prop:=Paired λp q=>p.1=q.1/\H q.2.1=some (.tup (p.1.map kV))/\RelV p.2 q.2.2
def KT.val {H:Hp}{kvs:List (List aN×V)}{xs:List (List aN×Addr×Value)}(r:KT H kvs xs)(k:List aN):hJ (bh kvs k) ((atKey xs k).map (·.2)):=by
 induction r with
 | nil=>exact True.intro
 | @cons p q ps qs h t ih =>
  obtain⟨h1,_,h2⟩:=h;by_cases e:p.1=k
  .have e':q.1=k:=h1.symm.trans e;have b:atKey (q::qs) k=some q.2:=by simp [atKey,nu,e']
   rw [dM e,b];exact h2
  have e':¬q.1=k:=λz=>e (h1.trans z);have b:atKey (q::qs) k=atKey qs k:=by simp [atKey,nu,e']
  rw [dN e,b];exact ih
def KT.JK {H:Hp}{kvs:List (List aN×V)}{xs:List (List aN×Addr×Value)}(r:KT H kvs xs)(k:List aN){y:V}{u:Value}(ry:RelV y u) :
  KT H (kvs.map λkv=>if kv.1=k then (kv.1,y) else kv) (xs.map (putAt k u)):=by
 induction r with
 | nil=>exact .nil
 | @cons p q ps qs h t ih =>
  rw [bz,bz];refine .cons ?_ ih;obtain⟨h1,h2,h3⟩:=h;unfold putAt;by_cases e:p.1=k
  .rw [ay e,ay (h1.symm.trans e)];exact⟨h1,h2,ry⟩
  rw [av e,av (λz=>e (h1.trans z))];exact⟨h1,h2,h3⟩
def KT.put {H:Hp}{kvs:List (List aN×V)}{xs:List (List aN×Addr×Value)}(r:KT H kvs xs)(k:List aN){b:Addr}{y:V}{u:Value}(hb:H b=some (.tup (k.map kV)))(ry:RelV y u) :
  KT H (bE kvs k y) (storedH xs k b u):=by
 have e:(kvs.any λkv=>decide (kv.1=k))=(atKey xs k).isSome:=by
  rw [iN,(r.val k).iT,nK]
 unfold bE storedH;rw [e];by_cases q:(atKey xs k).isSome=true
 .rw [ay q,ay q];exact r.JK k ry
 rw [av q,av q];exact fJ r ⟨rfl,hb,ry⟩
def KT.keeps {H H':Hp}{kvs:List (List aN×V)}{xs:List (List aN×Addr×Value)}(r:KT H kvs xs)(ht:∀b ys,H b=some (.tup ys)->H' b=some (.tup ys)):KT H' kvs xs :=
 Paired.gA r λ_ _ z=>⟨z.1,ht _ _ z.2.1,z.2.2⟩
section
variable {P:Program}{w:World}{H:Hp}{h:Heap}{a:Addr}
def Ib {u:HO}(ok:j8 P w H h)(e:Rd H a u):bU P w H h a u:=e.ok ok
def mQ {kvs:List (aN×V)}(ok:j8 P w H h)(e:Rd H a (.dK kvs)):kvs.length<=sizeLine/\(a == sysModules)=false/\∃vs,KV kvs vs/\h.DictOf (aX P w) a vs :=
 show bU P w H h a (.dK kvs) from Ib ok e
def xn {kvs:List (aN×V)}(ok:j8 P w H h)(e:H a=some (.dK kvs)):kvs.length<=sizeLine/\(a == sysModules)=false/\∃vs,KV kvs vs/\h.DictOf (aX P w) a vs:=mQ ok (.inl e)
def kX {ks:List aN}(ok:j8 P w H h)(e:H a=some (.tup (ks.map kV))):(tupleKind (aX P w)).is h ks a:=by
 obtain⟨_,aO,r,o,h1,h2,n,h3⟩:=(show bU P w H h a (.tup (ks.map kV)) from ok a _ e);exact⟨o,aO.toArray,n,h1,h2,h3,by simpa using tE r⟩
def rf {kvs:List (List aN×V)}(ok:j8 P w H h)(e:Rd H a (.dT kvs)):kvs.length<=sizeLine/\(a == sysModules)=false /\
  ∃xs,KT H kvs xs/\h.DictOfH (tupleKind (aX P w)) a xs:=by
 obtain⟨z,y,xs,r,o,es,ep,h1,h2,h3,h4,h5⟩:=(show bU P w H h a (.dT kvs) from Ib ok e);refine⟨z,y,xs,r,o,es,ep,h1,h2,h3,h4,λx hx=>?_,h5⟩;have all:∀{l:List (List aN×V)}{m:List (List aN×Addr×Value)},KT H l m->∀x∈m,(tupleKind (aX P w)).is h x.1 x.2.1:=by
  intro l m q
  induction q with
  | nil=>intro x hx;exact nomatch hx
  | @cons p q ps qs hq t ih =>
   intro x hx;rcases aT.mp hx with e | hx
   .subst e;exact kX ok (by rw [<-hq.1];exact hq.2.1)
   exact ih x hx
 exact all r x hx
def OQ {kvs:List (List aN×V)}(ok:j8 P w H h)(e:H a=some (.dT kvs)):kvs.length<=sizeLine/\(a == sysModules)=false /\
  ∃xs,KT H kvs xs/\h.DictOfH (tupleKind (aX P w)) a xs:=rf ok (.inl e)
end
def cu (H:Hp)(a:Addr)(y:V)(r:Option V):Prop :=
 (∃kvs k,Rd H a (.dK kvs)/\y=kV k/\r=bh kvs k)\/∃kvs k b,Rd H a (.dT kvs)/\y=.ref b/\H b=some (.tup (k.map kV))/\r=bh kvs k
def oF (H:Hp)(a:Addr)(y v:V)(H':Hp):Prop :=
 (∃kvs k,H a=some (.dK kvs)/\y=kV k/\kvs.length < sizeLine/\H'=upd H a (.dK (bE kvs k v))) \/
 ∃kvs k b,H a=some (.dT kvs)/\y=.ref b/\H b=some (.tup (k.map kV))/\kvs.length < sizeLine/\H'=upd H a (.dT (bE kvs k v))
theorem cu.k {H:Hp}{a:Addr}{kvs:List (aN×V)}{k:aN}(e:H a=some (.dK kvs)):cu H a (kV k) (bh kvs k):=.inl ⟨kvs,k,.inl e,rfl,rfl⟩
def cu.t {H:Hp}{a b:Addr}{kvs:List (List aN×V)}{k:List aN}(e:H a=some (.dT kvs))(eb:H b=some (.tup (k.map kV))):cu H a (.ref b) (bh kvs k):=.inr ⟨kvs,k,b,.inl e,rfl,eb,rfl⟩
theorem oF.k {H:Hp}{a:Addr}{kvs:List (aN×V)}{k:aN}{v:V}(e:H a=some (.dK kvs))(hl:kvs.length < sizeLine):oF H a (kV k) v (upd H a (.dK (bE kvs k v))):=.inl ⟨kvs,k,e,rfl,hl,rfl⟩
def oF.t {H:Hp}{a b:Addr}{kvs:List (List aN×V)}{k:List aN}{v:V}(e:H a=some (.dT kvs))(eb:H b=some (.tup (k.map kV)))(hl:kvs.length < sizeLine) :
  oF H a (.ref b) v (upd H a (.dT (bE kvs k v))):=.inr ⟨kvs,k,b,e,rfl,eb,hl,rfl⟩
section
variable {X:Cx}{ai:List (Addr×Obj)}{σ:St}{H:Hp}{s:Shared}{a:Addr}{y v:V}{u r:Value}{o:Option V}{A:Around}{E:Value->Shared->Prop}
def Inv.big (I:Inv X ai σ H s):sysModules < s.heap.objs.size:=by
 have h:mainGlobals < s.heap.objs.size:=(I.mod.glob.keeps I.bk).lt;exact kA nofun h
def B_ {Q:Value->Shared->Prop}(hu:A.units+1 < cLine)(I:Inv X ai σ H s)(g:cu H a y (some v))(ry:RelV y u)(h:∀w' s',Inv X ai σ H s'->RelV v w'->Q w' s') :
  wpAny (model X.prog X.w) A (getItem (.ref a) u) Q E s:=by
 rcases g with ⟨kvs,k,e,ey,l⟩ | ⟨kvs,k,b,e,ey,eb,l⟩
 .subst ey;obtain⟨z,hd,vs,rel,dd⟩:=mQ I.bD e;obtain⟨w',hw,yO⟩:=hJ.some_of (v:=v) (o:=valueAt vs k) (by rw [l];exact rel.val k);exact wpAny_getItem_of (kj ry) dd.mapOf hw (h w' _ (I.tok _) yO)
 subst ey;cases (show u=Value.ref b from ry);obtain⟨z,hd,xs,rel,dd⟩:=rf I.bD e;obtain⟨w',hw,yO⟩:=hJ.some_of (v:=v) (o:=(atKey xs k).map (·.2)) (by rw [l];exact rel.val k);obtain⟨p,hp,je⟩:=cf.mp hw;refine wpAny_getItem_heap (nI hu) (kX I.bD eb) dd hp ?_;rw [je];exact h w' _ (I.tok _) yO
def Uu {Q:Value->Shared->Prop}(hu:A.units+1 < cLine)(I:Inv X ai σ H s)(g:cu H a y o)(ry:RelV y u)(h:∀s',Inv X ai σ H s'->Q (.bool o.isSome) s') :
  wpAny (model X.prog X.w) A (compareOp .In u (.ref a)) Q E s:=by
 rcases g with ⟨kvs,k,e,ey,l⟩ | ⟨kvs,k,b,e,ey,eb,l⟩
 .subst ey;obtain⟨z,hd,vs,rel,dd⟩:=mQ I.bD e;refine wpAny_in_of (kj ry) hd dd.mapOf ?_;rw [<-(rel.val k).iT,<-l];exact h _ (I.tok _)
 subst ey;cases (show u=Value.ref b from ry);obtain⟨z,hd,xs,rel,dd⟩:=rf I.bD e;refine wpAny_in_heap (nI hu) (kX I.bD eb) hd dd ?_;have q:=(rel.val k).iT;rw [nK] at q;rw [<-q,<-l];exact h _ (I.tok _)
def Hw {Q:Value->Shared->Prop}(hu:A.units+1 < cLine)(I:Inv X ai σ H s)(g:cu H a y o)(ry:RelV y u)(h:∀s',Inv X ai σ H s'->Q (.bool (!o.isSome)) s') :
  wpAny (model X.prog X.w) A (compareOp .NotIn u (.ref a)) Q E s:=by
 rcases g with ⟨kvs,k,e,ey,l⟩ | ⟨kvs,k,b,e,ey,eb,l⟩
 .subst ey;obtain⟨z,hd,vs,rel,dd⟩:=mQ I.bD e;refine wpAny_notIn_of (kj ry) hd dd.mapOf ?_;rw [<-(rel.val k).iT,<-l];exact h _ (I.tok _)
 subst ey;cases (show u=Value.ref b from ry);obtain⟨z,hd,xs,rel,dd⟩:=rf I.bD e;refine wpAny_notIn_heap (nI hu) (kX I.bD eb) hd dd ?_;have q:=(rel.val k).iT;rw [nK] at q;rw [<-q,<-l];exact h _ (I.tok _)
def pU {h':Heap}{t':Nat}{ob:HO}(I:Inv X ai σ H s)(mu:Pd (H a))(hs:Heap.SameBut a s.heap h')(he:∃q,h'.get? a=some q)(new:bU X.prog X.w (upd H a ob) h' a ob) :
  Inv X ai σ (upd H a ob) { s with heap:=h',toks:=t' } :=
 I.write (x:=a) (e:=a) mu (.inl rfl) (λb q hb z=>(hs.2 b hb).trans z) he new
def rg {P:Program}{w:World}{H':Hp}{h':Heap}{kvs:List (aN×V)}{vs:List (aN×Value)}(z:kvs.length<=sizeLine)(hd:(a == sysModules)=false)(rel:KV kvs vs)(dd:h'.DictOf (aX P w) a vs) :
  bU P w H' h' a (.dK kvs):=⟨z,hd,vs,rel,dd⟩
def B9 {H':Hp}{Q:Unit->Shared->Prop}(hu:A.units+1 < cLine)(I:Inv X ai σ H s)(g:oF H a y v H')(ry:RelV y u)(rv:RelV v r)(h:∀s',Inv X ai σ H' s'->Q () s') :
  wpAny (model X.prog X.w) A (setItem (.ref a) u r) Q E s:=by
 rcases g with ⟨kvs,k,e,ey,l,eH⟩ | ⟨kvs,k,b,e,ey,eb,l,eH⟩
 .subst ey eH;obtain⟨z,hd,vs,rel,dd⟩:=xn I.bD e;have hz:vs.length<=sizeLine:=by rw [<-rel.length];exact z
  have hl:(bE kvs k v).length<=sizeLine:=by have:=d8 kvs k v;omega
  refine wpAny_setItem_pairs (hsz:=hz) (kj ry) dd λh' FT hs=>h _ ?_;have he:∃q,h'.get? a=some q:=let ⟨q,_,_,hq,_⟩:=FT;⟨q,hq⟩;exact pU I (by rw [e];exact True.intro) hs he (rg hl hd (rel.put k rv) FT)
 subst ey eH;cases (show u=Value.ref b from ry);obtain⟨z,hd,xs,rel,dd⟩:=OQ I.bD e;have hz:xs.length<=sizeLine:=by rw [<-bM rel];exact z
 have hl:(bE kvs k v).length<=sizeLine:=by have:=d8 kvs k v;omega
 refine wpAny_setItem_heap (hsz:=hz) (nI hu) (kX I.bD eb) dd λh' FT hs=>h _ ?_;obtain⟨q,es,ep,hq,h2,h3,h4,_,h5⟩:=FT;refine pU I (by rw [e];exact True.intro) hs ⟨q,hq⟩ ⟨hl,hd,_,(rel.put k eb rv).keeps λc ys ec=>?_,q,es,ep,hq,h2,h3,h4,h5⟩;rw [aj (Nr ec e (λz=>nomatch z))];exact ec
end
section
variable {X:Cx}{ai:List (Addr×Obj)}{σ:St}{H:Hp}{s:Shared}{a:Addr}{kvs:List (aN×V)}{k:aN}{u:Value}{A:Around}{E:Value->Shared->Prop}
def OS {Q:Value->Shared->Prop}(I:Inv X ai σ H s)(e:Rd H a (.dK kvs))(h:∀t s',Inv X ai σ H s'->Q (.int kvs.length t) s'):wpAny (model X.prog X.w) A (call (.builtin "len") [.ref a]) Q E s:=by
 obtain⟨z,hd,vs,rel,dd⟩:=mQ I.bD e;refine call_len_dict hd dd (by rw [<-rel.length];rw [gT] at z;omega) ?_;rw [<-rel.length];exact h _ _ (I.tok _)
end
def Pb (i:Expr):Prop:=∀ov iv,subscripted i false ov iv=operate [ov,iv] (getItem ov iv)
def Ab {prog:Program}{w:World}{A:Around}{E:Value->Shared->Prop}{s:Shared}{env:Env}{value slice:Expr}{pos:Pos}{T id:String}{Q:Value->Shared->Prop}
  (hl:typeLookup (.type T) "__getitem__"=pure (some (.builtin id)))(hs:Pb slice)
  (h:wpAny (model prog w) A (eval value env) (λo s₁=>wpAny (model prog w) A (eval slice env) (λi s₂=>s₂.TypeIs o T/\wpAny (model prog w) A (getItem o i) Q E s₂) E s₁) E s) :
  wpAny (model prog w) A (eval (.Subscript value slice pos) env) Q E s:=by
 refine Subscript_ (cw h (λo s₁ h₁=>cw h₁ (λi s₂ h₂=>?_) λ_ _ x=>x) λ_ _ x=>x);obtain⟨hT,h₂⟩:=h₂;unfold subscriptTail;refine aB ?_;rw [getitemInPython_of_ne hT.not_modules];refine aB (wpAny_specialOf hT hl ?_);have fin:wpAny (model prog w) A (subscripted slice false o i) (λr s₃=>wpAny (model prog w) A (letTemporaryGo value o r >>= λ_=>pure r) Q E s₃) E s₂:=by
  rw [hs o i];exact wpAny_operating (cw h₂ (λr s₃ h₃=>aB (wpAny_letTemporaryGo (aR h₃))) λ_ _ x=>x)
 first
  | exact aR (aB fin)
  | exact aB (aR (aB fin))
  | exact aB fin
def xq {X:Cx}{ai:List (Addr×Obj)}{σ:St}{H:Hp}{s:Shared}{a:Addr}{y:V}{o:Option V}(I:Inv X ai σ H s)(g:cu H a y o):s.TypeIs (.ref a) "dict" := by
 rcases g with ⟨kvs,k,e,_,_⟩ | ⟨kvs,k,b,e,_,_,_⟩
 .obtain⟨_,_,vs,_,dd⟩:=mQ I.bD e;exact dd.typeIs
 obtain⟨_,_,xs,_,dd⟩:=rf I.bD e;exact dd.typeIs
inductive XD (x:V)(S:Addr->Hp->Prop)(R:Hp->Prop):Prop
|mk(a:Addr)(H4:Hp)(e:x=.ref a)(s:S a H4)(q:R H4)
inductive XE (S:Option V->Prop)(R:Option V->Prop):Prop
|mk(o:Option V)(s:S o)(q:R o)
inductive XF (x:V)(S:Addr->V->Prop)(R:V->Prop):Prop
|mk(a:Addr)(v:V)(e:x=.ref a)(s:S a v)(q:R v)
inductive U4 (x:V)(S:Addr->Option V->Prop)(R:Option V->Prop):Prop
|mk(a:Addr)(o:Option V)(e:x=.ref a)(s:S a o)(q:R o)
def z9 (td ty:TE):TE:=λσ H Q=>td σ H λx H1=>ty σ H1 λy H2=>XF x (λa v=>cu H2 a y (some v)) λv=>Q v H2
def MU (ty td:TE):TE:=λσ H Q=>ty σ H λy H1=>td σ H1 λx H2=>U4 x (λa o=>cu H2 a y o) λo=>Q (.bl o.isSome) H2
def z8 (ty td:TE):TE:=λσ H Q=>ty σ H λy H1=>td σ H1 λx H2=>U4 x (λa o=>cu H2 a y o) λo=>Q (.bl (!o.isSome)) H2
def M7 (td ty tv:TE):TS:=λD σ H=>tv σ H λv H1=>td σ H1 λx H2=>ty σ H2 λy H3=>XD x (λa H4=>oF H3 a y v H4) λH4=>D.nx σ H4
section
variable {X:Cx}{o i e value:Expr}{pos pos' nR:Pos}{td ty tv:TE}
def eh (hu:X.A.units+1 < cLine)(ho:PE X o td)(hi:PE X i ty)(hs:Pb i):PE X (.Subscript o i pos) (z9 td ty):=by
 intro ai s σ H Q I h;refine Ab PySem.F.slot_dict_getitem.lookup hs (cx (ho ai s σ H _ I h) λu s1 aV=>?_);obtain⟨x,H1,I1,rx,q1⟩:=aV;refine cx (hi ai s1 σ H1 _ I1 q1) λiv s2 aV=>?_;obtain⟨y,H2,I2,ry,a,v,ex,g,q2⟩:=aV;subst ex;obtain rfl:u=Value.ref a:=rx;exact⟨xq I2 g,B_ hu I2 g ry λw' s3 I3 yO=>⟨v,H2,I3,yO,q2⟩⟩
def n8 (hu:X.A.units+1 < cLine)(hi:PE X i ty)(ho:PE X o td):PC X .In i o (MU ty td):=by
 intro ai s σ H Q I h;refine cx (hi ai s σ H _ I h) λiv s1 aV=>?_;obtain⟨y,H1,I1,ry,q1⟩:=aV;refine cx (ho ai s1 σ H1 _ I1 q1) λu s2 aV=>?_;obtain⟨x,H2,I2,rx,a,ov,ex,g,q2⟩:=aV;subst ex;obtain rfl:u=Value.ref a:=rx;exact Uu hu I2 g ry λs3 I3=>⟨.bl ov.isSome,H2,I3,rfl,q2⟩
def du (hu:X.A.units+1 < cLine)(hi:PE X i ty)(ho:PE X o td):PC X .NotIn i o (z8 ty td):=by
 intro ai s σ H Q I h;refine cx (hi ai s σ H _ I h) λiv s1 aV=>?_;obtain⟨y,H1,I1,ry,q1⟩:=aV;refine cx (ho ai s1 σ H1 _ I1 q1) λu s2 aV=>?_;obtain⟨x,H2,I2,rx,a,ov,ex,g,q2⟩:=aV;subst ex;obtain rfl:u=Value.ref a:=rx;exact Hw hu I2 g ry λs3 I3=>⟨.bl (!ov.isSome),H2,I3,rfl,q2⟩
def il (hu:X.A.units+1 < cLine)(ho:PE X o td)(hi:PE X i ty)(hv:PE X value tv)(hs:swapsWith value (some (.Subscript o i pos')) pos.line X.env=pure false) :
  PS X (.Assign [.Subscript o i pos'] value pos) (M7 td ty tv):=by
 intro ai s σ H D I h;refine wpAny_Assign_Subscript (cx (hv ai s σ H _ I h) λr s1 aV=>?_) hs;obtain⟨v,H1,I1,rv,q1⟩:=aV;refine cx (ho ai s1 σ H1 _ I1 q1) λu s2 aV=>?_;obtain⟨x,H2,I2,rx,q2⟩:=aV;refine cx (hi ai s2 σ H2 _ I2 q2) λiv s3 aV=>?_;obtain⟨y,H3,I3,ry,a,H4,ex,g,q3⟩:=aV;subst ex;obtain rfl:u=Value.ref a:=rx;exact B9 hu I3 g ry rv λs4 I4=>⟨σ,H4,I4,q3⟩
end
def xp {P:Program}{w:World}{H:Hp}(h:Heap)(hb:sysModules < h.objs.size):bU P w H (h.push { cls:=.type "dict",data:=.dict #[] }) h.objs.size (.dK []) :=
 ⟨dC _,iJ.mpr (cZ (bx hb)),[],.nil,Heap.DictOf.new h⟩
def C0:TE:=λ_ H Q=>∀p,H p=none->Q (.ref p) (upd H p (.dK []))
section
variable {X:Cx}{pos:Pos}
def fw:PE X (.Dict [] [] pos) C0:=λai s σ H Q I h =>
 wpAny_Dict_empty ⟨.ref s.heap.objs.size,_,I.laid (a:=s.heap.objs.size) (o:=.dK []) (t':=s.toks) (λ_ _ q=>bC _ q) (aK _) (xp s.heap I.big),rfl,h _ (I.bD.fresh (aK _))⟩
end
def yq:List (TE×TE)->St->Hp->(List (V×V)->Hp->Prop)->Prop
 | [],_,H,Q=>Q [] H
 | (tk,tv)::r,σ,H,Q=>tk σ H λx H1=>tv σ H1 λy H2=>yq r σ H2 λps H3=>Q ((x,y)::ps) H3
abbrev VV:List (V×V)->List (Value×Value)->Prop:=Paired λp q=>RelV p.1 q.1/\RelV p.2 q.2
def QA (X:Cx)(pos:Pos)(keys:List (Option Expr))(values:List Expr)(F7:List (TE×TE)):Prop :=
 ∀(ai:List (Addr×Obj))(s:Shared)(σ:St)(H:Hp)(Q:List (V×V)->Hp->Prop),Inv X ai σ H s->yq F7 σ H Q ->
  wpAny (model X.prog X.w) X.A (evalPairs (pairTrees keys values X.env pos)) (λvs s'=>∃ps H',Inv X ai σ H' s'/\VV ps vs/\Q ps H') X.xe s
def GD {X:Cx}{pos:Pos}:QA X pos [] [] []:=λai s σ H Q I h=>pairTrees_nil_walk ⟨[],H,I,.nil,h⟩
def Dz {X:Cx}{pos:Pos}{k v:Expr}{ks:List (Option Expr)}{vs:List Expr}{tk tv:TE}{F7:List (TE×TE)}(hk:PE X k tk)(hv:PE X v tv)(hr:QA X pos ks vs F7) :
  QA X pos (some k::ks) (v::vs) ((tk,tv)::F7):=λai s σ H Q I h =>
 pairTrees_cons_walk (cx (hk ai s σ H _ I h) λu s1 ⟨x,H1,I1,rx,q1⟩=>cx (hv ai s1 σ H1 _ I1 q1) λw2 s2 ⟨y,H2,I2,ry,q2⟩ =>
  cx (hr ai s2 σ H2 _ I2 q2) λws s3 ⟨ps,H3,I3,rel,q3⟩=>⟨(x,y)::ps,H3,I3,.cons ⟨rx,ry⟩ rel,q3⟩)
def kR (kvs more:List (aN×V)):List (aN×V):=more.foldl (λbB kv=>bE bB kv.1 kv.2) kvs
def KV.merge:∀{more:List (aN×V)}{rs:List (aN×Value)}{kvs:List (aN×V)}{vs:List (aN×Value)},KV more rs->KV kvs vs->KV (kR kvs more) (merged vs rs):=by
 intro more rs kvs vs r;unfold KV at r
 induction r generalizing kvs vs with
 | nil=>intro q;exact q
 | @cons p q ps qs h t ih =>
  intro r0;have e:KV (bE kvs p.1 p.2) (stored vs q.1 q.2):=by
   have:=r0.put p.1 h.2;rw [<-h.1];exact this
  exact ih e
theorem ki:∀(more kvs:List (aN×V)),(kR kvs more).length<=kvs.length+more.length
 | [],kvs=>by show kvs.length<=kvs.length+0;omega
 | p::r,kvs=>by
  have h1:=ki r (bE kvs p.1 p.2);have h2:=d8 kvs p.1 p.2;show (kR (bE kvs p.1 p.2) r).length<=_;rw [cH];omega
theorem rB {P:Program}{w:World}:∀{kvs:List (aN×V)}{ws:List (Value×Value)},VV (kvs.map λkv=>(kV kv.1,kv.2)) ws->∃rs,Carries (aX P w) ws rs/\KV kvs rs
 | [],_,r=>by rw [iz] at r;cases r;exact⟨[],True.intro,.nil⟩
 | p::kvs,_,r=>by
  rw [bz] at r;cases r with
  | @cons a b as bs h t =>
   obtain⟨rs,c,q⟩:=rB (P:=P) (w:=w) t;obtain⟨b1,b2⟩:=b;exact⟨(p.1,b2)::rs,⟨kj h.1,rfl,c⟩,.cons ⟨rfl,h.2⟩ q⟩
def MS (F7:List (TE×TE)):TE:=λσ H Q=>∀p,H p=none->yq F7 σ (upd H p (.dK [])) λps H2=>H2 p=some (.dK [])/\∃kvs:List (aN×V),ps=kvs.map (λkv=>(kV kv.1,kv.2))/\kvs.length<=15/\Q (.ref p) (upd H2 p (.dK (kR [] kvs)))
def GQ {X:Cx}{pos:Pos}{keys:List (Option Expr)}{values:List Expr}{F7:List (TE×TE)}(h:QA X pos keys values F7)(pB:keys.all (·.isSome)=true)(hl:keys.length=values.length)(h0:keys≠[])
  (OB:keys.length<=15):PE X (.Dict keys values pos) (MS F7):=by
 intro ai s σ H Q I q;have hn:=I.bD.fresh (aK s.heap.objs.size);have I1:=I.laid (a:=s.heap.objs.size) (o:=.dK []) (h':=s.heap.push { cls:=.type "dict",data:=.dict #[] }) (t':=s.toks) (λ_ _ q=>bC _ q) (aK _) (xp s.heap I.big);refine wpAny_Dict_walk (knd:=aX X.prog X.w) pB hl h0 OB (cx (h ai _ σ _ _ I1 (q _ hn)) λws s2 aV=>?_);obtain⟨ps,H2,I2,rel,e,kvs,ep,lk,q2⟩:=aV;subst ep;obtain⟨rs,c,rk⟩:=rB (P:=X.prog) (w:=X.w) rel;obtain⟨z,hd,vs0,r0,dd⟩:=xn I2.bD e;cases r0;refine⟨rs,c,dd,λh' FT hs=>⟨.ref s.heap.objs.size,_,?_,rfl,q2⟩⟩;have hz:(kR [] kvs).length<=sizeLine:=by
  have h1:=ki kvs [];rw [jw] at h1;rw [gT];omega
 have he:∃q,h'.get? s.heap.objs.size=some q:=let ⟨q,_,_,hq,_⟩:=FT;⟨q,hq⟩;exact pU I2 (by rw [e];exact True.intro) hs he (rg hz hd (rk.merge .nil) FT)
structure M1 (X:Cx)(o:Expr)(m:Str)(apos:Pos)(e:Expr)(gu:Pos):Prop where
 base:attributeBase o m X.env (eval o X.env)=eval o X.env
 Qe:((backTo gu (starEach [e] X.env)).all (λx=>!x.1) && (backToKw gu (keywordEach [] X.env)).all (λx=>x.1.isSome)
  && decide (([e]:List Expr).length+([]:List Keyword).length+(if ([]:List Keyword).isEmpty then 0 else 1) < 30))=true
 line:(apos.endLine == gu.line)=true
 trees:backTo gu (starEach [e] X.env)=[(false,eval e X.env)]
structure M2 (X:Cx)(o:Expr)(m:Str)(apos:Pos)(e f:Expr)(gu:Pos):Prop where
 base:attributeBase o m X.env (eval o X.env)=eval o X.env
 Qe:((backTo gu (starEach [e,f] X.env)).all (λx=>!x.1) && (backToKw gu (keywordEach [] X.env)).all (λx=>x.1.isSome)
  && decide (([e,f]:List Expr).length+([]:List Keyword).length+(if ([]:List Keyword).isEmpty then 0 else 1) < 30))=true
 line:(apos.endLine == gu.line)=true
 trees:backTo gu (starEach [e,f] X.env)=[(false,eval e X.env),(false,eval f X.env)]
def QB (H:Hp)(a:Addr):Prop:=(∃kvs,Rd H a (.dK kvs))\/∃kvs,Rd H a (.dT kvs)
def zx {X:Cx}{ai:List (Addr×Obj)}{σ:St}{H:Hp}{s:Shared}{a:Addr}(I:Inv X ai σ H s)(d:QB H a) :
  s.TypeIs (.ref a) "dict" /\ (∀b,Value.ref a=.ref b->∃ob,s.heap.get? b=some ob/\ob.dict=none)/\(a == sysModules)=false:=by
 rcases d with ⟨kvs,e⟩ | ⟨kvs,e⟩
 .obtain⟨_,hd,vs,_,dd⟩:=mQ I.bD e;refine⟨dd.typeIs,λb q=>?_,hd⟩;cases q;obtain⟨ob,_,_,h1,h2,_⟩:=dd;exact⟨ob,h1,h2.2.1⟩
 obtain⟨_,hd,xs,_,dd⟩:=rf I.bD e;refine⟨dd.typeIs,λb q=>?_,hd⟩;cases q;obtain⟨ob,_,_,h1,h2,_⟩:=dd;exact⟨ob,h1,h2.2.1⟩
section
variable {X:Cx}{ai:List (Addr×Obj)}{σ:St}{H:Hp}{s:Shared}{a:Addr}{y d:V}{u r:Value}{o:Option V}{A:Around}{E:Value->Shared->Prop}
def Lo {Q:Value->Shared->Prop}(hu:A.units+1 < cLine)(I:Inv X ai σ H s)(g:cu H a y o)(ry:RelV y u)(rd:RelV d r)(h:∀w' s',Inv X ai σ H s'->RelV (o.getD d) w'->Q w' s') :
  wpAny (model X.prog X.w) A (call (.builtin "dict.get") [.ref a,u,r]) Q E s:=by
 rcases g with ⟨kvs,k,e,ey,l⟩ | ⟨kvs,k,b,e,ey,eb,l⟩
 .subst ey;obtain⟨z,hd,vs,rel,dd⟩:=mQ I.bD e;refine call_meetsIn PySem.F.slot_dict_get dd.typeIs PySem.F.entry_dict_get (PySem.F.args_dict_get_3 _ _ _) (meets_dict_get_default (aX X.prog X.w) a (kj ry) hd r) ⟨_,dd.mapOf,h _ _ (I.tok _) ?_⟩;rw [l];exact(rel.val k).getD rd
 subst ey;cases (show u=Value.ref b from ry);obtain⟨z,hd,xs,rel,dd⟩:=rf I.bD e;refine call_meetsIn PySem.F.slot_dict_get dd.typeIs PySem.F.entry_dict_get (PySem.F.args_dict_get_3 _ _ _) (meetsH_dict_get_default (tupleKind (aX X.prog X.w)) a b hd r) ⟨nI hu,k,xs,kX I.bD eb,dd,h _ _ (I.tok _) ?_⟩;rw [l];exact(rel.val k).getD rd
end
def Jq (td ty tx:TE):TE:=λσ H Q=>td σ H λx H1=>Qw x (QB H1) λa=>ty σ H1 λy H2=>tx σ H2 λz H3=>XE (cu H3 a y) λo=>Q (o.getD z) H3
section
variable {X:Cx}{o e f:Expr}{apos gu:Pos}{td ty tx:TE}
def DF (hu:X.A.units+1 < cLine)(ho:PE X o td)(he:PE X e ty)(hf:PE X f tx)(m:M2 X o "get" apos e f gu):PE X (.Call (.Attribute o "get" apos) [e,f] [] gu) (Jq td ty tx):=by
 intro ai s σ H Q I h;refine wpAny_Call_method m.base m.Qe m.line ya PySem.F.slot_dict_get PySem.F.type_dict_get (cx (ho ai s σ H _ I h) λu s1 aV=>?_);obtain⟨x,H1,I1,rx,a,ex,d,q1⟩:=aV;subst ex;obtain rfl:u=Value.ref a:=rx;obtain⟨t1,t2,_⟩:=zx I1 d;refine⟨t1,t2,?_⟩;rw [m.trees];refine ux rfl (uj (nH (cx (he ai s1 σ H1 _ I1 q1) λiv s2 ⟨y,H2,I2,ry,q2⟩ =>
  nH (cx (hf ai s2 σ H2 _ I2 q2) λfv s3 ⟨z,H3,I3,rz,ov,g,q3⟩=>Calls.spliced_nil ?_))))
 exact Lo hu I3 g ry rz λw' s4 I4 yO=>⟨_,H3,I4,yO,q3⟩
end
section
variable {X:Cx}{ai:List (Addr×Obj)}{σ:St}{H:Hp}{s:Shared}{a:Addr}{kvs:List (aN×V)}{A:Around}{E:Value->Shared->Prop}
end
section
variable {X:Cx}{ai:List (Addr×Obj)}{σ:St}{H:Hp}{s:Shared}{a:Addr}{y:V}{u:Value}{A:Around}{E:Value->Shared->Prop}
end
end L2
set_option maxHeartbeats 4000000
namespace L2
open PySem
def vm:typeLookup (.type "list") "keys"=pure none:=by rw [typeLookup_type,builtinLookup_eq_fast];kernel_rfl
def vo:typeLookup (.type "list") "__getattr__"=pure none:=by rw [typeLookup_type,builtinLookup_eq_fast];kernel_rfl
section
variable {prog:Program}{w:World}{A:Around}{E:Value->Shared->Prop}{h:Heap}{g:Array GenState}{d:Drawn}{t:Nat}{os:OsState}{a:Addr}{o:Obj}
def C5:isSubtype (.type "AttributeError") (.type "AttributeError")=pure true:=by rw [isSubtype_type];kernel_rfl
def JS {m:Str}{tk:Tok}:ownMembersOf (.type "AttributeError") [.str m tk]=#[unsetMember,unsetMember]:=by kernel_rfl
def EW {m:Str}{tk:Tok}:firstArgMember (.type "AttributeError") [.str m tk]=pure .none:=by kernel_rfl
def yQ {α:Type}{self:Value}{name msg:Str}{Q:α->Shared->Prop}(hm:msg.length<=sizeLine)(hh:A.handled=none)
  (hq:∀h' t' e oe,(∀b o,h.get? b=some o->h'.get? b=some o)->h'.get? e=some oe->oe.cls=.type "AttributeError" -> E (.ref e) ⟨h',g,d,t',os⟩) :
  wpAny (model prog w) A (raiseAttrError self name msg) Q E ⟨h,g,d,t,os⟩:=by
 have f1:=C5;unfold raiseAttrError newExc;refine aB (wpAny_mkStr ?_ hm);have fe:=EW (m:=msg) (tk:=t);rw [JS]
 repeat (any_goals (first | assumption | wp_step))
 unfold raiseNew;refine aB (wpAny_handled ?_);rw [hh];refine aB (aR ?_);refine wpAny_throw ?_;refine hq _ _ _ _ (λb o q=>?_) (pY _ (cI _ rfl) rfl) rfl;have lt:=aS q;rw [jl _ _ (by rw [i6];exact iF (uh lt))];exact bC _ (bC _ q)
def zt {tk:Tok}{aO:Array Value}{n:Nat}{Q:Fin->Shared->Prop}(hx:h.get? a=some { cls:=.type "list",data:=.seq aO n })(hh:A.handled=none)
  (hq:∀h' t' e oe,(∀b o,h.get? b=some o->h'.get? b=some o)->h'.get? e=some oe->oe.cls=.type "AttributeError" -> E (.ref e) ⟨h',g,d,t',os⟩) :
  wpAny (model prog w) A (Builtin.«object.__getattribute__» ⟨[.ref a,.str "keys" tk],[]⟩) Q E ⟨h,g,d,t,os⟩:=by
 have hT:(⟨h,g,d,t,os⟩:Shared).TypeIs (.ref a) "list" := ⟨_,hx,rfl⟩;have f4:=vm
 repeat (any_goals (first | assumption | wp_step))
 exact yQ nofun hh hq
def oj {aO:Array Value}{n:Nat}{Q:Option Value->Shared->Prop}(hx:h.get? a=some { cls:=.type "list",data:=.seq aO n })(hh:A.handled=none)
  (hq:∀h' t',(∀b o,h.get? b=some o->h'.get? b=some o)->Q none ⟨h',g,d,t',os⟩):wpAny (model prog w) A (getAttr? (.ref a) "keys") Q E ⟨h,g,d,t,os⟩:=by
 have hT:∀t',(⟨h,g,d,t',os⟩:Shared).TypeIs (.ref a) "list" := λt'=>⟨_,hx,rfl⟩;have f1:=C5;have f2:=uz.lookup;have f3:=uz.bind (.ref a);have f4:=vo;unfold getAttr? getAttrBy? getAttrBy;refine aB (wpAny_mkText (aB (ng (gR (aB (ky (hT _) ?_))))));rw [f2];refine aB (aR ?_);show wpAny _ _ (getAttrByItsOwn _ _ _ _ _ _) _ _ _;unfold getAttrByItsOwn;refine aB (aR (a:=none) (aB (ng (gR ?_))));show wpAny _ _ (boundAndCalled _ _ _) _ _ _;unfold boundAndCalled;rw [f3];refine aB (aR (hZ (oM uz.plain F.entry_list_ga (uz.check _ _ _ _ _ _ _ _ (hT _) (F.args_list_getattribute_2 _ _) (zt hx hh λh' t' e oe k ee ec=>?_)))));have te:(⟨h',g,d,t',os⟩:Shared).TypeIs (.ref e) "AttributeError" := ⟨oe,ee,ec⟩;show wpAny _ _ (getattributeRaised _ _ _ _ _ _ _) _ _ _;unfold getattributeRaised;refine aB (wpAny_isInstance te f1 ?_);rw [ay rfl];show wpAny _ _ (typeLookup _ _ >>= _) _ _ _;rw [f4];refine aB (aR ?_);show wpAny _ _ (throw _) _ _ _;refine wpAny_throw ?_;refine aB (wpAny_isInstance te f1 ?_);rw [ay rfl];exact aR (hq h' t' k)
end
def d_:plainId "dict.update.loop"=true:=by decide +kernel
def jY:entryFor table "dict.update.loop"=some Builtin.«dict.update.loop»:=entryFor_of_tree (nofun)
section
variable {prog:Program}{w:World}{K:Type} [DecidableEq K] {knd:KeyKind prog w K}{A:Around}{E:Value->Shared->Prop}
def lh (knd:KeyKind prog w K)(h:Heap)(u:Value)(kv:K×Value):Prop :=
 ∃t key n o,u=.ref t/\knd.is kv.1 key=true/\h.get? t=some o/\o.cls=.type "tuple" /\ o.data=.seq #[key,kv.2] n
def lh.keep {h h':Heap}{u:Value}{kv:K×Value}(p:lh knd h u kv)(k:∀b o,o.cls=.type "tuple" -> h.get? b=some o->h'.get? b=some o):lh knd h' u kv :=
 let ⟨t,key,n,o,a,b,c,d,e⟩:=p;⟨t,key,n,o,a,b,k t o d c,d,e⟩
def E5 {R:Result->Shared->Prop}{d it l:Addr}{items:Array Value}(hh:A.handled=none):∀(more:List (K×Value)) (i:Nat)(s:Shared)(kvs:List (K×Value)) (j:Int)(tk:Tok),items.size=i+more.length ->
  s.heap.DictOf knd d kvs->s.heap.IsListIter it l i->s.heap.IsList l items->(∀m kv,more[m]?=some kv->∃u,items[i+m]?=some u/\lh knd s.heap u kv)->kvs.length+more.length<=sizeLine ->
  (∀h' t',h'.DictOf knd d (more.foldl (λa p=>stored a p.1 p.2) kvs)->(∀b o,b≠d->b≠it->s.heap.get? b=some o->h'.get? b=some o)->R (.ok (.ret .none)) { s with heap:=h',toks:=t' }) ->
  codeAny (model prog w) A (.builtin "dict.update.loop" ⟨[.ref d,.ref it,.int j tk,.none],[]⟩) R s:=by
 intro more
 induction more with
 | nil =>
  intro i s kvs j tk hi hd hit hl hp hz hR;refine nq jY ?_;rw [qh d_ _];unfold Builtin.«dict.update.loop»;have hs:items[i]?=none:=Array.getElem?_eq_none (by rw [hi];exact aK _);refine aB (uw hh hit hl hs λh1 eb=>?_);have nd:d≠it:=λz=>by
   obtain⟨o,_,_,q,_,c,_⟩:=hd;obtain⟨o',q',_,c'⟩:=hit;rw [z,q'] at q;cases q;rw [c'] at c;cases c
  show wpAny _ _ (Builtin.Dict.addKeywords d [] >>= _) _ _ _;exact aB (aR (aR (hR h1 s.toks (hd.extBut eb nd) λb o n1 n2 q=>eb b o n2 q)))
 | cons kv more ih =>
  intro i s kvs j tk hi hd hit hl hp hz hR;refine nq jY ?_;rw [qh d_ _];unfold Builtin.«dict.update.loop»;obtain⟨u,hu,t,key,n,o,rfl,hk,ho,hc,vB⟩:=hp 0 kv rfl;refine aB (wpAny_pyNext_list_item hit hl hu λh1 Sm sb=>?_);have nd:d≠it:=λz=>by
   obtain⟨o,_,_,q,_,c,_⟩:=hd;obtain⟨o',q',_,c'⟩:=hit;rw [z,q'] at q;cases q;rw [c'] at c;cases c
  have n2:∀b o,(o.cls=.type "tuple" \/ o.cls=.type "list")->s.heap.get? b=some o->b≠d/\b≠it:=by
   intro b o c q;constructor
   .intro z;obtain⟨o',q',c'⟩:=hd.typeIs;rw [z,q'] at q;cases q;rw [c'] at c;rcases c with c | c <;> exact absurd c nofun
   intro z;obtain⟨o',q',c',_⟩:=hit;rw [z,q'] at q;cases q;rw [c'] at c;rcases c with c | c <;> exact absurd c nofun
  have nt:∀b o,o.cls=.type "tuple" -> s.heap.get? b=some o->b≠d/\b≠it:=λb o c q=>n2 b o (.inl c) q;have nl:l≠d/\l≠it:=by
   obtain⟨o,q,c,_⟩:=hl;exact n2 l o (.inr c) q
  have N9:h1.get? t=some o:=(sb.2 t (nt t o hc ho).2).trans ho;have Tr:h1.DictOf knd d kvs:=hd.sameBut sb nd;refine aB (gR (aB (wpAny_tryCatch ?_)));unfold Builtin.Dict.pairItems;refine aB (ky (T := "tuple") ⟨o,N9,hc⟩ ?_);rw [ay nofun];refine aB (p6 N9 vB (aR ?_));show wpAny _ _ (holding [key,kv.2] (dictSet d key kv.2)) _ _ _;rw [cH] at hz hi;refine gR (wpAny_dictSet_pairs (s:={ s with heap:=h1 }) hk Tr (λh2 hd2 M6=>?_) ∅);have kk:∀b o,b≠d->b≠it->s.heap.get? b=some o->h2.get? b=some o:=λb o n1 n2 q=>(M6.2 b n1).trans ((sb.2 b n2).trans q);have ln:(stored kvs kv.1 kv.2).length<=kvs.length+1:=by
   unfold stored
   split
   .simp
   simp
  refine aR ⟨m_ d_ _,ih (i+1) _ _ _ _ ∅ hd2 (Sm.at λo q=>(M6.2 it (cZ nd)).trans q) (hl.at λo q=>kk l o nl.1 nl.2 q) (λm Sh e=>?_) ∅ λh3 t3 iD k3=>?_⟩
  .obtain⟨u',e1,e2⟩:=hp (m+1) Sh e;exact⟨u',by rw [<-e1];congr 1;omega,e2.keep λb o c q=>kk b o (nt b o c q).1 (nt b o c q).2 q⟩
  exact hR h3 t3 iD λb o n1 n2 q=>k3 b o n1 n2 (kk b o n1 n2 q)
def yr:(Value.type "list" != Value.type "dict")=true:=by decide
def rD {s:Shared}{l:Addr}{items:Array Value}{n:Nat}{more:List (K×Value)}{Q:Value->Shared->Prop}(knd:KeyKind prog w K)(hh:A.handled=none)(hx:s.heap.get? l=some { cls:=.type "list",data:=.seq items n })
  (hi:items.size=more.length)(hp:∀(m:Nat) kv,more[m]?=some kv->∃u,items[m]?=some u/\lh knd s.heap u kv)(hz:more.length<=sizeLine)
  (h:∀h' t',h'.DictOf knd s.heap.objs.size (more.foldl (λa p=>stored a p.1 p.2) [])->(∀b o,s.heap.get? b=some o->h'.get? b=some o)->Q (.ref s.heap.objs.size) { s with heap:=h',toks:=t' }) :
  wpAny (model prog w) A (call (.type "dict") [.ref l]) Q E s:=by
 refine callType_codes (Q₁:=λobj s₁=>obj=.ref s.heap.objs.size/\s₁={ s with heap:=s.heap.push { cls:=.type "dict",data:=.dict #[] } }) F.kt_called_dict (F.kt_typeCall_dict_1 _) F.entry_dict_init (kt_code_dict_new _ ⟨rfl,rfl⟩) ?_;rintro obj s₁ ⟨rfl,rfl⟩;have zg:(s.heap.push { cls:=.type "dict",data:=.dict #[] }).DictOf knd s.heap.objs.size []:=Heap.DictOf.new s.heap;have l0:=bC { cls:=.type "dict",data:=.dict #[] } hx;refine⟨zg.typeIs,F.args_dict_init_2 _ _,?_⟩;unfold Builtin.«dict.__init__» Builtin.Dict.selfAndRest;refine aB (aB (wpAny_notOrdered_dict zg.typeIs (aR ?_)));show wpAny _ _ (Builtin.Dict.updateFrom "dict.__init__" s.heap.objs.size (.ref l) [] .none) _ _ _;unfold Builtin.Dict.updateFrom;refine aB (ky (T := "list") ⟨_,l0,rfl⟩ ?_);rw [ay yr];refine aB (oj l0 hh λh1 t1 k1=>?_);refine aB (wpAny_rule ?_);have l1:=k1 _ _ l0;refine aB (j_ ⟨_,l1,rfl,_,rfl⟩ ?_);have k2:∀b o,s.heap.get? b=some o->(h1.push { cls:=.type "list_iterator",data:=.fields #[.ref l,.int 0 0] }).get? b=some o:=λb o q=>bC _ (k1 _ _ (bC _ q));refine aR ⟨m_ d_ _,E5 (knd:=knd) (A:=A.in1) (l:=l) (items:=items) (show A.in1.handled=none from hh) more 0 _ [] _ _ (by rw [hi,kC]) ?_ ⟨_,cI _ rfl,rfl,rfl⟩ ⟨_,k2 _ _ hx,rfl,n,rfl⟩ (λm kv e=>?_) (by simpa using hz) λh' t' hd k3=>?_⟩
 .obtain⟨o,es,ep,q,r⟩:=zg;exact⟨o,es,ep,bC _ (k1 _ _ q),r⟩
 .obtain⟨u,e1,e2⟩:=hp m kv e;exact⟨u,by rw [kC];exact e1,e2.keep λb o _ q=>k2 b o q⟩
 refine⟨rfl,h h' t' hd λb o q=>k3 b o (bx (aS q)) ?_ (k2 b o q)⟩;have:=aS (k1 _ _ (bC { cls:=.type "dict",data:=.dict #[] } q));exact bx this
end
open PySem PySem.Spec PyProof.Rows
def Ct (X:Cx)(ifs:List Expr)(t:TT):Prop :=
 ∀(ai:List (Addr×Obj))(s:Shared)(σ:St)(H:Hp)(Q:Bool->Hp->Prop),Inv X ai σ H s->t σ H Q ->
  wpAny (model X.prog X.w) X.A (forIn ifs true λc r=>if r=true then do let ok <-isTrue c X.env (eval c X.env);pure (ForInStep.yield ok) else pure (ForInStep.yield r)) (TP X ai σ Q) X.xe s
def iO:TT:=λ_ H Q=>Q true H
def cP {X:Cx}:Ct X [] iO:=λ_ _ _ H _ I h=>wpAny_tests_nil ⟨H,I,h⟩
def gI {X:Cx}{c:Expr}{t:TT}(h:PT X c t):Ct X [c] t:=λai s σ H Q I hw=>wpAny_tests_one (h ai s σ H Q I hw)
def oY {prog:Program}{w:World}{A:Around}{R:Result->Shared->Prop}{s:Shared}{elt target iter:Expr}{ifs:List Expr}{scope:Scope}{pos:Pos}{it bB:Value}{env:Env}(I:Nat->Shared->Prop)
  (turn:∀n s,I n s->wpAny (model prog w) A (pyNext it) (λr s₁=>match r with
   | none=>R (.ok .next) s₁
   | some v=>wpAny (model prog w) A (letOwnedTupleGo target it v) (λ_ s₁=>wpAny (model prog w) A (assign target env v) (λ_ s₂ =>
     wpAny (model prog w) A (forIn ifs true λc r=>if r=true then do let ok <-isTrue c env (eval c env);pure (ForInStep.yield ok) else pure (ForInStep.yield r)) (λok s₃ =>
      if ok=true then wpAny (model prog w) A (eval elt env) (λx s₄ =>
       wpAny (model prog w) A (call (.builtin "list.append") [bB,x]) (λ_ s₅=>∃m,m < n/\I m s₅) (λ_ _=>False) s₄) (λ_ _=>False) s₃
      else ∃m,m < n/\I m s₃) (λ_ _=>False) s₂) (λ_ _=>False) s₁) (λ_ _=>False) s₁) (λ_ _=>False) s)
  (n:Nat)(h:I n s) :
  codeAny (model prog w) A (.compLoop (.ListComp elt [⟨target,iter,ifs,0⟩] scope pos) 0 it bB env) R s:=by
 refine codeAny_loop rfl I (λn s hI=>?_) n h;show wpAny _ A ((compTurn (.ListComp elt [⟨target,iter,ifs,0⟩] scope pos) 0 it bB env).onRaise (λx=>do noteFrame x env;theTreesLotGoes x)) _ _ s;refine wpAny_noted ?_;rw [compTurn_list];refine aB (ni (aB (cw (turn n s hI) (λr s₁ h₁=>?_) λ_ _ h'=>h'.elim)));cases r with
 | none=>exact aR h₁
 | some v =>
  refine aB (cw h₁ (λ_ s₂ h₂=>?_) λ_ _ h'=>h'.elim);refine aB (cw h₂ (λ_ s₂ h₂=>aB (cw h₂ (λok s₃ h₃=>?_) λ_ _ h'=>h'.elim)) λ_ _ h'=>h'.elim);cases ok with
  | false=>exact aR ⟨rfl,h₃⟩
  | true =>
   exact aB (aB (cw h₃ (λx s₄ h₄=>aB (cw h₄ (λ_ s₅ h₅=>aR (aR ⟨rfl,h₅⟩)) λ_ _ h'=>h'.elim)) λ_ _ h'=>h'.elim))
inductive xS (K:aY)(H:Hp):V->String->Prop where
 | bl (x:Bool):xS K H (.bl x) "bool"
 | int (i:Int):xS K H (.int i) "int"
 | str (x:Str):xS K H (.str x) "str"
 | tup {a:Addr}{xs:List V}(e:bj K H a xs):xS K H (.ref a) "tuple"
inductive Xx (K:aY)(H:Hp)(xs:List V)(R:Bool->Prop):Prop
|mk(x:V)(T n:String)(b:Bool)(e:xs=[x,.ty n])(c:xS K H x T)(k:PySem.W.kitOne K (.type T) (.type n)=some b)(q:R b)
def oZ {X:Cx}:dZ X (.builtin "isinstance") (λxs H Q=>Xx X.K H xs λb=>Q (.bl b) H):=by
 intro ai s σ H xs us Q I r h;obtain⟨x,T,n,b,rfl,ty,e,q⟩:=h;obtain⟨u,w',rfl,rx,rn⟩:=vals2 r;cases (show w'=Value.type n from rn);have fin:∀tk,EP X ai σ Q (.bool b) { s with toks:=tk }:=λtk=>⟨.bl b,H,I.tok _,rfl,q⟩;cases ty with
 | bl y=>cases (show u=Value.bool y from rx);exact PySem.W.kia_one PySem.W.kitx_bool I.jX True.intro e (λz=>nomatch z) fin
 | int i=>obtain⟨t,z⟩:=(show ∃t,u=Value.int i t from rx);cases z;exact PySem.W.kia_one PySem.W.kitx_int I.jX True.intro e (λz=>nomatch z) fin
 | str y=>obtain⟨t,z⟩:=(show ∃t,u=Value.str y t from rx);cases z;exact PySem.W.kia_one PySem.W.kitx_str I.jX True.intro e (λz=>nomatch z) fin
 | @tup a ys hq =>
  cases (show u=Value.ref a from rx);obtain⟨aO,_,⟨o,h1,h2,_⟩,_⟩:=I.tuple hq;exact PySem.W.kia_one PySem.W.kitx_tuple I.jX ⟨o,h1,h2⟩ e (λz=>nomatch z) fin
def n5 {X:Cx}{a:Expr}{ta:TE}(K:aY)(ha:PE X a ta)(he:∀whole,isTrue a X.env whole=(do let v <-whole;standAt a.pos;holding [v] (truthy v)))(hK:X.K=K:=by rfl) :
  PT X a (λσ H Q=>ta σ H λx H'=>∃k,zS K x H' k/\Q k H'):=by
 subst hK;exact gp ha he
structure HI (env:Env)(scope:Scope)(cl:List (Str×Addr)):Prop where
 eq:closureFor scope env=pure cl
 sub:∀y c,cl.lookup y=some c->env.cells.lookup y=some c
 all:∀y,(y,NameKind.free)∈scope.names->∃c,cl.lookup y=some c
def ja {y n:Str}{c:Addr}{l:List (Str×Addr)}:((n,c)::l).lookup y=if y=n then some c else l.lookup y:=by
 by_cases h:y=n
 .rw [ay h];simp [List.lookup,h]
 rw [av h];simp [List.lookup,iJ.mpr h]
def vH {env:Env}{scope:Scope}(h:∀y,(y,NameKind.free)∈scope.names->∃c,env.cells.lookup y=some c):∃cl,HI env scope cl:=by
 have go:∀(names:List (Str×NameKind))(bB:List (Str×Addr)),(∀y,(y,NameKind.free)∈names->∃c,env.cells.lookup y=some c)->(∀y c,bB.lookup y=some c->env.cells.lookup y=some c) ->
   ∃cl,(forIn names bB λ(x:Str×NameKind)(cs:List (Str×Addr))=>(if x.2 == .free then do let c <-cellOf env x.1;pure (ForInStep.yield ((x.1,c)::cs)) else pure (ForInStep.yield cs):Sem (ForInStep (List (Str×Addr)))))=pure cl /\
    (∀y c,cl.lookup y=some c->env.cells.lookup y=some c)/\(∀y,(y,NameKind.free)∈names->∃c,cl.lookup y=some c)/\∀y c,bB.lookup y=some c->∃c',cl.lookup y=some c':=by
  intro names
  induction names with
  | nil=>intro bB _ hs;exact⟨bB,rfl,hs,λy hy=>absurd hy (by simp),λy c e=>⟨c,e⟩⟩
  | cons x r ih =>
   intro bB hf hs;obtain⟨n,k⟩:=x;rw [List.forIn_cons];by_cases hk:k=.free
   .subst hk;obtain⟨c0,e0⟩:=hf n bT;obtain⟨cl,e1,e2,e3,e4⟩:=ih ((n,c0)::bB) (λy hy=>hf y (cM _ hy)) (λy c e=>by
     rw [ja] at e;by_cases z:y=n
     .rw [ay z] at e;cases e;rw [z];exact e0
     rw [av z] at e;exact hs y c e)
    refine⟨cl,?_,e2,λy hy=>?_,λy c e=>?_⟩
    .rw [<-e1];have:cellOf env n=pure c0:=by unfold cellOf;rw [e0]
     simp only [this];rfl
    .rcases aT.mp hy with z | z
     .cases z;exact e4 n c0 (by rw [ja,ay rfl])
     exact e3 y z
    by_cases z:y=n
    .exact e4 y c0 (by rw [ja,ay z])
    exact e4 y c (by rw [ja,av z];exact e)
   obtain⟨cl,e1,e2,e3,e4⟩:=ih bB (λy hy=>hf y (cM _ hy)) hs;refine⟨cl,?_,e2,λy hy=>?_,e4⟩
   .rw [<-e1];have:(k == NameKind.free)=false:=by simpa using hk
    simp only [this];rfl
   rcases aT.mp hy with z | z
   .cases z;exact absurd rfl hk
   exact e3 y z
 obtain⟨cl,e1,e2,e3,_⟩:=go scope.names [] h (λy c e=>by simp at e);refine⟨cl,?_,e2,e3⟩;unfold closureFor;exact Eq.trans (congrArg (λt:Sem (List (Str×Addr))=>t >>= λcs=>pure cs) e1) rfl
def u7 {scope:Scope}{env:Env}{y:Str}(hk:env.scope.kind=.function)(hy:scope.names.lookup y=some .free)(he:env.kindOf y=some .cell):(relabel scope env).names.lookup y=some .cell:=by
 have go:∀l:List (Str×NameKind),l.lookup y=some .free->(l.map λ(x:Str×NameKind)=>if (x.2 == NameKind.free && env.scope.kind == .function && env.kindOf x.1 == some .cell) then (x.1,NameKind.cell) else (x.1,x.2)).lookup y=some .cell:=by
  intro l
  induction l with
  | nil=>intro z;cases z
  | cons x r ih =>
   obtain⟨n,k⟩:=x;intro hy;rw [bz];by_cases z:y=n
   .subst z;simp [List.lookup] at hy;subst hy;simp [List.lookup,hk,he]
   have zb:(y == n)=false:=iJ.mpr z;simp only [List.lookup,zb] at hy;have:=ih hy;dsimp only
   split <;> simp only [List.lookup,zb] <;> exact this
 exact go _ hy
theorem vk {α:Type}{y:Str}{v:α}:∀{l:List (Str×α)},l.lookup y=some v->(y,v)∈l
 | [],h=>by cases h
 | (n,u)::r,h=>by
  by_cases z:y=n
  .subst z;simp [List.lookup] at h;subst h;exact bT
  have zb:(y == n)=false:=iJ.mpr z;simp only [List.lookup,zb] at h;exact cM _ (vk h)
def mh {scope:Scope}{env:Env}{y:Str}{k:NameKind}(h:(relabel scope env).names.lookup y=some k)(hk:k=.cell\/k=.free)(hc:∀z∈scope.names,z.2≠.cell):(y,NameKind.free)∈scope.names:=by
 have m:=vk h;unfold relabel at m;obtain⟨⟨n,k'⟩,m1,m2⟩:=cT.mp m;dsimp only at m2
 split at m2
 .rename_i q
  cases m2;simp at q;obtain⟨⟨q,_⟩,_⟩:=q;subst q;exact m1
 cases m2;rcases hk with hk | hk
 .exact absurd hk (hc _ m1)
 rw [<-hk];exact m1
def rh (X:Cx)(scope:Scope)(cl:List (Str×Addr))(C:Addr)(s1:Shared)(H1:Hp) (N:List Str)(fp:List Addr):Cx :=
 { X with N:=N,s₀:=s1,H₀:=H1,env:=compEnvC scope cl C X.env,outer:=X.stack,stack:=X.stack,ex:=fp,fn:=λ_=>false,pn:=[],xe:=λ_ _=>False }
structure HJ (X:Cx)(scope:Scope)(js:List (Nat×Str)):Prop where
 at_:∀p∈js,X.N[p.1]?=some p.2/\X.env.scope.names.lookup p.2=some .cell/\scope.names.lookup p.2=some .free
 all:∀y,(y,NameKind.free)∈scope.names->X.env.scope.names.lookup y=some .cell
def eE (ts:List Str)(js:List (Nat×Str))(σ:St):St:=ts.map (λ_=>none)++js.map λp=>(σ[p.1]?).join
def tG {X:Cx}{ai:List (Addr×Obj)}{σ:St}{H:Hp}{s1 s4:Shared}{scope:Scope}{ts:List Str}{js:List (Nat×Str)}{cl:List (Str×Addr)}{fp:List Addr}{C:Addr}{m:Str->Option Value}
  (I:Inv X ai σ H s1)(hf:∀b∈fp,vO X ai H b)(EH:∀b∈fp,b < s1.heap.objs.size)(iU:scope.kind=.function)(iV:∀y∈scope.names,y.2≠.cell)(cp:HJ X scope js)(oq:HI X.env scope cl)
  (hC:s1.heap.objs.size < C)(ho:s4.os=s1.os)(hg:s4.gens=s1.gens)(old:∀b o,s1.heap.get? b=some o->s4.heap.get? b=some o)(hn:s4.heap.Ns C m)
  (hD:s4.heap.get? s1.heap.objs.size=some { cls:=.type "list",data:=.seq ([]:List Value).toArray 0 }) :
  Inv (rh X scope cl C s1 H (ts++js.map (·.2)) fp) [] (eE ts js σ) (upd H s1.heap.objs.size (.lst [])) s4:=by
 have xk:X.env.scope.kind=.function:=I.ok.kind;have has:∀y,((relabel scope X.env).names.lookup y=some .cell\/(relabel scope X.env).names.lookup y=some .free)->∃c,cl.lookup y=some c:=λy hy=>oq.all y (by
  rcases hy with hy | hy
  .exact mh hy (.inl rfl) iV
  exact mh hy (.inr rfl) iV)
 have lt:∀y c,cl.lookup y=some c->c < s1.heap.objs.size:=λy c e=>by
  obtain⟨v,o,ho,_⟩:=I.cell y c (oq.sub y c e);exact aS ho
 refine⟨⟨I.ok.mod,iU,I.ok.glob,I.ok.blt,jy hC,λy z c h1 h2=>I.ok.inj y z c (oq.sub _ _ h1) (oq.sub _ _ h2),has,λy c h _=>absurd (show false=true from h) dS,I.ok.hd,I.ok.frames,.inl rfl,
   λb hb=>⟨bx (kA (EH b hb) hC),λy c h=>(hf b hb).2.2.2.2.1 y c (oq.sub _ _ h)⟩,I.bs,df I.ok.E_ I.sz,λb o e hb=>?_,λb hb=>?_,I.stack,I.pK⟩,
  ho,?_,Un.laid old (aK _) I.fresh,⟨m,hn,λi y v e1 e2 _=>?_⟩,λy c h=>?_,?_,λy c h=>?_,λp hp=>absurd (show p∈([]:List (Addr×Obj)) from hp) (by simp),I.bD.laid old (aK _) ?_,?_⟩
 .obtain⟨_,_,_,h4,_⟩:=hf b hb;rcases h4 with h4 | h4
  .exact I.ok.By b o e h4
  exact absurd (dJ (aS (I.ok.bs b o e).1) h4) (jv _)
 .intro rY;obtain⟨_,h2,h3,_⟩:=hf b hb;rcases aT.mp (I.uM b rY) with z | z
  .exact h2 z
  exact h3 z
 .rw [hg];exact I.bare
 .have Hr:(ts++js.map (·.2))[i]?=some y:=e1;have B6:(ts.map (λ_=>(none:Option V))++js.map λp=>(σ[p.1]?).join)[i]?=some (some v):=e2;by_cases hi:i < ts.length
  .rw [sC (by simpa using hi)] at B6;simp [hi] at B6
  rw [p5 ∅] at Hr;rw [p5 (by simpa using Nat.le_of_not_lt hi)] at B6;rw [aC] at B6;rw [bH] at Hr B6;cases hj:js[i - ts.length]? with
  | none=>rw [hj] at Hr;cases Hr
  | some p =>
   rw [hj] at Hr B6;simp only [qb,Option.some.injEq] at Hr B6;obtain⟨a1,a2,a3⟩:=cp.at_ p (bQ hj);subst Hr;have es:σ[p.1]?=some (some v):=by
    cases q:σ[p.1]? with
    | none=>rw [q] at B6;cases B6
    | some z=>rw [q] at B6;exact congrArg some B6
   obtain⟨m0,SW,lk⟩:=I.loc;obtain⟨u,ru,l⟩:=lk p.1 p.2 v a1 es (.inr (.inl a2));rcases l with l | ⟨_,c,ec,o,hc,hd⟩
   .have l1:X.env.scope.names.lookup p.2=some .local:=l.1;rw [a2] at l1;cases l1
   obtain⟨c',Xc⟩:=oq.all p.2 (vk a3);have e3:=oq.sub _ _ Xc;rw [ec] at e3;cases e3;exact⟨u,ru,.inr ⟨.inl (u7 xk a3 a2),c,Xc,o,old _ _ hc,hd⟩⟩
 .obtain⟨v,o,h1,h2⟩:=I.cell y c (oq.sub y c h);exact⟨v,o,old _ _ h1,h2⟩
 .show upd H s1.heap.objs.size (.lst []) C=none;rw [aj (iF hC)];exact I.bD.fresh (jy hC)
 .show upd H s1.heap.objs.size (.lst []) c=none;rw [aj (bx (lt y c h))];exact I.iW y c (oq.sub y c h)
 .exact⟨by show 0<=sizeLine;decide,[],0,.nil,hD⟩
 show (eE ts js σ).length=(ts++js.map (·.2)).length;simp [eE]
def C1 (wi:TI) (ts:List Str)(js:List (Nat×Str))(g:TG)(tif:TT)(te:TE):TE:=λσ H Q=>wi σ H λJ H1=>∀D,H1 D=none->∃W:Nat->Nat->List V->St->Hp->Prop,(∃m,W 0 m [] (eE ts js σ) (upd H1 D (.lst []))) /\
 ∀i m ys σ' H,W i m ys σ' H->(J.stop i H/\Q (.ref D) H)\/(J.go i H/\∃m',m' < m/\∀x H',J.nO i H x H'->g x σ' H' λσ2 H2=>tif σ2 H2 λb H3 =>
  if b=true then te σ2 H3 λy H4=>H4 D=some (.lst ys)/\ys.length < sizeLine/\W (i+1) m' (ys++[y]) σ2 (upd H4 D (.lst (ys++[y]))) else W (i+1) m' ys σ2 H3)
def bY {X:Cx}{elt iter tg:Expr}{ifs:List Expr}{scope:Scope}{pos:Pos}{wi:TI}{g:TG}{tif:TT}{te:TE}(ts:List Str)(js:List (Nat×Str))(hc:X.calm=true)(hi:PI X tg iter wi)
  (cp:HJ X scope js)(iV:∀y∈scope.names,y.2≠.cell)(iU:scope.kind=.function)
  (zA:∀y∈scope.names,y.2=.local->scope.names.lookup y.1=some .local)
  (hg:∀cl C s1 H1 fp,PG (rh X scope cl C s1 H1 (ts++js.map (·.2)) fp) tg g)
  (Tc:∀cl C s1 H1 fp,Ct (rh X scope cl C s1 H1 (ts++js.map (·.2)) fp) ifs tif)(he:∀cl C s1 H1 fp,PE (rh X scope cl C s1 H1 (ts++js.map (·.2)) fp) elt te)
  (hs:∀x,foldedSetIterable iter X.env x=pure x:=by intro _;rfl) :
  PE X (.ListComp elt [⟨tg,iter,ifs,0⟩] scope pos) (C1 wi ts js g tif te):=by
 intro ai s σ H Q I h;rw [eval_ListComp];obtain⟨cl,oq⟩:=vH (env:=X.env) (scope:=scope) λy hy=>I.ok.has y (.inl (cp.all y hy));refine wpAny_comprehension_free (use:=none) rfl hs oq.eq iU zA (cx (hi ai s σ H _ I h) λv s1 h1=>cx h1 λPY s2 h2=>?_);obtain⟨it,fp,tn,J,H2,e,I2,T,FC,f2,h2⟩:=h2;subst e;obtain⟨W,⟨m0,w0⟩,turn⟩:=h2 s2.heap.objs.size I2.fresh;have EH:∀b∈fp,b < s2.heap.objs.size:=λb hb=>by obtain⟨o,e,_⟩:=T.obj _ _ FC b hb;exact aS e
 refine nv (wpAny_newFunctionEnv iV (by intro y hy;simp at hy) (λh₁ zz vx=>?_) iU);dsimp only at zz vx ⊢;generalize K0:s2.heap.push { cls:=.type "list",dict:=none,data:=.seq ([]:List Value).toArray }=G2 at zz vx ⊢;have Hl:G2.objs.size=s2.heap.objs.size+1:=by rw [<-K0,i6]
 have TN:s2.heap.objs.size≠G2.objs.size:=by rw [Hl];exact bx (lI _)
 have old:∀b o,s2.heap.get? b=some o->h₁.get? b=some o:=λb o e =>
  vx.extBut b o (by rw [Hl];exact bx (uh (aS e))) (bC _ (K0 ▸ bC _ e))
 have BZ:h₁.get? s2.heap.objs.size=some { cls:=.type "list",data:=.seq ([]:List Value).toArray 0 }:=vx.extBut _ _ TN (bC _ (K0 ▸ cI _ rfl));generalize mI:rh X scope cl G2.objs.size s2 H2 (ts++js.map (·.2)) fp=X2;have I4:Inv X2 [] (eE ts js σ) (upd H2 s2.heap.objs.size (.lst [])) { s2 with heap:=h₁,toks:=s2.toks+([]:List (Str×Value)).length }:=by
  rw [<-mI];exact tG I2 f2 EH iU iV cp oq (by rw [Hl];exact lI _) rfl rfl old zz BZ
 have x1:X2.prog=X.prog:=by rw [<-mI];rfl
 have x2:X2.w=X.w:=by rw [<-mI];rfl
 have x3:X2.K=X.K:=by rw [<-mI];rfl
 have x4:X2.calm=true:=by rw [<-mI];exact hc
 have x5:X2.A=X.A:=by rw [<-mI];rfl
 have x6:X2.env=compEnvC scope cl G2.objs.size X.env:=by rw [<-mI];rfl
 have x7:X2.xe=λ_ _=>False:=by rw [<-mI];rfl
 have Te:PG X2 tg g:=by rw [<-mI];exact hg _ _ _ _ _
 have KN:Ct X2 ifs tif:=by rw [<-mI];exact Tc _ _ _ _ _
 have Hi:PE X2 elt te:=by rw [<-mI];exact he _ _ _ _ _
 have MZ:tn 0 h₁:=T.keep _ _ _ FC λb _ o e=>old b o e;have qw:∀{H':Hp}{jo:List (Addr×Obj)},(∀b∈fp,H' b=none)->(∀p∈jo,p.1∉fp)->∀b∈fp,vO X2 jo H' b:=λ{H' jo} hn hp b hb=>by
  have o4:=I4.ok;subst mI;exact⟨hn b hb,(o4.La b hb).1,o4.zJ b hb,.inl hb,(o4.La b hb).2,λp lC=>by
   have je:p∈([]:List (Addr×Obj))++jo:=lC;rw [lG] at je;intro z;exact hp p je (by rw [z];exact hb)⟩
 have fin:∀{s':Shared}{σ':St}{H':Hp},Inv X2 [] σ' H' s'->Q (.ref s2.heap.objs.size) H' ->
   compPost (model X.prog X.w) X.A X.xe none (EP X ai σ Q) (.ref s2.heap.objs.size) G2.objs.size (.ok .next) s':=λ{s' σ' H'} J' q=>by
  subst mI;obtain⟨m',KH,_⟩:=J'.loc;refine⟨m',KH,λh' LY=>?_⟩;have u:Un (pC X.stack) fp H2 H' s2.heap s'.heap:=J'.base;have nC:∀b o,s2.heap.get? b=some o->b≠G2.objs.size:=λb o e=>by rw [Hl];exact bx (uh (aS e))
  have u':Un (pC X.stack) fp H2 H' s2.heap h':=⟨λb o e n hb hx=>(LY.2 b (nC b o e)).trans (u.keep b o e n hb hx),λb o e n hb hx=>by
    obtain⟨sl,z⟩:=u.slot b o e n hb hx;exact⟨sl,(LY.2 b (nC b o e)).trans z⟩,u.free,λb o e hx=>by
    obtain⟨o',z⟩:=u.there b o e hx;exact⟨o',(LY.2 b (nC b o e)).trans z⟩,u.kK,u.jO,u.j5⟩
  have bD:j8 X.prog X.w H' h':=λb ob e=>by
   refine(J'.bD b ob e).hV (λc w' jq q'=>(LY.2 c ?_).trans q') (λ_ q=>q) λ_ _ q=>q;intro z;have fr:H' G2.objs.size=none:=J'.free;rcases jq with z' | z'
   .rw [<-z'] at e;rw [z,fr] at e;cases e
   rw [z,fr] at z';cases z'
  have I5:Inv X ai σ H' { s' with heap:=h' }:=I2.E8 (s':={ s' with heap:=h' }) J'.os u' bD J'.bare λb hb=>by
   obtain⟨_,f1,_,f3,f4,f5⟩:=f2 b hb;exact⟨f3,f1,f4,f5⟩
  exact⟨.ref s2.heap.objs.size,H',I5,rfl,q⟩
 have loop:∀s₃:Shared,s₃={ s2 with heap:=h₁,toks:=s2.toks+([]:List (Str×Value)).length } ->
   codeAny (model X.prog X.w) X.A (.compLoop (.ListComp elt [⟨tg,iter,ifs,0⟩] scope pos) 0 (.ref it) (.ref s2.heap.objs.size) (compEnvC scope cl G2.objs.size X.env))
    (compPost (model X.prog X.w) X.A X.xe none (EP X ai σ Q) (.ref s2.heap.objs.size) G2.objs.size) s₃:=by
  rintro s₃ rfl;subst mI;refine oY (λn s'=>∃i ys σ' H',Inv (rh X scope cl G2.objs.size s2 H2 (ts++js.map (·.2)) fp) [] σ' H' s'/\tn i s'.heap/\(∀b∈fp,H' b=none)/\W i n ys σ' H') ?_ m0
   ⟨0,[],_,_,I4,MZ,λb hb=>by rw [aj (bx (EH b hb))];exact(f2 b hb).1,w0⟩
  rintro n s' ⟨i,ys,σ0,H',J',sN,OD,w'⟩;rcases turn i n ys σ0 H' w' with ⟨stop,q⟩ | ⟨go,m',hm,step⟩
  .refine cw (T.done (rh X scope cl G2.objs.size s2 H2 (ts++js.map (·.2)) fp) rfl rfl rfl hc i [] s' _ H' (λ_ _=>False) J' (qw OD (by simp)) sN stop) (λr s4 ⟨hr,J4⟩=>?_) λ_ _ z=>z;subst hr;exact fin J4 q
  refine cw (T.item (rh X scope cl G2.objs.size s2 H2 (ts++js.map (·.2)) fp) rfl rfl rfl hc i [] s' _ H' (λ_ _=>False) J' (qw OD (by simp)) sN go) (λr s4 ⟨u,hr,h4⟩=>?_) λ_ _ z=>z;subst hr;refine cw h4 (λ_ s5 aV=>?_) λ_ _ z=>z;obtain⟨xv,H5,J5,r5,y5,Bh,OC⟩:=aV;have U_:=J5.pinned (qw OC (by simp)) (T.obj _ _ Bh);have back:∀{s7:Shared}{σ7:St}{H7:Hp},Inv (rh X scope cl G2.objs.size s2 H2 (ts++js.map (·.2)) fp) ([]++n6 fp s5.heap) σ7 H7 s7->Inv (rh X scope cl G2.objs.size s2 H2 (ts++js.map (·.2)) fp) [] σ7 H7 s7/\tn (i+1) s7.heap/\∀b∈fp,H7 b=none:=λ{s7 σ7 H7} J7=>by
   refine⟨J7.jA,T.keep _ _ _ Bh λb hb o e=>(J7.pin (b,o) (fZ _ (fZ _ (fQ hb e)))).1,λb hb=>?_⟩;obtain⟨o,e,d⟩:=T.obj _ _ Bh b hb;exact(J7.pin (b,o) (fZ _ (fZ _ (fQ hb e)))).2.1
  show wpAny _ _ (assign tg (rh X scope cl G2.objs.size s2 H2 (ts++js.map (·.2)) fp).env u) _ _ s5;refine cw (Te _ s5 _ H5 xv u _ U_ r5 (step xv H5 y5)) (λ_ s6 aV=>?_) λ_ _ z=>z;obtain⟨σ6,H6,J6,q6⟩:=aV;refine cw (KN _ s6 _ H6 _ J6 q6) (λb s7 aV=>?_) λ_ _ z=>z;obtain⟨H7,J7,q7⟩:=aV;cases b with
  | false =>
   rw [av dS] at q7 ⊢;obtain⟨J8,Q5,T6⟩:=back J7;exact⟨m',hm,i+1,ys,σ6,H7,J8,Q5,T6,q7⟩
  | true =>
   rw [ay rfl] at q7 ⊢;refine cw (Hi _ s7 _ H7 _ J7 q7) (λyv s8 aV=>?_) λ_ _ z=>z;obtain⟨y,H8,J8,r8,TQ,Ss,w8⟩:=aV;refine cw (cA (X:=rh X scope cl G2.objs.size s2 H2 (ts++js.map (·.2)) fp) _ s8 _ H8 (.ref s2.heap.objs.size) [y] (.ref s2.heap.objs.size) [yv] (λv H'=>W (i+1) m' (ys++[y]) σ6 H') J8 rfl (.cons r8 .nil) ⟨s2.heap.objs.size,ys,y,rfl,rfl,TQ,Ss,w8⟩)
    (λ_ s9 ⟨_,H9,J9,_,w9⟩=>?_) λ_ _ z=>z
   obtain⟨Va,Jt,K7⟩:=back J9;exact⟨m',hm,i+1,ys++[y],σ6,H9,Va,Jt,K7,w9⟩
 exact codeAny_compStart_list (loop _ rfl) (T.self _ _ _ _ _ MZ (loop _ rfl))
def Pf (K:aY)(a:Addr):It :=
 ⟨λi H=>∃xs x,aH K H a xs/\xs[i]?=some x,λi H x H'=>∃t y,x=.ref t/\H t=none/\H'=upd H t (.tup [.int (i:Int),y])/\∀xs,aH K H a xs->xs[i]?=some y,λi H=>∃xs,aH K H a xs/\xs.length<=i⟩
def Bd {P:Program}{w:World}{K:aY}{elts:List Expr}{k:Nat}{nR:Pos}(a e it:Addr)(Hh:e≠it) :
  Turn P w K (.Tuple elts k nR) (Pf K a) [e,it] e (λi h=>(∃old,IsEnum h e it i old)/\h.IsListIter it a i) where
 mem:=by simp
 obj:=λi h st b hb=>by
  obtain⟨⟨old,he⟩,o,e1,c,d⟩:=st;rcases aT.mp hb with rfl | hb
  .exact⟨_,he,λv z=>by cases z⟩
  obtain rfl:b=it:=by simpa using hb
  exact⟨o,e1,λv z=>by rw [d] at z;cases z⟩
 keep:=λi h h' st k=>⟨⟨st.1.choose,k e (by simp) _ st.1.choose_spec⟩,st.2.at λo q=>k it (by simp) o q⟩
 item:=by
  intro X hP hw hK hc i ai s σ H E I hf st hg;subst hP hw hK;obtain⟨xs,x,hq,hx⟩:=hg;obtain⟨aO,rv,p,hz⟩:=I.list hq;obtain⟨u,hu,ru⟩:=rv.get hx;obtain⟨⟨old,he⟩,hit⟩:=st;refine wpAny_pyNext_enum_item he hit p.isList (x:=u) (by simpa using hu) Hh λh1 ho EF hT hsz hk=>?_;refine⟨_,rfl,yb ho λh2 Oh sb=>?_⟩;have ne:s.heap.objs.size≠e:=iF (aS he);have kk:∀b o,b≠e->b≠it->s.heap.get? b=some o->h2.get? b=some o:=λb o n1 n2 q=>(sb.2 b n1).trans (hk b o n1 n2 q);have T2:h2.get? s.heap.objs.size=some { cls:=.type "tuple",data:=.seq #[.int i s.toks,u] }:=(sb.2 _ ne).trans hT;have fe:=hf e (by simp);have fi:=hf it (by simp);have fT:H s.heap.objs.size=none:=I.bD.fresh (aK _);have tr:∀b v,H b=some v->b≠e/\b≠it:=λb v q=>⟨λz=>(by rw [z,fe.1] at q;cases q),λz=>(by rw [z,fi.1] at q;cases q)⟩;have nc:∀b,b∉[e,it]->b≠e/\b≠it:=λb z=>⟨λq=>z (by simp [q]),λq=>z (by simp [q])⟩;have lt:∀b o,s.heap.get? b=some o->b≠s.heap.objs.size:=λb o q=>bx (aS q);have I2:Inv X ai σ (upd H s.heap.objs.size (.tup [.int (i:Int),x])) { s with heap:=h2,toks:=s.toks+1 }:=by
   refine I.call (g':=s.gens) (t':=s.toks+1) (d':=s.drawn) (ch:=[e,it]) ⟨λb o q _ _ c=>kk b o (nc b c).1 (nc b c).2 q,λb o q _ _ c=>⟨o.slots,kk b o (nc b c).1 (nc b c).2 q⟩,
    λb o q n _=>by rw [aj (lt b o q)];exact n,λb o q c=>⟨o,kk b o (nc b c).1 (nc b c).2 q⟩,λb ys q=>by rw [aj (aq q fT)];exact q,λb o v q=>by rw [aj (aq q fT)];exact q,
    λb ps q=>⟨#[],by rw [aj (aq q fT),q];simp⟩⟩ (λb v q=>?_) I.bare (λb hb=>?_)
   .by_cases hb:b=s.heap.objs.size
    .subst hb;rw [af] at q;cases q;exact⟨by show 2<=sizeLine;decide,[.int i s.toks,u],.cons ⟨_,rfl⟩ (.cons ru .nil),_,T2,rfl,_,rfl⟩
    rw [aj hb] at q;refine(I.bD b v q).hV (λc o jq z=>?_) (λc q'=>by rw [aj (aq q' fT)];exact q') λc ys q'=>by rw [aj (aq q' fT)];exact q'
    rcases jq with rfl | jq
    .exact kk c o (tr c _ q).1 (tr c _ q).2 z
    exact kk c o (tr c _ jq).1 (tr c _ jq).2 z
   rcases aT.mp hb with rfl | hb
   .exact⟨fe.2.2.2.1,fe.2.1,fe.2.2.2.2.1,fe.2.2.2.2.2⟩
   obtain rfl:b=it:=by simpa using hb
   exact⟨fi.2.2.2.1,fi.2.1,fi.2.2.2.2.1,fi.2.2.2.2.2⟩
  refine⟨.ref s.heap.objs.size,_,I2,rfl,⟨_,x,rfl,fT,rfl,λys hy=>by rw [I.mw hy hq];exact hx⟩,⟨⟨_,Oh⟩,EF.at λo q=>(sb.2 it Hh.symm).trans q⟩,λb hb=>?_⟩;have rY:H b=none/\∃o,s.heap.get? b=some o:=by
   rcases aT.mp hb with rfl | hb
   .exact⟨fe.1,_,he⟩
   obtain rfl:b=it:=by simpa using hb
   obtain⟨o,q,_⟩:=hit;exact⟨fi.1,o,q⟩
  obtain⟨n,o,q⟩:=rY;rw [aj (lt b o q)];exact n
 done:=by
  intro X hP hw hK hc i ai s σ H E I hf st hg;subst hP hw hK;obtain⟨xs,hq,hx⟩:=hg;obtain⟨aO,rv,p,hz⟩:=I.list hq;obtain⟨⟨old,he⟩,hit⟩:=st;obtain⟨f0,f1,f2,f3,f4,f5⟩:=hf it (by simp);have hl:=rv.length;exact wpAny_pyNext_enum_end (I.ok.hd hc) he hit p.isList (by simp;omega) λh' eb=>⟨rfl,I.turned (t':=s.toks) (λb o hb e=>eb b o hb e) f0 f1 f3 f4 f5⟩
 self:=λ_ _ _ _ _ st h=>ny st.1.choose_spec h
def oA:bootBuiltins "enumerate"=some (.type "enumerate"):=by decide +kernel
def NQ (K:aY)(ta:TA):TI:=λσ H R=>ta σ H λvs H1=>Qx vs (aH K H1) λa=>R (Pf K a) H1
def mj {X:Cx}{elts:List Expr}{k:Nat}{nR:Pos}{l:Expr}{ta:TA}{p pos:Pos}(hg:Gl X "enumerate")(hm:X.mg "enumerate"=none)(ha:PA X [l] ta)(hs:starEach [l] X.env=[(false,eval l X.env)]:=by rfl) :
  PI X (.Tuple elts k nR) (.Call (.Name "enumerate" p) [l] [] pos) (NQ X.K ta):=by
 intro ai s σ H R I h;refine Call_ (g8 I hg hm oA (v8 (cx (ha pos ai s σ H _ I h) λus s1 aV=>?_) hs rfl));obtain⟨vs,H1,I1,r1,q1⟩:=aV;obtain⟨a,xs,e,hq,q⟩:=q1;subst e;obtain⟨u,rfl,rx⟩:=r1.one;cases rx;obtain⟨aO,rv,pl,hz⟩:=I1.list hq;refine call_enumerate_list pl.isList λh1 he hit hsz hk=>ny he ?_;refine⟨s1.heap.objs.size+1,[s1.heap.objs.size+1,s1.heap.objs.size],_,_,H1,rfl,I1.kept (t':=s1.toks) λb o e=>hk b o e,Bd a _ _ (iF (lI _)),⟨⟨_,he⟩,hit⟩,λb hb=>?_,q⟩;rcases aT.mp hb with rfl | hb
 .exact I1.qX (gU _) (I1.bD.fresh (gU _))
 obtain rfl:b=s1.heap.objs.size:=by simpa using hb
 exact I1.qX (aK _) (I1.bD.fresh (aK _))
def cO (kvs bB:List (aN×V)):List (aN×V):=kvs.foldl (λa p=>bE a p.1 p.2) bB
theorem q9:∀{kvs:List (aN×V)}{vs:List (aN×Value)}{bB:List (aN×V)}{Fg:List (aN×Value)},KV kvs vs->KV bB Fg->KV (cO kvs bB) (vs.foldl (λa p=>stored a p.1 p.2) Fg)
 | _,_,_,_,.nil,h=>h
 | _,_,_,_,.cons (a:=p) (b:=q) r t,h=>by
  obtain⟨e,rv⟩:=r;show KV (cO _ (bE _ p.1 p.2)) (List.foldl _ (stored _ q.1 q.2) _);rw [<-e];exact q9 t (h.put p.1 rv)
theorem q_:∀(kvs bB:List (aN×V)),(cO kvs bB).length<=bB.length+kvs.length
 | [],bB=>by simp [cO]
 | p::r,bB=>by
  have:=q_ r (bE bB p.1 p.2);have:=d8 bB p.1 p.2;show (cO r (bE bB p.1 p.2)).length<=_;rw [cH];omega
section
variable {X:Cx}{ai:List (Addr×Obj)}{σ:St}{H:Hp}{s:Shared}
theorem pairs_at (I:Inv X ai σ H s):∀{ts:List Addr}{kvs:List (aN×V)}{aO:List Value},Paired (λt kv=>bj X.K H t [kV kv.1,kv.2]) ts kvs->aU (ts.map V.ref) aO ->
  ∃vs:List (aN×Value),KV kvs vs/\Paired (λu kv=>lh (aX X.prog X.w) s.heap u kv) aO vs
 | [],_,_,.nil,r=>by
  rw [iz] at r;cases r;exact⟨[],.nil,.nil⟩
 | t::ts,kv::kvs,_,.cons h p,r=>by
  rw [bz] at r;cases r with
  | cons r1 r2 =>
   obtain⟨vs,e1,e2⟩:=pairs_at I p r2;obtain⟨aO,rv,⟨o,h1,h2,n,h3⟩,_⟩:=I.tuple h;obtain⟨u1,u2,rfl,q1,q2⟩:=vals2 rv;exact⟨(kv.1,u2)::vs,.cons ⟨rfl,q2⟩ e1,.cons ⟨t,u1,n,o,r1,kj q1,h1,h2,h3⟩ e2⟩
theorem Paired.at_ {α β:Type}{F:α->β->Prop}:∀{xs:List α}{ys:List β},Paired F xs ys->∀(m:Nat)(y:β),ys[m]?=some y->∃x,xs[m]?=some x/\F x y
 | _,_,.nil,m,y,e=>by cases m <;> cases e
 | _,_,.cons h t,0,y,e=>by cases e;exact⟨_,rfl,h⟩
 | _,_,.cons h t,m+1,y,e=>Paired.at_ t m y e
def dI (hc:X.calm=true):dZ X (.type "dict") (λxs H Q=>∃a ts kvs,xs=[.ref a]/\H a=some (.lst (ts.map V.ref))/\Paired (λt kv=>bj X.K H t [kV kv.1,kv.2]) ts kvs/\∀d,H d=none->Q (.ref d) (upd H d (.dK (cO kvs [])))):=by
 intro ai s σ H xs us Q I r h;obtain⟨a,ts,kvs,rfl,e,p,q⟩:=h;obtain⟨u,rfl,rx⟩:=vals1 r;cases (show u=Value.ref a from rx);obtain⟨z,aO,n,rv,ho⟩:=(show bU X.prog X.w H s.heap a (.lst _) from I.bD a _ e);obtain⟨vs,r1,r2⟩:=pairs_at I p rv;have l1:=bM r2;have l2:=r1.length;have l3:=bM p;rw [aC] at z;refine rD (aX X.prog X.w) (I.ok.hd hc) ho (by simpa using l1) (λm kv em=>?_) ∅ λh' t' hd kk=>?_
 .obtain⟨u,e1,e2⟩:=Paired.at_ r2 m kv em;exact⟨u,by simpa using e1,e2⟩
 have new:bU X.prog X.w (upd H s.heap.objs.size (.dK (cO kvs []))) h' s.heap.objs.size (.dK (cO kvs [])):=by
  refine rg ?_ ?_ (q9 r1 .nil) hd
  .have:=q_ kvs [];simp at this;omega
  have:=I.big;exact iJ.mpr (iF this)
 exact⟨.ref s.heap.objs.size,_,I.laid (t':=t') kk (aK _) new,rfl,q _ (I.bD.fresh (aK _))⟩
theorem sX {α β:Type}{F:α->β->Prop}:∀{xs:List α}{ys:List β},xs.length=ys.length->(∀(j:Nat) x y,xs[j]?=some x->ys[j]?=some y->F x y)->Paired F xs ys
 | [],[],_,_=>.nil
 | [],_::_,e,_=>by cases e
 | _::_,[],e,_=>by cases e
 | x::xs,y::ys,e,h=>.cons (h 0 x y rfl rfl) (sX (Nat.succ.inj e) λj a b e1 e2=>h (j+1) a b e1 e2)
def Ir {P:Program}{w:World}{k:aN}{u:Value}(h:(aX P w).is k u=true):RelV (kV k) u:=by
 rcases cS (show qO k u=true from h) with ⟨i,t,rfl,rfl⟩ | ⟨x,t,rfl,rfl⟩
 .exact⟨t,rfl⟩
 exact⟨t,rfl⟩
def lg (hc:X.calm=true):dZ X (.type "list") (λxs H Q=>∃a kvs,xs=[.ref a]/\H a=some (.dK kvs)/\∀D,H D=none->Q (.ref D) (upd H D (.lst (kvs.map λp=>kV p.1)))):=by
 intro ai s σ H xs us Q I r h;obtain⟨a,kvs,rfl,e,q⟩:=h;obtain⟨u,rfl,rx⟩:=vals1 r;cases (show u=Value.ref a from rx);obtain⟨z,hs,vs,rel,dd⟩:=xn I.bD e;obtain⟨o,es,ep,d1,d2,d3,d4⟩:=dd;have l1:=rel.length;refine PySem.W.kdl_call (PySem.W.kdl_dict (knd:=aX X.prog X.w) (kvs:=vs) (ep:=ep) hs) (I.ok.hd hc) ⟨o,es,d1,d2,d3,d4⟩ ∅ λh' tk bB c kk hD BZ=>?_;have keys:=rel.keys;have vals:aU (kvs.map λp=>kV p.1) bB.toList:=by
  refine sX (by have h1:=BZ.1;simp only [aC,uq];omega) λj x y e1 e2=>?_;rw [Array.getElem?_toList] at e2;obtain⟨k,v,e3,e4⟩:=BZ.2 j y e2;rw [bH] at e1;obtain⟨p,e5,rfl⟩:=cf.mp e1;have e6:(kvs.map (·.1))[j]?=some p.1:=by rw [bH,e5];rfl
  rw [keys,bH,e3] at e6;cases e6;exact Ir e4
 have new:bU X.prog X.w (upd H s.heap.objs.size (.lst (kvs.map λp=>kV p.1))) h' s.heap.objs.size (.lst (kvs.map λp=>kV p.1)):=⟨by rw [aC];exact z,bB.toList,c,vals,by simpa using hD⟩;exact⟨.ref s.heap.objs.size,_,I.laid (t':=tk) kk (aK _) new,rfl,q _ (I.bD.fresh (aK _))⟩
end
def zU (v:V):Prop:=iY v=true\/∃r,v=.ref r
theorem uL:∀{ts:List Str}{aO:List Value},aU (ts.map V.str) aO->StrsAre aO ts
 | [],_,r=>by rw [iz] at r;cases r;exact .nil
 | z::ts,_,r=>by
  rw [bz] at r;cases r with
  | cons h t =>
   obtain⟨tk,e⟩:=(show ∃tk,_=Value.str z tk from h);subst e;exact .cons z tk (uL t)
def rJoin (K:aY):V->List V->Hp->VK->Prop:=λx vs H Q=>∃z a ts,x=.str z/\vs=[.ref a]/\aH K H a (ts.map V.str)/\(ts.map (·.length)).sum+ts.length * z.length<=16777216/\Q (.str (Txt.join z ts)) H
def mv {X:Cx}:IY X "str.join" (rJoin X.K):=by
 intro ai s σ H x vs v us Q I rx rv h;obtain⟨z,a,ts,rfl,rfl,hq,hz,q⟩:=h;obtain⟨t,rfl⟩:=rx;obtain⟨u,rfl,ru⟩:=rv.one;cases (show u=Value.ref a from ru);obtain⟨aO,r,pl,_⟩:=I.list hq;exact join_list pl.isList (by simpa using uL r) hz λt' k=>⟨.str _,H,I.tok _,⟨_,rfl⟩,q⟩
section
variable {K:aY}{a D:Addr}{xs:List V}{ts:List Str}{js:List (Nat×Str)}{g:TG}{tif:TT}{te:TE}{R:Hp->Prop}{σ:St}{H:Hp}
def cb (Pv:Nat->List V->St->Hp->Prop)(h0:Pv 0 [] (eE ts js σ) (upd H D (.lst [])))(hl:∀i ys σ H,i<=xs.length->Pv i ys σ H->aH K H a xs)
  (hs:∀i x ys σ H,xs[i]?=some x->Pv i ys σ H->g x σ H λσ2 H2=>tif σ2 H2 λb H3=>if b=true then te σ2 H3 λy H4=>H4 D=some (.lst ys)/\ys.length < sizeLine/\Pv (i+1) (ys++[y]) σ2 (upd H4 D (.lst (ys++[y]))) else Pv (i+1) ys σ2 H3)
  (hd:∀ys σ H,Pv xs.length ys σ H->R H) :
  ∃W:Nat->Nat->List V->St->Hp->Prop,(∃m,W 0 m [] (eE ts js σ) (upd H D (.lst []))) /\
 ∀i m ys σ' H,W i m ys σ' H->((ku K a).stop i H/\R H)\/((ku K a).go i H/\∃m',m' < m/\∀x H',(ku K a).nO i H x H'->g x σ' H' λσ2 H2=>tif σ2 H2 λb H3 =>
  if b=true then te σ2 H3 λy H4=>H4 D=some (.lst ys)/\ys.length < sizeLine/\W (i+1) m' (ys++[y]) σ2 (upd H4 D (.lst (ys++[y]))) else W (i+1) m' ys σ2 H3):=by
 refine⟨λi m ys σ H=>m=xs.length - i/\i<=xs.length/\Pv i ys σ H,⟨xs.length,by simp,dC _,h0⟩,?_⟩;rintro i m ys σ' H ⟨rfl,hi,p⟩;have q:=hl i ys σ' H hi p;by_cases i4:i < xs.length
 .refine .inr ⟨⟨xs,xs[i],q,by simp [i4]⟩,xs.length - (i+1),∅,λx H' y=>?_⟩;obtain⟨e,y⟩:=y;subst e;have z:=hs i x ys σ' _ (y xs q) p;have h1:(i+1<=xs.length)=True:=eq_true i4;simp only [h1,true_and];exact z
 have e:i=xs.length:=by omega
 subst e;exact .inl ⟨⟨xs,q,aK _⟩,hd ys σ' H p⟩
end
def wR {K:aY}{t:Value}:PySem.W.kitOne K t t=some true:=by unfold PySem.W.kitOne;rw [ay (qe t)]
def MV (t:TS):TS:=λD σ H=>∃R:St->Hp->Prop,t { D with nx:=R } σ H/\∀σ' H',R σ' H'->D.nx σ' H'
def jW {X:Cx}{st:Stmt}{t:TS}(h:PS X st t):PS X st (MV t):=by
 intro ai s σ H D I ⟨R,q,m⟩;refine cx (h ai s σ H _ I q) λf s1 z=>?_;cases f with
 | next=>obtain⟨σ',H',I',r⟩:=z;exact⟨σ',H',I',m _ _ r⟩
 | ret v=>exact z
 | brk=>exact z
 | cont=>exact z
def aG (P:Program)(w:World)(K:aY)(mg:Str->Option Value)(base:Heap) (k:Nat)(x:Str) (ps:List Str)(sp:Sp):Prop :=
 ∃f fd,bA P w K mg base e_ k f fd ps sp/\Binds K fd ps []/\PySem.W.keepIn K (.ref f)=true/\mg x=some (.ref f)
theorem aG.mono {P:Program}{w:World}{K:aY}{mg:Str->Option Value}{base:Heap}{j k:Nat}{x:Str}{ps:List Str}{sp:Sp}(c:aG P w K mg base j x ps sp)(h:j<=k):aG P w K mg base k x ps sp :=
 let ⟨f,fd,a,b⟩:=c;⟨f,fd,a.mono h,b⟩
def bp {X:Cx}{k:Nat}{x:Str}{ps:List Str}{sp:Sp}{e:Expr}{es:List Expr}{t:TA}{p pos:Pos}(c:aG X.prog X.w X.K X.mg X.base k x ps sp)(hr:dB k X.A)(hg:Gl X x)(ha:PA X (e::es) t)
  (vC:(x == ("__debug__":Str))=false:=by decide)(he:starEach (e::es) X.env=(false,eval e X.env)::starEach es X.env:=by rfl)(oX:(backTo pos (starEach es X.env)).any (·.1)=false:=by rfl) :
  PE X (.Call (.Name x p) (e::es) [] pos) (HP sp [] E0 t):=by
 obtain⟨f,fd,G,b,kp,m⟩:=c;exact GU G hr hg m kp b .nil qH ha vC he oX
def fits {n:Nat}(h:n<=1000000):n<=sizeLine:=df h nofun
def bW {n:Nat}(h:n<=1000000):n < sizeLine:=oK h nofun
def ah {H:Hp}{p:Addr}(h:H p=none)(o:HO):aD H (upd H p o):=λb u q=>by rw [aj (aq q h)];exact q
def aD.tup {K:aY}{H H':Hp}{a:Addr}{xs:List V}(e:aD H H')(h:bj K H a xs):bj K H' a xs:=by
 rcases h with (h | ⟨o,h⟩) | h
 .exact .inl (.inl (e _ _ h))
 .exact .inl (.inr ⟨o,e _ _ h⟩)
 exact .inr h
def jZ {X:Cx}(hc:X.calm=true):dZ X (.builtin "all") (λxs H Q=>∃(a:Addr)(bs:List Bool),xs=[.ref a]/\aH X.K H a (bs.map V.bl)/\Q (.bl (bs.all id)) H):=by
 intro ai s σ H xs us Q I r h;obtain⟨a,bs,rfl,hq,q⟩:=h;obtain⟨u,rfl,rx⟩:=vals1 r;cases (show u=Value.ref a from rx);obtain⟨aO,rv,pl,hz⟩:=I.list hq;obtain⟨o,h1,h2,m,h3⟩:=id pl.isList;have la:a < s.heap.objs.size:=aS h1;have ln:=rv.length;rw [aC] at ln;have Sn:∀(i:Nat) v,aO.toArray[i]?=some v->v=.bool (bs.getD i true):=λi v e=>by
  have e':aO[i]?=some v:=by simpa using e
  obtain⟨x,e2,e3⟩:=Paired.at_ rv i v e';rw [bH] at e2;obtain⟨b,e4,rfl⟩:=cf.mp e2;rw [oQ,e4];exact e3
 refine call_all_walk (j_ pl.isList ?_);refine⟨s.heap.objs.size,_,_,_,_,_,λi=>bs.getD i true,rfl,Walks.list (A:=X.A.in1) (show X.A.in1.handled=none from I.ok.hd hc) s.heap.objs.size a (bx la) aO.toArray,⟨⟨_,cI _ rfl,rfl,rfl⟩,⟨o,bC _ h1,h2,m,h3⟩⟩,?_,λh' tk kk=>?_⟩
 .intro i v s1 Q1 E1 hP TK;rw [Sn i v hP];exact oJ TK
 have e:((List.range aO.toArray.size).all λi=>bs.getD i true)=bs.all id:=by
  rw [b8,<-ln,iH,fY,fY];constructor
  .intro h b hb;obtain⟨i,hi,e⟩:=oP.mp hb;have:=h i (lE.mpr hi);rw [oQ,eG hi,e] at this;exact this
  intro h i hi;have Oe:=lE.mp hi;rw [oQ,eG Oe];exact h _ (qd Oe)
 rw [e];exact⟨.bl _,H,I.kept (t':=tk) λb o' e'=>kk b o' (by simp;exact bx (aS e')) (bC _ e'),rfl,q⟩
section
variable {prog:Program}{w:World}{A:Around}{E:Value->Shared->Prop}{s:Shared}
def zf {it l:Addr}{i:Nat}{items:Array Value}{x:Value}{Q:Value->Shared->Prop}(hit:s.heap.IsTupleIter it l i)(hl:s.heap.IsTuple l items)(hx:items[i]?=some x)
  (hQ:∀h',h'.IsTupleIter it l (i+1)->Heap.SameBut it s.heap h'->Q x { s with heap:=h' }):wpAny (model prog w) A (Builtin.SmallTypes.nextOf (.ref it)) Q E s:=by
 obtain⟨o,ho,hc,hd⟩:=id hit;obtain⟨ol,SO,_,nl,Tp⟩:=hl;unfold Builtin.SmallTypes.nextOf;refine aB (uy (name:=Str.ofString "__next__") hit.typeIs uD (wpAny_call_entry uD hit.typeIs F.entry_tuple_iterator_next ?_ (F.args_tuple_iterator_next_1 _)));show wpAny _ _ (field (.ref it) 0 >>= λv=>_) _ _ s;refine aB (gQ ho hd (x:=.ref l) (by rfl) ?_);show wpAny _ _ (if (Value.ref l == .none)=true then _ else _) _ _ s;rw [av (by exact dS)];show wpAny _ _ (field (.ref it) 1 >>= λv=>_) _ _ s;refine aB (gQ ho hd (x:=.int i 0) (by rfl) ?_);show wpAny _ _ (seqItems? (.ref l) >>= λv=>_) _ _ s;refine aB (p6 SO Tp (by
  simp only [lJ,hx];refine aB (nj ho hd (by simp) (aR ⟨x,rfl,aR (hQ _ ⟨_,pY _ ho (Obj.isFreed_of_fields (qf hd _)),(Obj.cls_mapFields ..).trans hc,?_⟩ (Heap.SameBut.update ..))⟩));rw [qf hd];simp [rawInt]))
def zL {e it l:Addr}{i:Nat}{items:Array Value}{x old:Value}{Q:Option Value->Shared->Prop}(he:IsEnum s.heap e it i old)(hit:s.heap.IsTupleIter it l i)(hl:s.heap.IsTuple l items)(hx:items[i]?=some x)(vV:e≠it)
  (hQ:∀h',IsEnumOut h' e it ((i:Int)+1) x s.heap.objs.size->h'.IsTupleIter it l (i+1)->h'.get? s.heap.objs.size=some { cls:=.type "tuple",data:=.seq #[.int i s.toks,x] } ->
   (∀b o,b≠e->b≠it->s.heap.get? b=some o->h'.get? b=some o)->Q (some (.ref s.heap.objs.size)) { s with heap:=h',toks:=s.toks+1 }) :
  wpAny (model prog w) A (pyNext (.ref e)) Q E s:=by
 have hT:s.TypeIs (.ref e) "enumerate" := ⟨_,he,rfl⟩;unfold pyNext;refine aB (ng (uy (name:=Str.ofString "__next__") hT ur (wpAny_call_entry ur hT F.entry_enumerate_next ?_ (F.args_enumerate_next_1 _))));obtain⟨hp,g,d,tk,os⟩:=s;show wpAny _ _ (field (.ref e) 2 >>= λv=>_) _ _ _;refine aB (gQ he rfl (x:=.ref it) (by rfl) (aB (zf hit hl hx λh₁ Tb NV=>?_)));replace NV:Heap.SameBut it hp h₁:=NV;have Tj:IsEnum h₁ e it i old:=(NV.2 e vV).trans he;show wpAny _ _ (field (.ref e) 3 >>= λv=>_) _ _ ⟨h₁,g,d,tk,os⟩;refine aB (gQ Tj rfl (x:=rawInt i) (by rfl) ?_);show wpAny _ _ (field (.ref e) 4 >>= λv=>_) _ _ ⟨h₁,g,d,tk,os⟩;refine aB (gQ Tj rfl (x:=.none) (by rfl) ?_);show wpAny _ _ (mkInt i >>= λv=>_) _ _ ⟨h₁,g,d,tk,os⟩;refine aB (wpAny_mkInt ?_);show wpAny _ _ (setField (.ref e) 3 (rawInt ((i:Int)+1)) >>= λv=>_) _ _ ⟨h₁,g,d,tk+1,os⟩;refine aB (qg Tj (by simp) λh₂ f₂ hs₂=>?_);have he₂:IsEnum h₂ e it ((i:Int)+1) old:=f₂;have k₂:Heap.SameBut e h₁ h₂:=hs₂;show wpAny _ _ (setField (.ref e) 4 .none >>= λv=>_) _ _ ⟨h₂,g,d,tk+1,os⟩;refine aB (qg he₂ (by simp) λh₃ f₃ hs₃=>?_);have he₃:IsEnum h₃ e it ((i:Int)+1) old:=f₃;have k₃:Heap.SameBut e h₂ h₃:=hs₃;show wpAny _ _ (newTuple [.int i tk,x] >>= λv=>_) _ _ ⟨h₃,g,d,tk+1,os⟩;refine aB (wpAny_newTuple ?_);have P7:IsEnum (h₃.push { cls:=.type "tuple",data:=.seq #[.int i tk,x] }) e it ((i:Int)+1) old:=bC _ he₃;have hsz:h₃.objs.size=hp.objs.size:=by rw [k₃.1,k₂.1,NV.1]
 have WC:e < hp.objs.size:=aS he;have Wf:(h₃.push { cls:=.type "tuple",data:=.seq #[.int i tk,x] }).get? hp.objs.size=some { cls:=.type "tuple",data:=.seq #[.int i tk,x] }:=by rw [<-hsz];exact cI _ rfl
 have Ws:∀b o,b≠e->b≠it->hp.get? b=some o->(h₃.push { cls:=.type "tuple",data:=.seq #[.int i tk,x] }).get? b=some o:=λb o n1 n2 hb=>bC _ (k₃.extBut b o n1 (k₂.extBut b o n1 (NV.extBut b o n2 hb)));have Od:(h₃.push { cls:=.type "tuple",data:=.seq #[.int i tk,x] }).IsTupleIter it l (i+1):=Tb.at λo q=>bC _ (k₃.extBut it o (cZ vV) (k₂.extBut it o (cZ vV) q));generalize h₃.push { cls:=.type "tuple",data:=.seq #[.int i tk,x] }=h₄ at P7 Wf Ws Od ⊢;rw [hsz];show wpAny _ _ (Builtin.SmallTypes.ownedTupleIsFree (.ref e) >>= λv=>_) _ _ ⟨h₄,g,d,tk+1,os⟩;refine aB (by
  unfold Builtin.SmallTypes.ownedTupleIsFree;refine aB (gQ P7 rfl (x:=.none) (by rfl) (aR (by
   simp only [if_true];refine aB (wpAny_rule (aB (gQ P7 rfl (x:=old) (by rfl) (aB (qg P7 (by simp) λh₅ f₅ hs₅=>?_)))));have he₅:IsEnum h₅ e it ((i:Int)+1) x:=f₅;have k₅:Heap.SameBut e h₄ h₅:=hs₅;show wpAny _ _ (Builtin.SmallTypes.ownedTupleHandOut (.ref e) (.ref hp.objs.size) >>= λv=>_) _ _ ⟨h₅,g,d,tk+1,os⟩;refine aB (by
    unfold Builtin.SmallTypes.ownedTupleHandOut;refine aB (qg he₅ (by simp) λh₆ f₆ hs₆=>?_);have he₆:IsEnumOut h₆ e it ((i:Int)+1) x hp.objs.size:=f₆;have k₆:Heap.SameBut e h₅ h₆:=hs₆;refine qg he₆ (by simp) λh₇ f₇ hs₇=>?_;have he₇:IsEnumOut h₇ e it ((i:Int)+1) x hp.objs.size:=f₇;have k₇:Heap.SameBut e h₆ h₇:=hs₇;have up:∀b o,b≠e->h₄.get? b=some o->h₇.get? b=some o:=λb o n q=>k₇.extBut b o n (k₆.extBut b o n (k₅.extBut b o n q));exact aB (wpAny_letGo (aR ⟨_,rfl,aR (hQ h₇ he₇ (Od.at λo q=>up it o (cZ vV) q) (up _ _ (iF WC) Wf) λb o n1 n2 q=>up b o n1 (Ws b o n1 n2 q))⟩)))))))
def qM {it l:Addr}{i:Nat}{items:Array Value}{Q:Value->Shared->Prop}(hh:A.handled=none)(hit:s.heap.IsTupleIter it l i)(hl:s.heap.IsTuple l items)(hx:items[i]?=none)
  (hE:∀h' e,Heap.ExtBut it s.heap h'->(∃o,h'.get? e=some o/\o.cls=.type "StopIteration")->E (.ref e) { s with heap:=h' }):wpAny (model prog w) A (Builtin.SmallTypes.nextOf (.ref it)) Q E s:=by
 obtain⟨o,ho,hc,hd⟩:=id hit;obtain⟨ol,SO,_,nl,Tp⟩:=hl;unfold Builtin.SmallTypes.nextOf;refine aB (uy (name:=Str.ofString "__next__") hit.typeIs uD (wpAny_call_entry uD hit.typeIs F.entry_tuple_iterator_next ?_ (F.args_tuple_iterator_next_1 _)));show wpAny _ _ (field (.ref it) 0 >>= λv=>_) _ _ s;refine aB (gQ ho hd (x:=.ref l) (by rfl) ?_);show wpAny _ _ (if (Value.ref l == .none)=true then _ else _) _ _ s;rw [av (by exact dS)];show wpAny _ _ (field (.ref it) 1 >>= λv=>_) _ _ s;refine aB (gQ ho hd (x:=.int i 0) (by rfl) ?_);show wpAny _ _ (seqItems? (.ref l) >>= λv=>_) _ _ s;refine aB (p6 SO Tp ?_);simp only [lJ,hx];refine aB (wpAny_rule (aB (nj ho hd (by simp) (aB ?_))));simp only [newExc,newTuple];refine aB (nv ?_ (by size_fits));refine aB (m:=firstArgMember _ _) (wpAny_of_eq (a:=Value.none) (by first | rfl | (simp only [firstArgMember];rfl)) ?_)
 refine nv ?_ (by size_fits);simp only [raiseNew];refine aB (wpAny_handled ?_)
 first | rw [show A.in1.handled=none from hh] | rw [hh]
 refine aB (aR (wpAny_throw (hE _ _ (((Heap.SameBut.update ..).extBut.push _).push _) ⟨_,cI _ rfl,rfl⟩)))
def B4 {e it l:Addr}{i:Nat}{items:Array Value}{old:Value}{Q:Option Value->Shared->Prop}(hh:A.handled=none)(he:IsEnum s.heap e it i old)(hit:s.heap.IsTupleIter it l i)(hl:s.heap.IsTuple l items)(hx:items[i]?=none)
  (hQ:∀h',Heap.ExtBut it s.heap h'->Q none { s with heap:=h' }):wpAny (model prog w) A (pyNext (.ref e)) Q E s:=by
 have hT:s.TypeIs (.ref e) "enumerate" := ⟨_,he,rfl⟩;unfold pyNext;refine aB (ng (uy (name:=Str.ofString "__next__") hT ur (wpAny_call_entry ur hT F.entry_enumerate_next ?_ (F.args_enumerate_next_1 _))));show wpAny _ _ (field (.ref e) 2 >>= λv=>_) _ _ _;refine aB (gQ he rfl (x:=.ref it) (by rfl) (aB (qM hh hit hl hx λh' x Hi Su=>?_)));obtain⟨o,ho,hc⟩:=Su;exact aB (wpAny_isInstance (T := "StopIteration") (b:=true) ⟨o,ho,hc⟩ isSubtype_stop (aR (hQ _ Hi)))
end
open PySem.AutoSeq1 (wpAny_loadPart')
def wO (l:Addr)(items:Array Value) (n:Nat)(vY:Option Addr)(sl:Array (Option Value)) :
  Meets (Builtin.«enumerate.__new__» ⟨[.type "enumerate",.ref l],[]⟩) (λ_ R s=>s.heap.get? l=some { cls:=.type "tuple",dict:=vY,data:=.seq items n,slots:=sl } /\
   R (.ok (.ret (.ref (s.heap.push { cls:=.type "tuple_iterator",data:=.fields #[.ref l,.int 0 0] }).objs.size)))
    { s with heap:=(s.heap.push { cls:=.type "tuple_iterator",data:=.fields #[.ref l,.int 0 0] }).push { cls:=.type "enumerate",data:=.fields #[.none,.bool false,.ref s.heap.objs.size,rawInt 0,.none,.none] } }) :=
 .of_wp λprog w A R s h=>by
  obtain⟨hp,g,d,tk,os⟩:=s;obtain⟨hl,h⟩:=h;have NW:=sub_enumerate;have hT:Heap.IsTuple (Shared.heap ⟨hp,g,d,tk,os⟩) l items:=⟨_,hl,rfl,n,rfl⟩
  wp_walk using oN hl
  refine wpAny_stack_any λst=>aR ?_;split
  .rename_i c _ _ _ _ _
   cases (c == Value.type "enumerate")
   .wp_walk using oN hl,ue hT;exact⟨_,rfl,h⟩
   wp_walk using oN hl,ue hT;exact⟨_,rfl,h⟩
  wp_walk using oN hl,ue hT;exact⟨_,rfl,h⟩
section
variable {prog:Program}{w:World}{A:Around}{E:Value->Shared->Prop}{s:Shared}
def zP {l:Addr}{items:Array Value}{Q:Value->Shared->Prop}(hL:s.heap.IsTuple l items)
  (h:∀h',IsEnum h' (s.heap.objs.size+1) s.heap.objs.size 0 .none->h'.IsTupleIter s.heap.objs.size l 0->(∀b o,s.heap.get? b=some o->h'.get? b=some o)->Q (.ref (s.heap.objs.size+1)) { s with heap:=h' }) :
  wpAny (model prog w) A (call (.type "enumerate") [.ref l]) Q E s:=by
 obtain⟨⟨c,vY,dt,sl⟩,hl,hc,n,hd⟩:=hL;replace hc:c=.type "tuple" := hc;replace hd:dt=.seq items n:=hd;subst hc hd;refine callType_new F.called_enumerate nofun (F.typeCall_enumerate_1 _) (F.newCall_enumerate_1 _) (λobj=>F.args_object_init_2 obj _) F.entry_enumerate_new (wO l items n vY sl) ⟨hl,?_⟩;have hz:(s.heap.push { cls:=.type "tuple_iterator",data:=.fields #[.ref l,.int 0 0] }).objs.size=s.heap.objs.size+1:=i6 ..;show _/\_;rw [hz];have he:IsEnum ((s.heap.push { cls:=.type "tuple_iterator",data:=.fields #[.ref l,.int 0 0] }).push { cls:=.type "enumerate",data:=.fields #[.none,.bool false,.ref s.heap.objs.size,rawInt 0,.none,.none] }) (s.heap.objs.size+1) s.heap.objs.size 0 .none:=by
  have:=cI (s.heap.push { cls:=.type "tuple_iterator",data:=.fields #[.ref l,.int 0 0] }) (o:={ cls:=.type "enumerate",data:=.fields #[.none,.bool false,.ref s.heap.objs.size,rawInt 0,.none,.none] }) rfl;rw [hz] at this;exact this
 exact⟨⟨_,he,rfl⟩,h _ he ⟨_,bC _ (cI _ rfl),rfl,rfl⟩ λb o x=>bC _ (bC _ x)⟩
end
def rL (K:aY)(a:Addr):It :=
 ⟨λi H=>∃xs x,bj K H a xs/\xs[i]?=some x,λi H x H'=>∃t y,x=.ref t/\H t=none/\H'=upd H t (.tup [.int (i:Int),y])/\∀xs,bj K H a xs->xs[i]?=some y,λi H=>∃xs,bj K H a xs/\xs.length<=i⟩
def yo {P:Program}{w:World}{K:aY}{elts:List Expr}{k:Nat}{nR:Pos}(a e it:Addr)(Hh:e≠it) :
  Turn P w K (.Tuple elts k nR) (rL K a) [e,it] e (λi h=>(∃old,IsEnum h e it i old)/\h.IsTupleIter it a i) where
 mem:=by simp
 obj:=λi h st b hb=>by
  obtain⟨⟨old,he⟩,o,e1,c,d⟩:=st;rcases aT.mp hb with rfl | hb
  .exact⟨_,he,λv z=>by cases z⟩
  obtain rfl:b=it:=by simpa using hb
  exact⟨o,e1,λv z=>by rw [d] at z;cases z⟩
 keep:=λi h h' st k=>⟨⟨st.1.choose,k e (by simp) _ st.1.choose_spec⟩,st.2.at λo q=>k it (by simp) o q⟩
 item:=by
  intro X hP hw hK hc i ai s σ H E I hf st hg;subst hP hw hK;obtain⟨xs,x,hq,hx⟩:=hg;obtain⟨aO,rv,p,hz⟩:=I.tuple hq;obtain⟨u,hu,ru⟩:=rv.get hx;obtain⟨⟨old,he⟩,hit⟩:=st;refine zL he hit (show s.heap.IsTuple a aO.toArray from p) (x:=u) (by simpa using hu) Hh λh1 ho EF hT hk=>?_;refine⟨_,rfl,yb ho λh2 Oh sb=>?_⟩;have ne:s.heap.objs.size≠e:=iF (aS he);have kk:∀b o,b≠e->b≠it->s.heap.get? b=some o->h2.get? b=some o:=λb o n1 n2 q=>(sb.2 b n1).trans (hk b o n1 n2 q);have T2:h2.get? s.heap.objs.size=some { cls:=.type "tuple",data:=.seq #[.int i s.toks,u] }:=(sb.2 _ ne).trans hT;have fe:=hf e (by simp);have fi:=hf it (by simp);have fT:H s.heap.objs.size=none:=I.bD.fresh (aK _);have tr:∀b v,H b=some v->b≠e/\b≠it:=λb v q=>⟨λz=>(by rw [z,fe.1] at q;cases q),λz=>(by rw [z,fi.1] at q;cases q)⟩;have nc:∀b,b∉[e,it]->b≠e/\b≠it:=λb z=>⟨λq=>z (by simp [q]),λq=>z (by simp [q])⟩;have lt:∀b o,s.heap.get? b=some o->b≠s.heap.objs.size:=λb o q=>bx (aS q);have I2:Inv X ai σ (upd H s.heap.objs.size (.tup [.int (i:Int),x])) { s with heap:=h2,toks:=s.toks+1 }:=by
   refine I.call (g':=s.gens) (t':=s.toks+1) (d':=s.drawn) (ch:=[e,it]) ⟨λb o q _ _ c=>kk b o (nc b c).1 (nc b c).2 q,λb o q _ _ c=>⟨o.slots,kk b o (nc b c).1 (nc b c).2 q⟩,
    λb o q n _=>by rw [aj (lt b o q)];exact n,λb o q c=>⟨o,kk b o (nc b c).1 (nc b c).2 q⟩,λb ys q=>by rw [aj (aq q fT)];exact q,λb o v q=>by rw [aj (aq q fT)];exact q,
    λb ps q=>⟨#[],by rw [aj (aq q fT),q];simp⟩⟩ (λb v q=>?_) I.bare (λb hb=>?_)
   .by_cases hb:b=s.heap.objs.size
    .subst hb;rw [af] at q;cases q;exact⟨by show 2<=sizeLine;decide,[.int i s.toks,u],.cons ⟨_,rfl⟩ (.cons ru .nil),_,T2,rfl,_,rfl⟩
    rw [aj hb] at q;refine(I.bD b v q).hV (λc o jq z=>?_) (λc q'=>by rw [aj (aq q' fT)];exact q') λc ys q'=>by rw [aj (aq q' fT)];exact q'
    rcases jq with rfl | jq
    .exact kk c o (tr c _ q).1 (tr c _ q).2 z
    exact kk c o (tr c _ jq).1 (tr c _ jq).2 z
   rcases aT.mp hb with rfl | hb
   .exact⟨fe.2.2.2.1,fe.2.1,fe.2.2.2.2.1,fe.2.2.2.2.2⟩
   obtain rfl:b=it:=by simpa using hb
   exact⟨fi.2.2.2.1,fi.2.1,fi.2.2.2.2.1,fi.2.2.2.2.2⟩
  refine⟨.ref s.heap.objs.size,_,I2,rfl,⟨_,x,rfl,fT,rfl,λys hy=>by rw [I.sI hy hq];exact hx⟩,⟨⟨_,Oh⟩,EF.at λo q=>(sb.2 it Hh.symm).trans q⟩,λb hb=>?_⟩;have rY:H b=none/\∃o,s.heap.get? b=some o:=by
   rcases aT.mp hb with rfl | hb
   .exact⟨fe.1,_,he⟩
   obtain rfl:b=it:=by simpa using hb
   obtain⟨o,q,_⟩:=hit;exact⟨fi.1,o,q⟩
  obtain⟨n,o,q⟩:=rY;rw [aj (lt b o q)];exact n
 done:=by
  intro X hP hw hK hc i ai s σ H E I hf st hg;subst hP hw hK;obtain⟨xs,hq,hx⟩:=hg;obtain⟨aO,rv,p,hz⟩:=I.tuple hq;obtain⟨⟨old,he⟩,hit⟩:=st;obtain⟨f0,f1,f2,f3,f4,f5⟩:=hf it (by simp);have hl:=rv.length;exact B4 (I.ok.hd hc) he hit (show s.heap.IsTuple a aO.toArray from p) (by simp;omega) λh' eb=>⟨rfl,I.turned (t':=s.toks) (λb o hb e=>eb b o hb e) f0 f1 f3 f4 f5⟩
 self:=λ_ _ _ _ _ st h=>ny st.1.choose_spec h
def Ku (K:aY)(ta:TA):TI:=λσ H R=>ta σ H λvs H1=>Qx vs (bj K H1) λa=>R (rL K a) H1
def mi {X:Cx}{elts:List Expr}{k:Nat}{nR:Pos}{l:Expr}{ta:TA}{p pos:Pos}(hg:Gl X "enumerate")(hm:X.mg "enumerate"=none)(ha:PA X [l] ta)(hs:starEach [l] X.env=[(false,eval l X.env)]:=by rfl) :
  PI X (.Tuple elts k nR) (.Call (.Name "enumerate" p) [l] [] pos) (Ku X.K ta):=by
 intro ai s σ H R I h;refine Call_ (g8 I hg hm oA (v8 (cx (ha pos ai s σ H _ I h) λus s1 aV=>?_) hs rfl));obtain⟨vs,H1,I1,r1,q1⟩:=aV;obtain⟨a,xs,e,hq,q⟩:=q1;subst e;obtain⟨u,rfl,rx⟩:=r1.one;cases rx;obtain⟨aO,rv,pl,hz⟩:=I1.tuple hq;refine zP (show s1.heap.IsTuple a aO.toArray from pl) λh1 he hit hk=>ny he ?_;refine⟨s1.heap.objs.size+1,[s1.heap.objs.size+1,s1.heap.objs.size],_,_,H1,rfl,I1.kept (t':=s1.toks) λb o e=>hk b o e,yo a _ _ (iF (lI _)),⟨⟨_,he⟩,hit⟩,λb hb=>?_,q⟩;rcases aT.mp hb with rfl | hb
 .exact I1.qX (gU _) (I1.bD.fresh (gU _))
 obtain rfl:b=s1.heap.objs.size:=by simpa using hb
 exact I1.qX (aK _) (I1.bD.fresh (aK _))
section
variable {K:aY}{a D:Addr}{xs:List V}{ts:List Str}{js:List (Nat×Str)}{g:TG}{tif:TT}{te:TE}{R:Hp->Prop}{σ:St}{H:Hp}
def iZ (Pv:Nat->List V->St->Hp->Prop)(h0:Pv 0 [] (eE ts js σ) (upd H D (.lst [])))(hl:∀i ys σ H,i<=xs.length->Pv i ys σ H->bj K H a xs)
  (hs:∀i x ys σ H,xs[i]?=some x->Pv i ys σ H->g x σ H λσ2 H2=>tif σ2 H2 λb H3=>if b=true then te σ2 H3 λy H4=>H4 D=some (.lst ys)/\ys.length < sizeLine/\Pv (i+1) (ys++[y]) σ2 (upd H4 D (.lst (ys++[y]))) else Pv (i+1) ys σ2 H3)
  (hd:∀ys σ H,Pv xs.length ys σ H->R H) :
  ∃W:Nat->Nat->List V->St->Hp->Prop,(∃m,W 0 m [] (eE ts js σ) (upd H D (.lst []))) /\
 ∀i m ys σ' H,W i m ys σ' H->((rK K a).stop i H/\R H)\/((rK K a).go i H/\∃m',m' < m/\∀x H',(rK K a).nO i H x H'->g x σ' H' λσ2 H2=>tif σ2 H2 λb H3 =>
  if b=true then te σ2 H3 λy H4=>H4 D=some (.lst ys)/\ys.length < sizeLine/\W (i+1) m' (ys++[y]) σ2 (upd H4 D (.lst (ys++[y]))) else W (i+1) m' ys σ2 H3):=by
 refine⟨λi m ys σ H=>m=xs.length - i/\i<=xs.length/\Pv i ys σ H,⟨xs.length,by simp,dC _,h0⟩,?_⟩;rintro i m ys σ' H ⟨rfl,hi,p⟩;have q:=hl i ys σ' H hi p;by_cases i4:i < xs.length
 .refine .inr ⟨⟨xs,xs[i],q,by simp [i4]⟩,xs.length - (i+1),∅,λx H' y=>?_⟩;obtain⟨e,y⟩:=y;subst e;have z:=hs i x ys σ' _ (y xs q) p;have h1:(i+1<=xs.length)=True:=eq_true i4;simp only [h1,true_and];exact z
 have e:i=xs.length:=by omega
 subst e;exact .inl ⟨⟨xs,q,aK _⟩,hd ys σ' H p⟩
def xA (Pv:Nat->List V->St->Hp->Prop)(h0:Pv 0 [] (eE ts js σ) (upd H D (.lst [])))(hl:∀i ys σ H,i<=xs.length->Pv i ys σ H->bj K H a xs)
  (hs:∀i x ys σ H t,xs[i]?=some x->Pv i ys σ H->H t=none->g (.ref t) σ (upd H t (.tup [.int (i:Int),x])) λσ2 H2=>tif σ2 H2 λb H3=>if b=true then te σ2 H3 λy H4=>H4 D=some (.lst ys)/\ys.length < sizeLine/\Pv (i+1) (ys++[y]) σ2 (upd H4 D (.lst (ys++[y]))) else Pv (i+1) ys σ2 H3)
  (hd:∀ys σ H,Pv xs.length ys σ H->R H) :
  ∃W:Nat->Nat->List V->St->Hp->Prop,(∃m,W 0 m [] (eE ts js σ) (upd H D (.lst []))) /\
 ∀i m ys σ' H,W i m ys σ' H->((rL K a).stop i H/\R H)\/((rL K a).go i H/\∃m',m' < m/\∀x H',(rL K a).nO i H x H'->g x σ' H' λσ2 H2=>tif σ2 H2 λb H3 =>
  if b=true then te σ2 H3 λy H4=>H4 D=some (.lst ys)/\ys.length < sizeLine/\W (i+1) m' (ys++[y]) σ2 (upd H4 D (.lst (ys++[y]))) else W (i+1) m' ys σ2 H3):=by
 refine⟨λi m ys σ H=>m=xs.length - i/\i<=xs.length/\Pv i ys σ H,⟨xs.length,by simp,dC _,h0⟩,?_⟩;rintro i m ys σ' H ⟨rfl,hi,p⟩;have q:=hl i ys σ' H hi p;by_cases i4:i < xs.length
 .refine .inr ⟨⟨xs,xs[i],q,by simp [i4]⟩,xs.length - (i+1),∅,λx H' y=>?_⟩;obtain⟨t,y0,rfl,ht,rfl,y⟩:=y;have z:=hs i y0 ys σ' _ t (y xs q) p ht;have h1:(i+1<=xs.length)=True:=eq_true i4;simp only [h1,true_and];exact z
 have e:i=xs.length:=by omega
 subst e;exact .inl ⟨⟨xs,q,aK _⟩,hd ys σ' H p⟩
end
def jP {K:aY}{a:Addr}{xs:List V}{g:TG}{tb:TS}{D:Ends}{σ:St}{H:Hp}(Pv:Nat->St->Hp->Prop)(h0:Pv 0 σ H)(hl:∀i σ H,i<=xs.length->Pv i σ H->aH K H a xs)
  (hs:∀i x σ H t,xs[i]?=some x->Pv i σ H->H t=none->g (.ref t) σ (upd H t (.tup [.int (i:Int),x])) λσ2 H2=>tb { D with nx:=Pv (i+1),ct:=Pv (i+1),bk:=D.nx } σ2 H2)(hd:∀σ H,Pv xs.length σ H->D.nx σ H) :
  ∃W:Nat->Nat->St->Hp->Prop,(∃m,W 0 m σ H)/\∀i m σ H,W i m σ H ->
   ((Pf K a).stop i H/\D.nx σ H)\/((Pf K a).go i H/\∃N:St->Hp->Prop,(∀σ' H',N σ' H'->∃m',m' < m/\W (i+1) m' σ' H')/\∀x H',(Pf K a).nO i H x H'->g x σ H' λσ2 H2=>tb { D with nx:=N,ct:=N,bk:=D.nx } σ2 H2):=by
 refine⟨λi m σ H=>m=xs.length - i/\i<=xs.length/\Pv i σ H,⟨xs.length,by simp,dC _,h0⟩,?_⟩;rintro i m σ H ⟨rfl,hi,p⟩;have q:=hl i σ H hi p;by_cases i4:i < xs.length
 .refine .inr ⟨⟨xs,xs[i],q,by simp [i4]⟩,Pv (i+1),λσ' H' p'=>⟨xs.length - (i+1),∅,rfl,i4,p'⟩,λx H' y=>?_⟩;obtain⟨t,y0,rfl,ht,rfl,y⟩:=y;exact hs i y0 σ _ t (y xs q) p ht
 have e:i=xs.length:=by omega
 subst e;exact .inl ⟨⟨xs,q,aK _⟩,hd σ H p⟩
def ow {K:aY}{a:Addr}{xs:List V}{g:TG}{tb:TS}{D:Ends}{σ:St}{H:Hp}(Pv:Nat->St->Hp->Prop)(h0:Pv 0 σ H)(hl:∀i σ H,i<=xs.length->Pv i σ H->bj K H a xs)
  (hs:∀i x σ H t,xs[i]?=some x->Pv i σ H->H t=none->g (.ref t) σ (upd H t (.tup [.int (i:Int),x])) λσ2 H2=>tb { D with nx:=Pv (i+1),ct:=Pv (i+1),bk:=D.nx } σ2 H2)(hd:∀σ H,Pv xs.length σ H->D.nx σ H) :
  ∃W:Nat->Nat->St->Hp->Prop,(∃m,W 0 m σ H)/\∀i m σ H,W i m σ H ->
   ((rL K a).stop i H/\D.nx σ H)\/((rL K a).go i H/\∃N:St->Hp->Prop,(∀σ' H',N σ' H'->∃m',m' < m/\W (i+1) m' σ' H')/\∀x H',(rL K a).nO i H x H'->g x σ H' λσ2 H2=>tb { D with nx:=N,ct:=N,bk:=D.nx } σ2 H2):=by
 refine⟨λi m σ H=>m=xs.length - i/\i<=xs.length/\Pv i σ H,⟨xs.length,by simp,dC _,h0⟩,?_⟩;rintro i m σ H ⟨rfl,hi,p⟩;have q:=hl i σ H hi p;by_cases i4:i < xs.length
 .refine .inr ⟨⟨xs,xs[i],q,by simp [i4]⟩,Pv (i+1),λσ' H' p'=>⟨xs.length - (i+1),∅,rfl,i4,p'⟩,λx H' y=>?_⟩;obtain⟨t,y0,rfl,ht,rfl,y⟩:=y;exact hs i y0 σ _ t (y xs q) p ht
 have e:i=xs.length:=by omega
 subst e;exact .inl ⟨⟨xs,q,aK _⟩,hd σ H p⟩
section
variable {prog:Program}{w:World}{K:Type} [DecidableEq K] {knd:KeyKind prog w K}{A:Around}{E:Value->Shared->Prop}
def r_ {s:Shared}{d l:Addr}{items:Array Value}{n:Nat}{kvs more:List (K×Value)}{Q:Value->Shared->Prop}(hh:A.handled=none)(rP:s.heap.DictOf knd d kvs)(hx:s.heap.get? l=some { cls:=.type "list",data:=.seq items n })
  (hi:items.size=more.length)(hp:∀(m:Nat) kv,more[m]?=some kv->∃u,items[m]?=some u/\lh knd s.heap u kv)(hz:kvs.length+more.length<=sizeLine)
  (h:∀h' t',h'.DictOf knd d (more.foldl (λa p=>stored a p.1 p.2) kvs)->(∀b o,b≠d->s.heap.get? b=some o->h'.get? b=some o)->Q .none { s with heap:=h',toks:=t' }) :
  wpAny (model prog w) A (call (.builtin "dict.update") [.ref d,.ref l]) Q E s:=by
 refine hZ (oM yc.plain PySem.F.entry_dict_update (yc.check _ _ _ _ _ _ _ _ rP.typeIs (PySem.F.args_dict_update_2 _ _) ?_));unfold Builtin.«dict.update»;refine aB ?_;unfold Builtin.Dict.selfAndRest;refine aB (wpAny_notOrdered_dict rP.typeIs ?_);show wpAny _ _ (pure (d,[Value.ref l])) _ _ s;refine aR ?_;show wpAny _ _ (Builtin.Dict.updateFrom "dict.update" d (.ref l) [] .none) _ _ s;unfold Builtin.Dict.updateFrom;refine aB (ky (T := "list") ⟨_,hx,rfl⟩ ?_);rw [ay yr];refine aB (oj hx hh λh1 t1 k1=>?_);refine aB (wpAny_rule ?_);have l1:=k1 _ _ hx;refine aB (j_ ⟨_,l1,rfl,_,rfl⟩ ?_);have k2:∀b o,s.heap.get? b=some o->(h1.push { cls:=.type "list_iterator",data:=.fields #[.ref l,.int 0 0] }).get? b=some o:=λb o q=>bC _ (k1 _ _ q);refine aR ⟨m_ d_ _,E5 (knd:=knd) (A:=A) (l:=l) (items:=items) hh more 0 _ kvs _ _ (by rw [hi,kC]) ?_ ⟨_,cI _ rfl,rfl,rfl⟩ ⟨_,k2 _ _ hx,rfl,n,rfl⟩ (λm kv e=>?_) hz λh' t' hd k3=>?_⟩
 .obtain⟨o,es,ep,q,r⟩:=rP;exact⟨o,es,ep,k2 _ _ q,r⟩
 .obtain⟨u,e1,e2⟩:=hp m kv e;exact⟨u,by rw [kC];exact e1,e2.keep λb o _ q=>k2 b o q⟩
 exact h h' t' hd λb o n q=>k3 b o n (bx (aS (k1 _ _ q))) (k2 b o q)
end
section
variable {X:Cx}{o e:Expr}{apos gu:Pos}{td ty:TE}
def MT (K:aY)(td ty:TE):TE:=λσ H Q=>td σ H λx H1=>∃a,x=.ref a/\QB H1 a/\ty σ H1 λy H2=>∃l ts kvs more,y=.ref l/\H2 a=some (.dK kvs)/\H2 l=some (.lst (ts.map V.ref)) /\
 Paired (λt kv=>bj K H2 t [kV kv.1,kv.2]) ts more/\kvs.length+more.length<=sizeLine/\Q .dP (upd H2 a (.dK (cO more kvs)))
def GO (hc:X.calm=true)(ho:PE X o td)(he:PE X e ty)(m:M1 X o "update" apos e gu):PE X (.Call (.Attribute o "update" apos) [e] [] gu) (MT X.K td ty):=by
 intro ai s σ H Q I h;refine wpAny_Call_method m.base m.Qe m.line ya yc PySem.F.type_dict_update (cx (ho ai s σ H _ I h) λu s1 aV=>?_);obtain⟨x,H1,I1,rx,a,ex,d,q1⟩:=aV;subst ex;obtain rfl:u=Value.ref a:=rx;obtain⟨t1,t2,_⟩:=zx I1 d;refine⟨t1,t2,?_⟩;rw [m.trees];refine ux rfl (uj (nH (cx (he ai s1 σ H1 _ I1 q1) λiv s2 aV=>?_)));obtain⟨y,H2,I2,ry,l,ts,kvs,more,ey,ea,el,p,hz,q2⟩:=aV;refine Calls.spliced_nil ?_;subst ey;cases (show iv=Value.ref l from ry);obtain⟨z,Wh,vs,rel,dd⟩:=xn I2.bD ea;obtain⟨z2,aO,n,rv,hl⟩:=(show bU X.prog X.w H2 s2.heap l (.lst _) from I2.bD l _ el);obtain⟨ms,r1,r2⟩:=pairs_at I2 p rv;have l1:=bM r2;have l2:=r1.length;have l3:=bM p;refine r_ (I2.ok.hd hc) dd hl (by simpa using l1) (λm kv em=>?_) (by rw [<-rel.length,<-l2];exact hz) λh' t' hd kk=>?_
 .obtain⟨u,e1,e2⟩:=Paired.at_ r2 m kv em;exact⟨u,by simpa using e1,e2⟩
 have hn:(cO more kvs).length<=sizeLine:=df (q_ more kvs) hz;have he:∃q,h'.get? a=some q:=let ⟨q,_,_,hq,_⟩:=hd;⟨q,hq⟩;exact⟨.dP,_,I2.write (x:=a) (e:=a) (by rw [ea];exact True.intro) (.inl rfl) (λb q hb z=>kk b q hb z) he (rg hn Wh (q9 r1 rel) hd),rfl,q2⟩
def tR {X:Cx}:dZ X (.builtin "len") (λxs H Q=>∃a kvs,xs=[.ref a]/\H a=some (.dK kvs)/\Q (.int kvs.length) H):=by
 intro ai s σ H xs us Q I r h;obtain⟨a,kvs,rfl,e,q⟩:=h;obtain⟨u,rfl,rx⟩:=vals1 r;cases (show u=Value.ref a from rx);exact OS I (.inl e) λt s' I'=>⟨.int _,H,I',⟨_,rfl⟩,q⟩
end
theorem wV:∀{us:List Value}{ns:List Int},PyProof.Rows.IntsAre us ns->∀ys:List (Int×Tok),us=ys.map (λp=>Value.int p.1 p.2)->ys.map (·.1)=ns
 | _,_,.nil,ys,e=>by
  cases ys with
  | nil=>rfl
  | cons _ _=>cases e
 | _,_,.cons n t h,ys,e=>by
  cases ys with
  | nil=>cases e
  | cons y r =>
   rw [bz] at e;injection e with e1 e2;injection e1 with e3 e4;rw [bz,wV h r e2,e3]
def tQ {X:Cx}(hc:X.calm=true):dZ X (.builtin "sum") (λxs H Q=>∃a ns,xs=[.ref a]/\aH X.K H a (List.map V.int ns)/\Q (.int ns.sum) H):=by
 intro ai s σ H xs us Q I r h;obtain⟨a,ns,rfl,hq,q⟩:=h;obtain⟨u,rfl,rx⟩:=vals1 r;cases rx;obtain⟨aO,rv,pl,hz⟩:=I.list hq;have hi:=intsAre_of rv;have pB:AllInts aO.toArray:=hi.allInts;obtain⟨xs,e⟩:=pB.items;have hl:=pl.isList;rw [e] at hl;refine sum_intListG (I.ok.hd hc) hl λh' tk t' hk=>⟨.int _,H,I.kept hk,⟨_,rfl⟩,?_⟩;have e5:xs.toList.map (·.1)=ns:=wV hi xs.toList (by
  have:=congrArg Array.toList e;simpa [intItems] using this)
 have e6:preSum (numAt xs) xs.size=ns.sum:=by
  rw [preSum_eq,e5,qo (by rw [<-e5];simp)]
 rw [e6];exact q
def Lc (o:Obj):Nat:=match o.data with
 | .dict _ ep=>ep
 | _=>0
def Pg (d:Addr)(o:Obj)(kvs:List (aN×V)):It :=
 ⟨λi H=>H d=some (.ju o (.dK kvs))/\i < kvs.length,λi H x H'=>H'=H/\∃kv,kvs[i]?=some kv/\x=kV kv.1,λi H=>H d=some (.ju o (.dK kvs))/\kvs.length<=i⟩
def zH {X:Cx}{ai:List (Addr×Obj)}{σ:St}{H:Hp}{s:Shared}{d:Addr}{o:Obj}{kvs:List (aN×V)}(I:Inv X ai σ H s)(e:H d=some (.ju o (.dK kvs))) :
  (d == sysModules)=false/\∃vs,KV kvs vs/\s.heap.DictAt (aX X.prog X.w) d vs (Lc o):=by
 obtain⟨ho,hz,hs,vs,r,o',es,ep,h1,h2,h3,h4⟩:=(show bU X.prog X.w H s.heap d (.ju o (.dK kvs)) from I.bD d _ e);rw [ho] at h1;cases h1;refine⟨hs,vs,r,o,es,ho,h2,?_,h4⟩;unfold Lc;rw [h3]
def Bf {P:Program}{w:World}{K:aY}{tg:Expr}(d it:Addr)(o:Obj)(kvs:List (aN×V)):Turn P w K tg (Pg d o kvs) [it] it (λi h=>h.IsKeyIter it d i kvs.length (Lc o)) where
 mem:=by simp
 obj:=λi h st b hb=>by
  have e:b=it:=by simpa using hb
  subst e;obtain⟨o,e,c,d⟩:=st;exact⟨o,e,λv z=>by rw [d] at z;cases z⟩
 keep:=λi h h' st k=>let ⟨o,e,r⟩:=st;⟨o,k it (by simp) o e,r⟩
 item:=by
  intro X hP hw hK hc i ai s σ H E I hf st hg;subst hP hw hK;obtain⟨hq,hi⟩:=hg;obtain⟨hs,vs,r,da⟩:=zH I hq;have l:=r.length;obtain⟨kv,Ql⟩:∃kv,kvs[i]?=some kv:=⟨kvs[i],eG hi⟩;obtain⟨q,eq⟩:∃q,vs[i]?=some q:=⟨vs[i]'∅,eG ∅⟩;have ek:kv.1=q.1:=by
   have:=congrArg (λl:List aN=>l[i]?) r.keys;simp only [bH,Ql,eq] at this;exact ib this
  obtain⟨f0,f1,f2,f3,f4,f5⟩:=hf it (by simp);rw [l] at st;refine wpAny_pyNext_dict_item (k:=q.1) (v:=q.2) st da eq λkey h' hk sN sb=>?_;have I1:Inv X ai σ H { s with heap:=h' }:=I.turned (t':=s.toks) (λb o hb e=>(sb.2 b hb).trans e) f0 f1 f3 f4 f5;obtain⟨o2,e,c,dd⟩:=id sN;rw [<-l] at sN;exact⟨key,rfl,AQ (s:={ s with heap:=h' }) e c dd nofun ⟨kV kv.1,H,I1,by rw [ek];exact Ir hk,⟨rfl,kv,Ql,rfl⟩,sN,λb hb=>(hf b hb).1⟩⟩
 done:=by
  intro X hP hw hK hc i ai s σ H E I hf st hg;subst hP hw hK;obtain⟨hq,hi⟩:=hg;obtain⟨hs,vs,r,da⟩:=zH I hq;have l:=r.length;obtain⟨f0,f1,f2,f3,f4,f5⟩:=hf it (by simp);rw [l] at st;exact wpAny_pyNext_dict_end (I.ok.hd hc) st da (List.getElem?_eq_none ∅) λh' eb=>⟨rfl,I.turned (t':=s.toks) (λb o hb e=>eb b o hb e) f0 f1 f3 f4 f5⟩
 self:=λ_ _ _ _ _ st h=>wpAny_pyIter_keyiter st h
def NR (tl:TE):TI:=λσ H R=>tl σ H λx H1=>∃d kvs,x=.ref d/\H1 d=some (.dK kvs)/\∀o,R (Pg d o kvs) (upd H1 d (.ju o (.dK kvs)))
def Az {X:Cx}{tg l:Expr}{tl:TE}(hl:PE X l tl):PI X tg l (NR tl):=by
 intro ai s σ H R I h;refine cx (hl ai s σ H _ I h) λv s1 aV=>?_;obtain⟨x,H1,I1,r1,q1⟩:=aV;obtain⟨d,kvs,e,hd,q⟩:=q1;subst e;cases r1;obtain⟨hz,hs,vs,r,o,es,ep,h1,h2⟩:=(show bU X.prog X.w H1 s1.heap d (.dK kvs) from I1.bD d _ hd);have I2:Inv X ai σ (upd H1 d (.ju o (.dK kvs))) { s1 with heap:=s1.heap,toks:=s1.toks }:=I1.write (x:=d) (e:=d) (by rw [hd];exact True.intro) (.inl rfl) (λb u _ e=>e) ⟨o,h1⟩ ⟨h1,hz,hs,vs,r,o,es,ep,h1,h2⟩;have e2:upd H1 d (.ju o (.dK kvs)) d=some (.ju o (.dK kvs)):=af;obtain⟨_,Vo,r2,da⟩:=zH I2 e2;have q2:=q o;generalize upd H1 d (.ju o (.dK kvs))=H2 at I2 e2 q2;refine wpAny_pyIter_dict hs da ?_;refine⟨s1.heap.objs.size,[s1.heap.objs.size],_,_,H2,rfl,I2.kept (t':=s1.toks) λb o e=>bC _ e,Bf d _ o kvs,⟨_,cI _ rfl,rfl,by rw [r2.length];rfl⟩,λb hb=>?_,q2⟩;have e:b=s1.heap.objs.size:=by simpa using hb
 subst e;exact I2.qX (aK _) (I2.bD.fresh (aK _))
section
variable {d D:Addr}{o:Obj}{kvs:List (aN×V)}{ts:List Str}{js:List (Nat×Str)}{g:TG}{tif:TT}{te:TE}{R:Hp->Prop}{σ:St}{H:Hp}
def rA (Pv:Nat->List V->St->Hp->Prop)(h0:Pv 0 [] (eE ts js σ) (upd H D (.lst [])))(hl:∀i ys σ H,i<=kvs.length->Pv i ys σ H->H d=some (.ju o (.dK kvs)))
  (hs:∀i kv ys σ H,kvs[i]?=some kv->Pv i ys σ H->g (kV kv.1) σ H λσ2 H2=>tif σ2 H2 λb H3=>if b=true then te σ2 H3 λy H4=>H4 D=some (.lst ys)/\ys.length < sizeLine/\Pv (i+1) (ys++[y]) σ2 (upd H4 D (.lst (ys++[y]))) else Pv (i+1) ys σ2 H3)
  (hd:∀ys σ H,Pv kvs.length ys σ H->R H) :
  ∃W:Nat->Nat->List V->St->Hp->Prop,(∃m,W 0 m [] (eE ts js σ) (upd H D (.lst []))) /\
 ∀i m ys σ' H,W i m ys σ' H->((Pg d o kvs).stop i H/\R H)\/((Pg d o kvs).go i H/\∃m',m' < m/\∀x H',(Pg d o kvs).nO i H x H'->g x σ' H' λσ2 H2=>tif σ2 H2 λb H3 =>
  if b=true then te σ2 H3 λy H4=>H4 D=some (.lst ys)/\ys.length < sizeLine/\W (i+1) m' (ys++[y]) σ2 (upd H4 D (.lst (ys++[y]))) else W (i+1) m' ys σ2 H3):=by
 refine⟨λi m ys σ H=>m=kvs.length - i/\i<=kvs.length/\Pv i ys σ H,⟨kvs.length,by simp,dC _,h0⟩,?_⟩;rintro i m ys σ' H ⟨rfl,hi,p⟩;have q:=hl i ys σ' H hi p;by_cases i4:i < kvs.length
 .refine .inr ⟨⟨q,i4⟩,kvs.length - (i+1),∅,λx H' y=>?_⟩;obtain⟨e,kv,Ql,rfl⟩:=y;subst e;have z:=hs i kv ys σ' _ Ql p;have h1:(i+1<=kvs.length)=True:=eq_true i4;simp only [h1,true_and];exact z
 have e:i=kvs.length:=by omega
 subst e;exact .inl ⟨⟨q,aK _⟩,hd ys σ' H p⟩
end
def tO {A:Around}{s:Shared}{l b:Addr}{ys xs:List Int}{aO jd:List Value}(r:aU (ys.map V.int) aO)(r2:aU (xs.map V.int) jd)(hl:s.heap.IsList l aO.toArray)(hb:s.heap.IsList b jd.toArray)(ne:l≠b)(hu:A.units < cLine) :
  SeqAt.EqAt A s (.ref l) (.ref b) (decide (ys=xs)):=by
 have l1:=r.length;have l2:=r2.length;rw [aC] at l1 l2;by_cases bI:ys.length=xs.length
 .have h:=SeqAt.RcAt.lists (A:=A) (e:=λj=>decide (ys[j]?=xs[j]?)) hl hb (by simp only [b8];omega) hu λj h1 h2=>?_
  .have e:((List.range aO.toArray.size).all λj=>decide (ys[j]?=xs[j]?))=decide (ys=xs):=by
    rw [iH,fY,decide_eq_true_iff];constructor
    .intro h;refine List.ext_getElem? λj=>?_;by_cases c:j < ys.length
     .exact d5 (h j (lE.mpr (by simp only [b8];omega)))
     rw [List.getElem?_eq_none ∅,List.getElem?_eq_none ∅]
    intro h j _;rw [h];exact gC rfl
   rw [e] at h;exact .of_refs ne h
  have k1:j < aO.length:=by simpa using h1
  have k2:j < jd.length:=by simpa using h2
  have e1:ys[j]?=some (ys[j]'∅):=eG ∅;have e2:xs[j]?=some (xs[j]'∅):=eG ∅;obtain⟨u1,f1,q1⟩:=r.get (show (ys.map V.int)[j]?=some (.int (ys[j]'∅)) by rw [bH,e1];rfl);obtain⟨u2,f2,q2⟩:=r2.get (show (xs.map V.int)[j]?=some (.int (xs[j]'∅)) by rw [bH,e2];rfl);have g1:aO.toArray[j]=u1:=by
   have:=(bR.mp f1).2;simpa using this
  have g2:jd.toArray[j]=u2:=by
   have:=(bR.mp f2).2;simpa using this
  rw [g1,g2,e1,e2];obtain⟨t1,rfl⟩:=q1;obtain⟨t2,rfl⟩:=q2;have:=SeqAt.EqAt.int_int (A:=A.in1) (s:=s) (ys[j]'∅) t1 (xs[j]'∅) t2;have e3:(ys[j]'∅ == xs[j]'∅)=decide (some (ys[j]'∅)=some (xs[j]'∅)):=by
   rw [iH,beq_iff_eq,decide_eq_true_iff,Option.some.injEq]
  rw [e3] at this;exact this
 have h:=SeqAt.RcAt.lists_lengths (A:=A) hl hb (by simp only [b8,bne_iff_ne];omega) hu;rw [eM (λz=>bI (by rw [z]))];exact .of_refs ne h
def Bo {X:Cx}(hu:X.A.units+1 < cLine):oB X (compareOp .In) (λx y H Q=>∃t a l1 l2 xs ys zs,x=.ref a/\y=.ref t/\bj X.K H t [.ref l1,.ref l2]/\aH X.K H a (List.map V.int xs)/\aH X.K H l1 (List.map V.int ys)/\aH X.K H l2 (List.map V.int zs)/\l1≠a/\l2≠a /\
  Q (.bl (decide (ys=xs) || decide (zs=xs))) H):=by
 intro ai s σ H x y v u Q I rx ry h;obtain⟨t,a,l1,l2,xs,ys,zs,rfl,rfl,ht,ha,h1,h2,n1,n2,q⟩:=h;cases rx;cases ry;obtain⟨aO,r,pl,hz⟩:=I.tuple ht;obtain⟨u1,u2,rfl,q1,q2⟩:=vals2 r;cases (show u1=Value.ref l1 from q1);cases (show u2=Value.ref l2 from q2);obtain⟨xa,ra,pa,za⟩:=I.list ha;obtain⟨x1,r1,p1,z1⟩:=I.list h1;obtain⟨x2,r2,p2,z2⟩:=I.list h2;have e1:=tO (A:=X.A.in1) (s:=s) r1 ra p1.isList pa.isList n1 hu;have e2:=tO (A:=X.A.in1) (s:=s) r2 ra p2.isList pa.isList n2 hu;refine SeqAt.in_tupleAt (λy=>if y == .ref l1 then decide (ys=xs) else decide (zs=xs)) (show s.heap.IsTuple t #[.ref l1,.ref l2] from pl) (λy hy=>?_) ?_
 .have P0:y=.ref l1\/y=.ref l2:=by simpa using hy
  by_cases c:y=.ref l1
  .subst c;rw [ay (qe _)];exact e1
  rcases P0 with z | z
  .exact absurd z c
  subst z;rw [av (λq=>c (eq_of_beq q))];exact e2
 refine⟨.bl (decide (ys=xs) || decide (zs=xs)),H,I,?_,q⟩
 show Value.bool _=Value.bool _
 congr 1
 by_cases c:l2=l1
 .subst c;have e3:=I.mw h1 h2;have e4:ys=zs:=by
   have:=congrArg (List.map λv:V=>match v with | .int n=>n | _=>0) e3
   simpa [h_,Function.comp_def] using this
  subst e4;simp
 simp [c]
def ik {X:Cx}{elt iter tg:Expr}{iy:Nat}{y:Str}{py M3:Pos}{ifs:List Expr}{scope:Scope}{pos:Pos}{wi:TI}{g:TG}{tif:TT}{te:TE}(ts:List Str)(js:List (Nat×Str))(hN:X.N.Nodup)(hiy:X.N[iy]?=some y)(hy:X.env.scope.names.lookup y=some .local)(hc:X.calm=true)(hi:PI X tg iter wi)
  (cp:HJ X scope js)(iV:∀y∈scope.names,y.2≠.cell)(iU:scope.kind=.function)
  (zA:∀y∈scope.names,y.2=.local->scope.names.lookup y.1=some .local)
  (hg:∀cl C s1 H1 fp,PG (rh X scope cl C s1 H1 (ts++js.map (·.2)) fp) tg g)
  (Tc:∀cl C s1 H1 fp,Ct (rh X scope cl C s1 H1 (ts++js.map (·.2)) fp) ifs tif)(he:∀cl C s1 H1 fp,PE (rh X scope cl C s1 H1 (ts++js.map (·.2)) fp) elt te)
  (hsw:swapsWith (.ListComp elt [⟨tg,iter,ifs,0⟩] scope pos) (some (.Name y py)) M3.line X.env=pure true:=by rfl)(hs:∀x,foldedSetIterable iter X.env x=pure x:=by intro _;rfl) :
  PS X (.Assign [.Name y py] (.ListComp elt [⟨tg,iter,ifs,0⟩] scope pos) M3) (Js (C1 wi ts js g tif te) (dX iy)):=by
 intro ai s σ H DD I h;rw [exec_Assign_Name_used _ _ _ _ hsw];refine aB (ni (aB ?_));show wpAny _ _ (do let _ <-comprehension (.ListComp elt [⟨tg,iter,ifs,0⟩] scope pos) scope X.env _ (newList []) false (eval iter X.env) (some (assign (.Name y py) X.env))) _ _ s;obtain⟨cl,oq⟩:=vH (env:=X.env) (scope:=scope) λy hy=>I.ok.has y (.inl (cp.all y hy));refine aB (cw (wpAny_comprehension_free (use:=some (assign (.Name y py) X.env)) (Q:=λ_ s'=>SP X ai DD .next s') rfl hs oq.eq iU zA (cx (hi ai s σ H _ I h) λv s1 h1=>cx h1 λPY s2 h2=>?_)) (λ_ s' hq=>aR (aR hq)) λ_ _ e=>e);obtain⟨it,fp,tn,J,H2,e,I2,T,FC,f2,h2⟩:=h2;subst e;obtain⟨W,⟨m0,w0⟩,turn⟩:=h2 s2.heap.objs.size I2.fresh;have EH:∀b∈fp,b < s2.heap.objs.size:=λb hb=>by obtain⟨o,e,_⟩:=T.obj _ _ FC b hb;exact aS e
 refine nv (wpAny_newFunctionEnv iV (by intro y hy;simp at hy) (λh₁ zz vx=>?_) iU);dsimp only at zz vx ⊢;generalize K0:s2.heap.push { cls:=.type "list",dict:=none,data:=.seq ([]:List Value).toArray }=G2 at zz vx ⊢;have Hl:G2.objs.size=s2.heap.objs.size+1:=by rw [<-K0,i6]
 have TN:s2.heap.objs.size≠G2.objs.size:=by rw [Hl];exact bx (lI _)
 have old:∀b o,s2.heap.get? b=some o->h₁.get? b=some o:=λb o e =>
  vx.extBut b o (by rw [Hl];exact bx (uh (aS e))) (bC _ (K0 ▸ bC _ e))
 have BZ:h₁.get? s2.heap.objs.size=some { cls:=.type "list",data:=.seq ([]:List Value).toArray 0 }:=vx.extBut _ _ TN (bC _ (K0 ▸ cI _ rfl));generalize mI:rh X scope cl G2.objs.size s2 H2 (ts++js.map (·.2)) fp=X2;have I4:Inv X2 [] (eE ts js σ) (upd H2 s2.heap.objs.size (.lst [])) { s2 with heap:=h₁,toks:=s2.toks+([]:List (Str×Value)).length }:=by
  rw [<-mI];exact tG I2 f2 EH iU iV cp oq (by rw [Hl];exact lI _) rfl rfl old zz BZ
 have x1:X2.prog=X.prog:=by rw [<-mI];rfl
 have x2:X2.w=X.w:=by rw [<-mI];rfl
 have x3:X2.K=X.K:=by rw [<-mI];rfl
 have x4:X2.calm=true:=by rw [<-mI];exact hc
 have x5:X2.A=X.A:=by rw [<-mI];rfl
 have x6:X2.env=compEnvC scope cl G2.objs.size X.env:=by rw [<-mI];rfl
 have x7:X2.xe=λ_ _=>False:=by rw [<-mI];rfl
 have Te:PG X2 tg g:=by rw [<-mI];exact hg _ _ _ _ _
 have KN:Ct X2 ifs tif:=by rw [<-mI];exact Tc _ _ _ _ _
 have Hi:PE X2 elt te:=by rw [<-mI];exact he _ _ _ _ _
 have MZ:tn 0 h₁:=T.keep _ _ _ FC λb _ o e=>old b o e;have qw:∀{H':Hp}{jo:List (Addr×Obj)},(∀b∈fp,H' b=none)->(∀p∈jo,p.1∉fp)->∀b∈fp,vO X2 jo H' b:=λ{H' jo} hn hp b hb=>by
  have o4:=I4.ok;subst mI;exact⟨hn b hb,(o4.La b hb).1,o4.zJ b hb,.inl hb,(o4.La b hb).2,λp lC=>by
   have je:p∈([]:List (Addr×Obj))++jo:=lC;rw [lG] at je;intro z;exact hp p je (by rw [z];exact hb)⟩
 have fin:∀{s':Shared}{σ':St}{H':Hp},Inv X2 [] σ' H' s'->DD.nx (σ.set iy (some (.ref s2.heap.objs.size))) H' ->
   compPost (model X.prog X.w) X.A X.xe (some (assign (.Name y py) X.env)) (λ_ s'=>SP X ai DD .next s') (.ref s2.heap.objs.size) G2.objs.size (.ok .next) s':=λ{s' σ' H'} J' q=>by
  subst mI;obtain⟨m',KH,_⟩:=J'.loc;have I5:Inv X ai σ H' s':=I2.E8 (s':=s') J'.os J'.base J'.bD J'.bare λb hb=>by
   obtain⟨_,f1,_,f3,f4,f5⟩:=f2 b hb;exact⟨f3,f1,f4,f5⟩
  obtain⟨f0,f1,_,f3,f4,f5⟩:=I2.qX (H':=H') (b:=G2.objs.size) (by rw [Hl];exact gU _) J'.free;show wpAny _ _ (assign (.Name y py) X.env (.ref s2.heap.objs.size)) _ _ s';refine wpAny_assign_Name (sM I5 hN hiy (.inl hy) (v:=.ref s2.heap.objs.size) rfl (λGn I6 aV=>?_) (.inr hy));obtain⟨a,sb,ha⟩:=aV;have Zk:G2.objs.size≠a:=by
   rcases ha with ha | ha
   .rw [ha];exact f1
   exact(f4 _ _ ha).symm
  refine⟨m',KH.sameBut sb Zk,λh' LY=>?_⟩;exact⟨_,H',I6.turned (t':=Gn.toks) (λb o hb e=>(LY.2 b hb).trans e) f0 f1 f3 f4 f5,q⟩
 have loop:∀s₃:Shared,s₃={ s2 with heap:=h₁,toks:=s2.toks+([]:List (Str×Value)).length } ->
   codeAny (model X.prog X.w) X.A (.compLoop (.ListComp elt [⟨tg,iter,ifs,0⟩] scope pos) 0 (.ref it) (.ref s2.heap.objs.size) (compEnvC scope cl G2.objs.size X.env))
    (compPost (model X.prog X.w) X.A X.xe (some (assign (.Name y py) X.env)) (λ_ s'=>SP X ai DD .next s') (.ref s2.heap.objs.size) G2.objs.size) s₃:=by
  rintro s₃ rfl;subst mI;refine oY (λn s'=>∃i ys σ' H',Inv (rh X scope cl G2.objs.size s2 H2 (ts++js.map (·.2)) fp) [] σ' H' s'/\tn i s'.heap/\(∀b∈fp,H' b=none)/\W i n ys σ' H') ?_ m0
   ⟨0,[],_,_,I4,MZ,λb hb=>by rw [aj (bx (EH b hb))];exact(f2 b hb).1,w0⟩
  rintro n s' ⟨i,ys,σ0,H',J',sN,OD,w'⟩;rcases turn i n ys σ0 H' w' with ⟨stop,q⟩ | ⟨go,m',hm,step⟩
  .refine cw (T.done (rh X scope cl G2.objs.size s2 H2 (ts++js.map (·.2)) fp) rfl rfl rfl hc i [] s' _ H' (λ_ _=>False) J' (qw OD (by simp)) sN stop) (λr s4 ⟨hr,J4⟩=>?_) λ_ _ z=>z;subst hr;exact fin J4 q
  refine cw (T.item (rh X scope cl G2.objs.size s2 H2 (ts++js.map (·.2)) fp) rfl rfl rfl hc i [] s' _ H' (λ_ _=>False) J' (qw OD (by simp)) sN go) (λr s4 ⟨u,hr,h4⟩=>?_) λ_ _ z=>z;subst hr;refine cw h4 (λ_ s5 aV=>?_) λ_ _ z=>z;obtain⟨xv,H5,J5,r5,y5,Bh,OC⟩:=aV;have U_:=J5.pinned (qw OC (by simp)) (T.obj _ _ Bh);have back:∀{s7:Shared}{σ7:St}{H7:Hp},Inv (rh X scope cl G2.objs.size s2 H2 (ts++js.map (·.2)) fp) ([]++n6 fp s5.heap) σ7 H7 s7->Inv (rh X scope cl G2.objs.size s2 H2 (ts++js.map (·.2)) fp) [] σ7 H7 s7/\tn (i+1) s7.heap/\∀b∈fp,H7 b=none:=λ{s7 σ7 H7} J7=>by
   refine⟨J7.jA,T.keep _ _ _ Bh λb hb o e=>(J7.pin (b,o) (fZ _ (fZ _ (fQ hb e)))).1,λb hb=>?_⟩;obtain⟨o,e,d⟩:=T.obj _ _ Bh b hb;exact(J7.pin (b,o) (fZ _ (fZ _ (fQ hb e)))).2.1
  show wpAny _ _ (assign tg (rh X scope cl G2.objs.size s2 H2 (ts++js.map (·.2)) fp).env u) _ _ s5;refine cw (Te _ s5 _ H5 xv u _ U_ r5 (step xv H5 y5)) (λ_ s6 aV=>?_) λ_ _ z=>z;obtain⟨σ6,H6,J6,q6⟩:=aV;refine cw (KN _ s6 _ H6 _ J6 q6) (λb s7 aV=>?_) λ_ _ z=>z;obtain⟨H7,J7,q7⟩:=aV;cases b with
  | false =>
   rw [av dS] at q7 ⊢;obtain⟨J8,Q5,T6⟩:=back J7;exact⟨m',hm,i+1,ys,σ6,H7,J8,Q5,T6,q7⟩
  | true =>
   rw [ay rfl] at q7 ⊢;refine cw (Hi _ s7 _ H7 _ J7 q7) (λyv s8 aV=>?_) λ_ _ z=>z;obtain⟨y,H8,J8,r8,TQ,Ss,w8⟩:=aV;refine cw (cA (X:=rh X scope cl G2.objs.size s2 H2 (ts++js.map (·.2)) fp) _ s8 _ H8 (.ref s2.heap.objs.size) [y] (.ref s2.heap.objs.size) [yv] (λv H'=>W (i+1) m' (ys++[y]) σ6 H') J8 rfl (.cons r8 .nil) ⟨s2.heap.objs.size,ys,y,rfl,rfl,TQ,Ss,w8⟩)
    (λ_ s9 ⟨_,H9,J9,_,w9⟩=>?_) λ_ _ z=>z
   obtain⟨Va,Jt,K7⟩:=back J9;exact⟨m',hm,i+1,ys++[y],σ6,H9,Va,Jt,K7,w9⟩
 exact codeAny_compStart_list (loop _ rfl) (T.self _ _ _ _ _ MZ (loop _ rfl))
section
variable {prog:Program}{w:World}{A:Around}{E:Value->Shared->Prop}{s:Shared}
def xH (a b c:Value):argsOk "min" ⟨[a],[("key",b),("default",c)]⟩:=by unfold argsOk;kernel_rfl
def sf {l:Addr}{kf dv:Value}{Q:Value->Shared->Prop}(hh:A.handled=none)(hl:s.heap.IsList l #[])(h:∀h' tk,(∀b o,s.heap.get? b=some o->h'.get? b=some o)->Q dv { s with heap:=h',toks:=tk }) :
  wpAny (model prog w) A (call (.builtin "min") [.ref l] [("key",kf),("default",dv)]) Q E s:=by
 have EE:(toString "min" ++ toString ".loop":String) = "min.loop" := by decide
 refine hZ (oM F.plain_min F.entry_min ?_);have core:wpAny (model prog w) A.in1 (Builtin.«min» ⟨[.ref l],[("key",kf),("default",dv)]⟩) (λfin s'=>match fin with
   | .done f=>(match (Except.ok f:Result) with | .ok (.ret v)=>Q v s' | .ok _=>False | .error e=>E e s')
   | .again c'=>c'.quiet=true/\codeAny (model prog w) A c' (λr s'=>match r with | .ok (.ret v)=>Q v s' | .ok _=>False | .error e=>E e s') s') E s:=by
  show wpAny _ A.in1 (Builtin.Builtins.bindParams "min" ["key","default"] 0 ⟨[],[("key",kf),("default",dv)]⟩ >>= _) _ _ s;refine aB (wpAny_of_eq (show Builtin.Builtins.bindParams "min" ["key","default"] 0 ⟨[],[("key",kf),("default",dv)]⟩=pure [some kf,some dv] from rfl) ?_);refine aB (aR ?_);refine aB (j_ hl ?_);refine aB (nv ?_);rw [EE];obtain⟨ol,h1,h2⟩:=id hl;generalize hG:s.heap.push { cls:=.type "list_iterator",data:=.fields #[.ref l,.int 0 0] }=G;have k1:∀b o,s.heap.get? b=some o->G.get? b=some o:=λb o e=>by rw [<-hG];exact bC _ e
  have hi:G.get? s.heap.objs.size=some { cls:=.type "list_iterator",data:=.fields #[.ref l,.int 0 0] }:=by rw [<-hG];exact cI _ rfl
  refine aR ⟨m_ F.plain_min_loop _,nq F.entry_min_loop ?_⟩;rw [qh F.plain_min_loop _];show wpAny _ A.in1 (seqItems? (.ref G.objs.size) >>= _) _ _ _;refine aB (p6 (cI _ rfl) rfl ?_);show wpAny _ A.in1 (tryCatch (pyNext (.ref s.heap.objs.size)) _ >>= _) _ _ _;refine aB (wpAny_tryCatch (uw (show A.in1.handled=none from hh) ⟨_,bC _ hi,rfl,rfl⟩ ⟨ol,bC _ (k1 _ _ h1),h2⟩ (by simp) λh' eb=>?_));refine aB (wpAny_rule (aR ?_));exact h h' _ λb o e=>eb b o (bx (aS e)) (bC _ (k1 b o e))
 simp only [checkBuiltinCall,F.kind_min];cases SD:Manifest.signature? "min" with
 | none=>exact aR core
 | some sig =>
  have ha':Bind.checkArgs "min" sig ⟨[.ref l],[("key",kf),("default",dv)]⟩=pure ():=by have:=xH (.ref l) kf dv;simpa only [argsOk,SD] using this
  simp only [ha'];exact aR core
end
def MM (K:aY)(t:TA)(td:TE):TE:=λσ H Q=>t σ H λvs H1=>td σ H1 λdv H2=>∃a,vs=[.ref a]/\aH K H2 a []/\Q dv H2
def GI {X:Cx}{p pos lp Sj Er:Pos}{e e2:Expr}{t:TA}{td:TE}(hc:X.calm=true)(hg:Gl X "min")(hm:X.mg "min"=none)(Td:Gl X "len")(hm2:X.mg "len"=none)(ha:PA X [e] t)(hd:PE X e2 td)
  (he:backTo pos (starEach [e] X.env)=(false,eval e X.env)::backTo pos (starEach [] X.env):=by rfl)(hp:(backTo pos (starEach [e] X.env)).any (·.1)=false:=by rfl) :
  PE X (.Call (.Name "min" p) [e] [⟨some "key",.Name "len" lp,Sj⟩,⟨some "default",e2,Er⟩] pos) (MM X.K t td):=by
 intro ai s σ H Q I h;refine ka (g8 I hg hm boot_min ?_);refine callWith_kw (cx (ha pos ai s σ H _ I h) λus s1 aV=>?_) he hp rfl rfl;obtain⟨vs,H1,I1,r1,q1⟩:=aV;refine kws_cons (g8 I1 Td hm2 fK (kws_cons (cx (hd ai s1 σ H1 _ I1 q1) λu2 s2 aV=>?_)));obtain⟨dv,H2,I2,r2,a,ev,hs,q⟩:=aV;refine kws_nil ?_;subst ev;obtain⟨u,rfl,rx⟩:=vals1 r1;cases (show u=Value.ref a from rx);obtain⟨aO,rv,pl,hz⟩:=I2.list hs;cases rv;exact sf (I2.ok.hd hc) pl.isList λh' tk kk=>⟨dv,H2,I2.kept (t':=tk) kk,r2,q⟩
def Cf {X:Cx}(hc:X.calm=true):dZ X (.builtin "any") (λxs H Q=>∃(a:Addr)(bs:List Bool),xs=[.ref a]/\aH X.K H a (bs.map V.bl)/\Q (.bl (bs.any id)) H):=by
 intro ai s σ H xs us Q I r h;obtain⟨a,bs,rfl,hq,q⟩:=h;obtain⟨u,rfl,rx⟩:=vals1 r;cases (show u=Value.ref a from rx);obtain⟨aO,rv,pl,hz⟩:=I.list hq;obtain⟨o,h1,h2,m,h3⟩:=id pl.isList;have la:a < s.heap.objs.size:=aS h1;have ln:=rv.length;rw [aC] at ln;have Sn:∀(i:Nat) v,aO.toArray[i]?=some v->v=.bool (bs.getD i true):=λi v e=>by
  have e':aO[i]?=some v:=by simpa using e
  obtain⟨x,e2,e3⟩:=Paired.at_ rv i v e';rw [bH] at e2;obtain⟨b,e4,rfl⟩:=cf.mp e2;rw [oQ,e4];exact e3
 refine call_any_walk (j_ pl.isList ?_);refine⟨s.heap.objs.size,_,_,_,_,_,λi=>bs.getD i true,rfl,Walks.list (A:=X.A.in1) (show X.A.in1.handled=none from I.ok.hd hc) s.heap.objs.size a (bx la) aO.toArray,⟨⟨_,cI _ rfl,rfl,rfl⟩,⟨o,bC _ h1,h2,m,h3⟩⟩,?_,λh' tk kk=>?_⟩
 .intro i v s1 Q1 E1 hP TK;rw [Sn i v hP];exact oJ TK
 have e:((List.range aO.toArray.size).any λi=>bs.getD i true)=bs.any id:=by
  rw [b8,<-ln,iH,ua,ua];constructor
  .rintro⟨i,hi,h⟩;have Oe:=lE.mp hi;rw [oQ,eG Oe] at h;exact⟨_,qd Oe,h⟩
  rintro⟨b,hb,h⟩;obtain⟨i,hi,e⟩:=oP.mp hb;refine⟨i,lE.mpr hi,?_⟩;rw [oQ,eG hi,e];exact h
 rw [e];exact⟨.bl _,H,I.kept (t':=tk) λb o' e'=>kk b o' (by simp;exact bx (aS e')) (bC _ e'),rfl,q⟩
def Gv:V->List V->Hp->VK->Prop:=λx vs H Q=>∃l xs i y,x=.ref l/\vs=[.int ((i:Nat):Int),y]/\H l=some (.lst xs)/\i<=xs.length/\xs.length < 1000000/\Q .dP (upd H l (.lst (xs.take i++y::xs.drop i)))
def og {X:Cx}:IY X "list.insert" Gv:=by
 intro ai s σ H x vs v us Q I rx rv h;obtain⟨l,xs,i,y,rfl,rfl,hH,hi,hz,q⟩:=h;cases rx;obtain⟨x,hx⟩:∃x:Int,x=((i:Nat):Int):=⟨_,rfl⟩;rw [<-hx] at rv;obtain⟨u1,u2,rfl,r1,r2⟩:=vals2 rv;obtain⟨t,rfl⟩:=r1;obtain⟨z,aO,n,r,hl,e⟩:=I.BH hH;have ln:=r.length;have h0:Builtin.List.listFitsIndex x=true:=by
  unfold Builtin.List.listFitsIndex;rw [lH,decide_eq_true_iff,decide_eq_true_iff];omega
 have h1:¬(!Builtin.List.listFitsIndex x)=true:=by rw [h0];exact dS
 have hsz:aO.toArray.size<=sizeLine:=by rw [b8,<-ln];exact z
 refine call_meets F.slot_list_insert ⟨_,e,rfl⟩ F.entry_list_insert (F.args_list_insert_3 _ _ _) (AutoListH.list_insert_list_int_val_1 l aO.toArray n x t u2 h1 hsz) ⟨e,?_⟩;refine⟨.dP,_,I.Kf (kY:=aO.take i++u2::aO.drop i) hH e ?_ (aU.append (aU.take i r) (.cons r2 (aU.drop i r))) ?_,rfl,q⟩
 .have k0:(if x < 0 then (x+((aO.toArray.size:Nat):Int)).toNat else min x.toNat aO.toArray.size)=i:=by
   rw [av ∅,hx,lJ,b8];omega
  show ((aO.toArray.extract 0 (if x < 0 then (x+((aO.toArray.size:Nat):Int)).toNat else min x.toNat aO.toArray.size)).push u2++aO.toArray.extract (if x < 0 then (x+((aO.toArray.size:Nat):Int)).toNat else min x.toNat aO.toArray.size))=_;rw [k0];apply Array.ext';simp;exact qo (by simp)
 rw [bZ,cH,fh,oH];exact fits ∅
def Vf (K:aY)(H:Hp):Nat->V->V->Prop
 | 0,x,y=>x=y/\zU x
 | n+1,x,y=>(x=y/\zU x)\/∃a b xs ys,x=.ref a/\y=.ref b/\((aH K H a xs/\aH K H b ys)\/(bj K H a xs/\bj K H b ys))/\Paired (Vf K H n) xs ys
def Vf.self {K:aY}{H:Hp}{x:V}(h:zU x):∀n,Vf K H n x x
 | 0=>⟨rfl,h⟩
 | _+1=>.inl ⟨rfl,h⟩
theorem lt_trans:∀a b c:List Nat,ltCps b a=false->ltCps c b=false->ltCps c a=false
 | [],b,[],_,_=>ltCps.eq_1
 | [],b,_::_,_,_=>ltCps.eq_3 _ _
 | x::r,[],c,h,_=>by rw [ltCps.eq_2] at h;cases h
 | x::r,y::t,[],_,k=>by rw [ltCps.eq_2] at k;cases k
 | x::r,y::t,z::u,h,k=>by
  rw [ltCps.eq_4,Bool.or_eq_false_iff,decide_eq_false_iff_not] at h k ⊢;refine⟨∅,?_⟩;by_cases e:z=x
  .have e1:y=x:=by omega
   subst e;subst e1;have h2:=h.2;have k2:=k.2;rw [qe,p8] at h2 k2 ⊢;exact lt_trans r t u h2 k2
  rw [iJ.mpr e,Bool.false_and]
theorem lQ:∀(tk:Nat) (ts:List Str),aU (ts.map V.str) (strsFrom tk ts)
 | _,[]=>.nil
 | tk,z::ts=>.cons ⟨tk,rfl⟩ (lQ (tk+1) ts)
def JL:V->List V->Hp->VK->Prop:=λx vs H Q=>∃z y:Str,x=.str z/\vs=[.str y]/\y.length≠0/\z.length+2<=sizeLine/\∀l,H l=none->Q (.ref l) (upd H l (.lst ((Txt.split z y).map V.str)))
def mr {X:Cx}:IY X "str.split" JL:=by
 intro ai s σ H x vs v us Q I rx rv h;obtain⟨z,y,rfl,rfl,hy,hz,q⟩:=h;obtain⟨t,rfl⟩:=rx;obtain⟨u,rfl,ru⟩:=rv.one;obtain⟨tu,rfl⟩:=ru;have hle:=split_le z y;have hsz:z.length<=sizeLine:=by omega
 have P0:(y.length == 0)=false:=by simpa using hy
 have fin:∀(aO:List Value) (tk:Nat),aU ((Txt.split z y).map V.str) aO ->
   wants (EP X ai σ Q) X.xe (.ok (.ret (.ref s.heap.objs.size))) { s with toks:=tk,heap:=s.heap.push { cls:=.type "list",data:=.seq aO.toArray } }:=λaO tk r =>
  ⟨.ref s.heap.objs.size,_,I.laid (t':=tk) (λb o e=>bC _ e) (aK _) (show bU X.prog X.w _ _ _ (.lst _) from ⟨by rw [aC];omega,aO,_,r,cI _ rfl⟩),rfl,q _ (I.bD.fresh (aK _))⟩
 cases h1:(decide (z.length < y.length) || decide (Builtin.Str.strKind z < Builtin.Str.strKind y))
 .cases hf:(Builtin.Str.occurrences z y 0 z.length (z.length+1)).isEmpty
  .have e:Txt.split z y=Builtin.Str.partsBetween z (Builtin.Str.occurrences z y 0 z.length (z.length+1)) y.length:=by
    unfold Txt.split;rw [av (by rw [h1];decide),av (by rw [hf];decide)]
   refine call_meets F.slot_str_split (typeIs_str _ _ _) F.entry_str_split (F.args_str_split_2 _ _) (meets_str_split_sep z y t tu h1 P0 hf hsz (by rw [<-e];omega)) ?_;rw [<-e];exact fin _ _ (lQ _ _)
  have e:Txt.split z y=[z]:=by
   unfold Txt.split;rw [av (by rw [h1];decide),ay hf]
  exact call_meets F.slot_str_split (typeIs_str _ _ _) F.entry_str_split (F.args_str_split_2 _ _) (meets_str_split_not_found z y t tu h1 P0 hf)
   (fin [.str z t] s.toks (by rw [e];exact .cons ⟨t,rfl⟩ .nil))
 have e:Txt.split z y=[z]:=by
  unfold Txt.split;rw [ay h1]
 exact call_meets F.slot_str_split (typeIs_str _ _ _) F.entry_str_split (F.args_str_split_2 _ _) (meets_str_split_cannot_occur z y t tu h1)
  (fin [.str z t] s.toks (by rw [e];exact .cons ⟨t,rfl⟩ .nil))
def sg (z:Str):List Nat:=z.cps.toList
def Ju {a b:Str}(h:sg a=sg b):a=b:=Str.ext' (Array.toList_inj.mp h)
def sp (c:Nat):List Nat->List (List Nat)
 | []=>[[]]
 | a::r=>if a=c then []::sp c r else (a::(sp c r).headD [])::(sp c r).tail
def HR (c:Nat):∀l,∃h t,sp c l=h::t
 | []=>⟨_,_,rfl⟩
 | a::r=>by
  unfold sp
  split
  .exact⟨_,_,rfl⟩
  exact⟨_,_,rfl⟩
theorem pL {c:Nat}:∀{l:List Nat},c∉l->sp c l=[l]
 | [],_=>rfl
 | a::r,h=>by
  have h1:¬a=c:=λe=>h (e ▸ bT);have h2:sp c r=[r]:=pL λe=>h (cM _ e);unfold sp;rw [av h1,h2];rfl
theorem yt (c:Nat):∀(a b:List Nat),sp c (a++c::b)=sp c a++sp c b
 | [],b=>by
  show sp c (c::b)=[[]]++sp c b;rw [sp,ay rfl];rfl
 | x::a,b=>by
  show sp c (x::(a++c::b))=sp c (x::a)++sp c b;rw [sp,sp,yt c a b]
  split
  .rfl
  obtain⟨h,t,e⟩:=HR c a;rw [e];rfl
def jn (c:Nat):List (List Nat)->List Nat
 | []=>[]
 | [x]=>x
 | x::y::r=>x++c::jn c (y::r)
theorem C8 {c:Nat}:∀{ps:List (List Nat)},ps≠[]->(∀p∈ps,c∉p)->sp c (jn c ps)=ps
 | [],h,_=>absurd rfl h
 | [x],_,h=>pL (h x bT)
 | x::y::r,_,h=>by
  show sp c (x++c::jn c (y::r))=_;rw [yt,pL (h x bT),C8 (by simp) λp hp=>h p (cM _ hp)];rfl
def nW (a b:Str):sg (a++b)=sg a++sg b:=qi
theorem uS (c:Nat):∀ts:List Str,sg (Str.join ⟨#[c]⟩ ts)=jn c (ts.map sg)
 | []=>rfl
 | [x]=>rfl
 | x::y::r=>by
  show sg (x++⟨#[c]⟩++Str.join ⟨#[c]⟩ (y::r))=sg x++c::jn c ((y::r).map sg);rw [nW,nW,uS c (y::r),gS];rfl
def wu (c:Nat) (ts:List Str):sg (Txt.join ⟨#[c]⟩ ts)=jn c (ts.map sg):=by
 rw [<-uS];exact congrArg sg (so _ _)
def lR (c:Nat)(z:Str):(Txt.split z ⟨#[c]⟩).map sg=sp c (sg z):=by
 have h1:=StrLaws.join_split z ⟨#[c]⟩;have h2:=StrLaws.split_free z c;have h3:=split_pos z ⟨#[c]⟩;have h4:sg z=jn c ((Txt.split z ⟨#[c]⟩).map sg):=by rw [<-uS,h1]
 rw [h4,C8]
 .intro e;rw [List.map_eq_nil_iff] at e;rw [e] at h3;exact absurd h3 nofun
 intro p hp;obtain⟨q,hq,rfl⟩:=cT.mp hp;exact h2 q hq
def wd (l:List Nat):List (List Nat):=(sp 32 l).filter (·≠[])
def uJ (a b:List Nat):wd (a++32::b)=wd a++wd b:=by
 unfold wd;rw [yt,lK]
def yk {l:List Nat}(h:32∉l)(hn:l≠[]):wd l=[l]:=by
 unfold wd;rw [pL h];simp [hn]
def CS:wd []=[]:=rfl
def CQ (k:Nat)(b:List Nat):wd (List.replicate k 32++b)=wd b:=by
 induction k with
 | zero=>rfl
 | succ k ih =>
  show wd ([]++32::(List.replicate k 32++b))=_;rw [uJ,ih];rfl
def Pt (k:Nat)(b:List Nat):wd (b++List.replicate k 32)=wd b:=by
 cases k with
 | zero=>rw [List.replicate_zero,dD]
 | succ k =>
  show wd (b++32::List.replicate k 32)=_;have:=CQ k [];rw [dD] at this;rw [uJ,this,CS,dD]
def Gu:V->List V->Hp->VK->Prop:=λx vs H Q=>∃z y:Str,x=.str z/\vs=[.str y]/\Q (.bl (Txt.startswith z y)) H
def s_ {X:Cx}:IY X "str.startswith" Gu:=by
 intro ai s σ H x vs v us Q I rx rv h;obtain⟨z,y,rfl,rfl,q⟩:=h;obtain⟨t,rfl⟩:=rx;obtain⟨u,rfl,ru⟩:=rv.one;obtain⟨tu,rfl⟩:=ru;exact SC.startswith ⟨.bl _,H,I,rfl,q⟩
def iQ (z:Str) (c:Nat):Txt.startswith z ⟨#[c]⟩=((sg z).head? == some c):=by
 obtain⟨⟨l⟩⟩:=z;unfold Txt.startswith Builtin.Str.subAt sg Str.length;cases l with
 | nil=>rfl
 | cons a l=>simp [iH]
def Gs:V->List V->Hp->VK->Prop:=λx vs H Q=>∃z y:Str,x=.str z/\vs=[.str y]/\z.length<=sizeLine/\Q (.str (Txt.rstripChars z y)) H
def Bz {X:Cx}:IY X "str.rstrip" Gs:=by
 intro ai s σ H x vs v us Q I rx rv h;obtain⟨z,y,rfl,rfl,hz,q⟩:=h;obtain⟨t,rfl⟩:=rx;obtain⟨u,rfl,ru⟩:=rv.one;obtain⟨tu,rfl⟩:=ru;exact SC.rstripChars (λt' k=>⟨.str _,H,I.tok _,⟨_,rfl⟩,q⟩) hz
def ma {z y:Str}{b:Nat}(h:Txt.rstripChars z y=⟨#[b]⟩):(sg z).head?=some b:=by
 obtain⟨j,hj,e⟩:=rstripChars_is_prefix z y;rw [e] at h;have h2:sg (Builtin.Str.strSub z 0 j)=[b]:=by rw [h];rfl
 unfold sg at h2 ⊢;rw [StrLaws.strSub_toList,List.drop_zero,Nat.sub_zero] at h2;cases e3:z.cps.toList with
 | nil=>rw [e3] at h2;simp at h2
 | cons a l =>
  rw [e3] at h2;cases j with
  | zero=>simp at h2
  | succ j =>
   rw [qj] at h2;injection h2 with h3 _;rw [h3];rfl
def Co (n:Nat):Str:=⟨(List.replicate n 32).toArray⟩
def Jv (n:Nat):sg (Co n)=List.replicate n 32:=by unfold sg Co;rw [List.toList_toArray]
def PJ {X:Cx}:oB X (binaryOp .Mult) (λa b H Q=>∃n,a=.str ⟨#[32]⟩/\b=.int ((n:Nat):Int)/\n<=3/\Q (.str (Co n)) H):=by
 intro ai s σ H a b v u Q I ra rb h;obtain⟨n,rfl,rfl,hn,q⟩:=h;obtain⟨t,rfl⟩:=ra;obtain⟨t2,rfl⟩:=rb
 match n,hn,q with
 | 0,_,q=>exact PySem.P.mul_str_none nofun nofun ⟨.str (Co 0),H,I.tok _,⟨_,rfl⟩,q⟩
 | 1,_,q =>
  refine PySem.P.mul_str nofun (λ_ h=>by simp at h) (λ_ h=>by simp at h) ?_;rw [av nofun,ay (by rfl)];exact⟨.str (Co 1),H,I,⟨_,rfl⟩,q⟩
 | 2,_,q =>
  refine PySem.P.mul_str nofun (λ_ _=>by decide) (λ_ _=>by decide) ?_;rw [av nofun,av nofun];exact⟨nofun,⟨.str (Co 2),H,I.tok _,⟨s.toks,rfl⟩,q⟩⟩
 | 3,_,q =>
  refine PySem.P.mul_str nofun (λ_ _=>by decide) (λ_ _=>by decide) ?_;rw [av nofun,av nofun];exact⟨nofun,⟨.str (Co 3),H,I.tok _,⟨s.toks,rfl⟩,q⟩⟩
theorem wa (k:Nat):∀ts:List Str,wd (sg (Str.join (Co (k+1)) ts))=(ts.map λt=>wd (sg t)).flatten
 | []=>rfl
 | [x]=>by simp [Str.join]
 | x::y::r=>by
  show wd (sg (x++Co (k+1)++Str.join (Co (k+1)) (y::r)))=wd (sg x)++((y::r).map λt=>wd (sg t)).flatten;rw [nW,nW,Jv,<-wa k (y::r),gS];show wd (sg x++32::(List.replicate k 32++_))=_;rw [uJ,CQ]
def CP {ps:List (List Nat)}(h:∀p∈ps,32∉p):(ps.map wd).flatten=ps.filter (·≠[]):=by
 induction ps with
 | nil=>rfl
 | cons p ps ih =>
  rw [bz,List.flatten_cons,ih λq hq=>h q (cM _ hq)];by_cases hp:p=[]
  .subst hp;simp [CS]
  rw [yk (h p bT) hp];simp [hp]
def Pr (k:Nat)(z:Str):wd (sg (Txt.join (Co (k+1)) (Txt.split z ⟨#[32]⟩)))=wd (sg z):=by
 have e:Txt.join (Co (k+1)) (Txt.split z ⟨#[32]⟩)=Str.join (Co (k+1)) (Txt.split z ⟨#[32]⟩):=so _ _;rw [e,wa];have h2:=StrLaws.split_free z 32;have e2:((Txt.split z ⟨#[32]⟩).map λt=>wd (sg t))=((Txt.split z ⟨#[32]⟩).map sg).map wd:=by rw [h_];rfl
 rw [e2,CP λp hp=>by
  obtain⟨q,hq,rfl⟩:=cT.mp hp;exact h2 q hq]
 rw [lR];rfl
def mf (c n:Nat):Str:=⟨(List.replicate n c).toArray⟩
def F_ (c n:Nat):sg (mf c n)=List.replicate n c:=by unfold sg mf;rw [List.toList_toArray]
theorem xf (c:Nat):∀(n:Nat)(a:Array Nat),List.foldl (λx1 x2=>x1++x2) a (List.replicate n #[c])=a++(List.replicate n c).toArray
 | 0,a=>by simp
 | n+1,a=>by
  rw [List.replicate_succ,List.foldl_cons,xf c n,List.replicate_succ];apply Array.toList_inj.mp;simp
def pO {X:Cx}:oB X (binaryOp .Mult) (λa b H Q=>∃c n,a=.str ⟨#[c]⟩/\b=.int ((n:Nat):Int)/\1<=n/\n<=15/\Q (.str (mf c n)) H):=by
 intro ai s σ H a b v u Q I ra rb h;obtain⟨c,n,rfl,rfl,h1,OB,q⟩:=h;obtain⟨t,rfl⟩:=ra;obtain⟨t2,rfl⟩:=rb;have l1:(⟨#[c]⟩:Str).length=1:=rfl;refine PySem.P.mul_str (by rw [Bool.or_eq_false_iff];exact⟨eM ∅,eM ∅⟩) (λ_ _ hh=>?_) (λ_ _=>?_) ?_
 .rw [l1] at hh;have:(1:Int)<=(2 ^ 63 - 1) / (n:Int):=(Int.le_ediv_iff_mul_le ∅).mpr ∅;have hh:((1:Nat):Int) > (2 ^ 63 - 1) / (n:Int):=hh;omega
 .rw [l1,Nat.one_mul,lJ];unfold Builtin.Str.tooLong;exact eM (by unfold sizeLine;omega)
 rw [av ∅];by_cases c1:n=1
 .subst c1;rw [ay (by rfl)];exact⟨.str (mf c 1),H,I,⟨_,rfl⟩,q⟩
 rw [av (by rw [l1,Bool.or_eq_true];intro h;rcases h with h | h;exact c1 (by have:=eq_of_beq h;omega);exact absurd h nofun),lJ,xf,Array.empty_append]
 refine⟨?_,⟨.str (mf c n),H,I.tok _,⟨s.toks,rfl⟩,q⟩⟩;show (List.toArray _).size<=sizeLine;rw [b8,ql];exact df OB nofun
abbrev zX:=Nat->St->Hp->Prop
def pF {CX:tZ}{P:Program}{w:World}{K:aY}{mg:Str->Option Value}{base:Heap}{N:List Str}{qual:Str}{scope:Scope}{f:Addr}{cd:Value}{A:Around}{outer:List Env}{s:Shared}{H:Hp}{E:XK}:(gK CX P w K mg base N qual scope f cd A outer s H E).Bw.K=K:=rfl
def Sd {t:TS}{D:Ends}{σ:St}{H:Hp}(h:let E:=D;t E σ H):t D σ H:=h
def Sa {t u:TS}{D:Ends}{σ:St}{H:Hp}(h:let E:={ D with nx:=u D };t E σ H):Jn t u D σ H:=h
def NB {t u:TS}{D:Ends}{σ:St}{H:Hp}(h:let E:=D;let F:={ E with nx:=u E };t F σ H):Jn t u D σ H:=h
def Sb {g:TG}{x:V}{σ:St}{H:Hp}{t:TS}{D:Ends}(h:let E:=D;g x σ H λσ2 H2=>t E σ2 H2):g x σ H λσ2 H2=>t D σ2 H2:=h
end L2
local macro_rules | `(tactic| nofun) => `(tactic| (dsimp only [L2.pF];refine L2.Sa ?_;intro _))
local macro_rules | `(tactic| ac_rfl) => `(tactic| (refine L2.NB ?_;intro _ _))
local macro_rules | `(tactic| ac_nf0) => `(tactic| (refine L2.Sb ?_;intro _))
local macro_rules | `(tactic| ac_nf) => `(tactic| (refine L2.Sd ?_;intro _))
namespace L2
open PySem PySem.Spec PyProof.Rows PySem.W
def jr (c':Addr)(qual:Str):HO:=.ext λh=>h.CodeRec (.ref c') qual
def oh (f:Addr)(o:Obj):HO:=.ext λh=>h.get? f=some o
def xB {P:Program}{w:World}{H:Hp}{h:Heap}{c':Addr}{qual:Str}(hr:h.CodeRec (.ref c') qual):bU P w H h c' (jr c' qual):=by
 obtain⟨c2,oc,vs,t,e,xZ,hd,hv⟩:=id hr;cases e;exact⟨hr,⟨oc,xZ⟩,λh1 h2 ⟨c3,YU,XU,t3,e3,SR,iD,LX⟩ k=>by cases e3;exact⟨_,YU,XU,t3,rfl,k _ SR,iD,LX⟩⟩
def pQ {P:Program}{w:World}{H:Hp}{h:Heap}{f:Addr}{o:Obj}(e:h.get? f=some o):bU P w H h f (oh f o):=⟨e,⟨o,e⟩,λ_ _ q k=>k _ q⟩
def Tab (T:Addr)(pos:Pos)(qual:Str)(H:Hp):Prop :=
 ∃ps,H T=some (.rO ps)/\TriplesOk ps.toList/\(codeAmong pos ps.toList=none\/∃c',codeAmong pos ps.toList=some (.ref c')/\H c'=some (jr c' qual))
def eX (T:Addr)(H H':Hp):Prop:=∀b o,b≠T->H b=some o->H' b=some o
def rN (mg:Str->Option Value)(base:Heap):Prop :=
 ∃bm o,mg "__builtins__"=some (.ref bm)/\bm≠builtinsNs/\bm≠mainGlobals/\base.get? bm=some o/\o.cls=.type "module" /\ o.dict=some builtinsNs/\o.data=.plain
theorem i7 {a b:Int}{ta tb:Tok}{c:Value}:∀l:List Value,TriplesOk l->TriplesOk (l++[.int a ta,.int b tb,c])
 | [],_=>trivial
 | [x],h=>by cases x <;> exact h.elim
 | [x,y],h=>by cases x <;> cases y <;> exact h.elim
 | x::y::z::r,h=>by
  cases x with
  | int i ti =>
   cases y with
   | int j tj=>exact i7 r h
   | _=>exact h.elim
  | _=>exact h.elim
section
variable {X:Cx}{params:Arguments}{body:Expr}{scope:Scope}{pos:Pos}{c T:Addr}
abbrev kT (X:Cx)(params:Arguments)(body:Expr)(scope:Scope)(c':Addr)(fk:Value):Obj:=kla_obj "<lambda>" (X.env.qual ++ "<lambda>") params body scope [] ((X.mg "__name__").getD .none) c' fk
def QV (X:Cx)(params:Arguments)(body:Expr)(scope:Scope)(pos:Pos)(T:Addr):TE:=λσ H Q=>Tab T pos (X.env.qual ++ "<lambda>") H /\
 ∀f c' fk H',eX T H H'->Tab T pos (X.env.qual ++ "<lambda>") H'->H f=none->H' f=some (oh f (kT X params body scope c' fk))->H' c'=some (jr c' (X.env.qual ++ "<lambda>"))->Q (.ref f) H'
def DC (qU:X.env.code=.ref c)(hC:codeHdIn X.K c T=true)(hB:rN X.mg X.base)(mF:∀y∈scope.names,y.2≠.free)(EI:defaultsOf params X.env=([],[]):=by rfl):PE X (.Lambda params body scope pos) (QV X params body scope pos T):=by
 intro ai s σ H Q I h;obtain⟨⟨ps,hT,ht,EJ⟩,q⟩:=h;refine kla_eval EI ?_;have KZ:s.heap.get? T=some (tabObj ps):=(show bU X.prog X.w H s.heap T (.rO ps) from I.bD T _ hT);have hg:=I.mod.glob.keeps I.bk;have C:=codeHd_of_K I.jX hC;obtain⟨bm,ob,b1,b2,b3,b4,b5,b6,b7⟩:=hB;have US:=I.bk _ _ b4;have RP:bm≠T:=λz=>by
  have:=(I.bs _ _ b4).2;rw [z,hT] at this;cases this
 have RM:mainGlobals≠T:=λz=>by
  obtain⟨o,es,ep,e,d,_⟩:=hg;rw [z,KZ] at e;cases e;cases d
 have OA:s.heap.BuiltinsAt X.mg T:=⟨bm,ob,b1,b2,b3,RP,US,b5,b6,b7⟩;have FA:∀b v,H b=some v->b < s.heap.objs.size:=λb v e=>I.bD.lt e;rcases EJ with N_ | ⟨c',hf,jq⟩
 .refine kla_makeFunction (closureFor_none mF) I.ok.glob hg qU C KZ ht N_ RM OA λc' fk h' tk hx KP i4 EC NT=>?_;have hcr:∃oc,h'.get? c'=some oc:=by
   obtain⟨c2,oc,vs,t,e,xZ,_⟩:=EC;cases e;exact⟨oc,xZ⟩
  have qT:h'.objs.size > s.heap.objs.size:=oK KP i4;have keep:∀b o,b≠T->s.heap.get? b=some o->(h'.push (kT X params body scope c' fk)).get? b=some o:=λb o n e=>bC _ (hx b o n e)
  let H':Hp:=upd (upd (upd H T (.rO (ps++#[rawInt pos.line,rawInt pos.col,.ref c']))) c' (jr c' (X.env.qual ++ "<lambda>"))) h'.objs.size (oh h'.objs.size (kT X params body scope c' fk))
  have zm:∀b v,H b=some v->b≠c'/\b≠h'.objs.size:=λb v e=>⟨bx (dJ (FA b v e) KP),bx (kA (FA b v e) qT)⟩;have RO:c'≠h'.objs.size:=bx i4;have Nv:=zm T _ hT;have eT:H' T=some (.rO (ps++#[rawInt pos.line,rawInt pos.col,.ref c'])):=by
   show upd (upd (upd H T _) c' _) h'.objs.size _ T=_;rw [aj Nv.2,aj Nv.1,af]
  have ec:H' c'=some (jr c' (X.env.qual ++ "<lambda>")):=by
   show upd (upd (upd H T _) c' _) h'.objs.size _ c'=_;rw [aj RO,af]
  have ef:H' h'.objs.size=some (oh h'.objs.size (kT X params body scope c' fk)):=af;have eo:∀b,b≠T->b≠c'->b≠h'.objs.size->H' b=H b:=λb n1 n2 n3=>by
   show upd (upd (upd H T _) c' _) h'.objs.size _ b=_;rw [aj n3,aj n2,aj n1]
  have sT:eX T H H':=λb o n e=>by rw [eo b n (zm b o e).1 (zm b o e).2];exact e
  have I2:Inv X ai σ H' { s with heap:=h'.push (kT X params body scope c' fk),toks:=tk }:=by
   refine I.call (g':=s.gens) (t':=tk) (d':=s.drawn) (ch:=[]) ⟨λb o e n _ _=>keep b o (λz=>by rw [z,hT] at n;cases n) e,λb o e n _ _=>⟨o.slots,keep b o (λz=>by rw [z,hT] at n;cases n) e⟩,λb o e n _=>?_,λb o e _=>?_,λb xs e=>?_,λb o u e=>?_,λb Rp e=>?_⟩ (λb v e=>?_) I.bare (λb hb=>nomatch hb)
   .have lb:=aS e;rw [eo b (λz=>by rw [z,hT] at n;cases n) (bx (dJ lb KP)) (bx (kA lb qT))];exact n
   .by_cases z:b=T
    .exact⟨_,by rw [z];exact bC _ NT⟩
    exact⟨o,keep b o z e⟩
   .exact sT b _ (λz=>by rw [z,hT] at e;cases e) e
   .exact sT b _ (λz=>by rw [z,hT] at e;cases e) e
   .by_cases z:b=T
    .subst z;rw [hT] at e;cases e;exact⟨_,eT⟩
    exact⟨#[],by rw [ui];exact sT b _ z e⟩
   by_cases z1:b=h'.objs.size
   .subst z1;rw [ef] at e;cases e;exact pQ (cI _ rfl)
   by_cases z2:b=c'
   .subst z2;rw [ec] at e;cases e;refine xB ?_;obtain⟨c2,oc,vs,t,e',xZ,hd,hv⟩:=EC;cases e';exact⟨_,oc,vs,t,rfl,bC _ xZ,hd,hv⟩
   by_cases z3:b=T
   .subst z3;rw [eT] at e;cases e;exact bC _ NT
   rw [eo b z3 z2 z1] at e;refine(I.bD b v e).hV (λd o BY e'=>?_) (λd e'=>sT d _ (λz=>by rw [z,hT] at e';cases e') e') λd ys e'=>sT d _ (λz=>by rw [z,hT] at e';cases e') e';rcases BY with rfl | BY
   .exact keep d o z3 e'
   exact keep d o (λz=>by rw [z,hT] at BY;cases BY) e'
  have fresh:H h'.objs.size=none:=I.bD.fresh (jy qT);exact⟨.ref h'.objs.size,H',I2,rfl,q _ c' fk H' sT ⟨_,eT,by rw [qi];exact i7 _ ht,.inr ⟨c',by rw [qi];exact codeAmong_snoc _ ht N_,ec⟩⟩ fresh ef ec⟩
 refine kla_makeFunctionHit (closureFor_none mF) I.ok.glob hg qU C KZ ht hf OA λfk h' tk hk hsz=>?_;have keep:∀b o,s.heap.get? b=some o->(h'.push (kT X params body scope c' fk)).get? b=some o:=λb o e=>bC _ (hk b o e);have fresh:H h'.objs.size=none:=I.bD.fresh hsz;refine⟨.ref h'.objs.size,_,I.laid (a:=h'.objs.size) (o:=oh h'.objs.size (kT X params body scope c' fk)) (t':=tk) keep hsz (pQ (cI _ rfl)),rfl,?_⟩;refine q _ c' fk _ (λb o _ e=>by rw [aj (aq e fresh)];exact e) ⟨ps,by rw [aj (aq hT fresh)];exact hT,ht,.inr ⟨c',hf,by rw [aj (aq jq fresh)];exact jq⟩⟩ fresh af (by rw [aj (aq jq fresh)];exact jq)
end
section
variable {P:Program}{w:World}{K:Frag}{mg:Str->Option Value}{base:Heap}{f c':Addr}{q:Str}{params:Arguments}{body:Expr}{scope:Scope}{pm fk:Value}{N ps:List Str}{k:Nat}{te:TE}
def G8 (S:aM N ps scope)(mH:∀us:List Value,us.length=ps.length->bindArgs (kla_fn "<lambda>" q params body scope [] pm (.ref c') fk) ⟨us,[]⟩=pure (ps.zip us))
  (g9:∀(A:Around)(outer:List Env)(s:Shared)(H:Hp),PE (gK e_ P w K mg base N q scope f (.ref c') A outer s H λ_ _ _=>False) body te)
  (A:Around)(outer:List Env)(s:Shared)(H:Hp)(us:List Value)(vs:List V)(Q:VK)(hr:dB (k+1) A)(e0:pI P w K mg base A outer s H)(hf:H f=some (oh f (kla_obj "<lambda>" q params body scope [] pm c' fk)))
  (hc:H c'=some (jr c' q))(rv:aU vs us)(hl:vs.length=ps.length)(h:te (start N vs) H Q):codeAny (model P w) A (.call (.ref f) ⟨us,[]⟩) (CR e_ outer P w H s Q λ_ _ _=>False) s:=by
 obtain⟨ef,_⟩:=e0.bD f _ hf;obtain⟨ec,_⟩:=e0.bD c' _ hc;have lu:us.length=ps.length:=by rw [<-rv.length];exact hl
 have lim:s.heap.NoLimit:=e0.mod.nolimit.keeps λb o e=>(e0.bs b o e).1;have iU:∀y∈ps.zip us,scope.names.lookup y.1=some .local\/(scope.names.lookup y.1=some .cell/\((cellsFrom (s.heap.objs.size+1) scope.names []).lookup y.1).isSome=true):=λ⟨n,v⟩ hy=>by
  rcases S.par n (List.of_mem_zip hy).1 with z | z
  .exact .inl z
  exact .inr ⟨z,cellsFrom_some _ _ _ (.inl z)⟩
 refine kla_callFunE hr.depth ef rfl S.co S.gen rfl ec ?_;rw [mH us lu];refine aR (wpAny_newFunctionEnv_cells S.kind iU λenv he s1 x=>?_);subst he;refine⟨lim.keeps x.toInCall.keep,kla_codeExpr ?_⟩;have I:Inv (gK e_ P w K mg base N q scope f (.ref c') A outer s H λ_ _ _=>False) [] (start N vs) H s1:=tF S hr.hd e0 hl rv x;refine cw (g9 A outer s H [] s1 (start N vs) H _ I h) (λv s' aV=>?_) λe s' z=>z;obtain⟨y,H',J,r,z⟩:=aV;exact⟨y,H',J.os,J.bare,J.base,J.bD,r,z⟩
end
section
variable {X:Cx}{i:Nat}{x:Str}{e:Expr}{es:List Expr}{t:TA}{p pos:Pos}{q:Str}{params:Arguments}{body:Expr}{scope:Scope}{N ps:List Str}{k:Nat}{te:TE}
def CZ (i:Nat)(q:Str)(params:Arguments)(body:Expr)(scope:Scope) (N ps:List Str)(t:TA)(te:TE):TE:=λσ H Q=>∃f pm c' fk,σ[i]?=some (some (.ref f)) /\
 t σ H λvs H1=>H1 f=some (oh f (kla_obj "<lambda>" q params body scope [] pm c' fk))/\H1 c'=some (jr c' q)/\vs.length=ps.length/\te (start N vs) H1 Q
def yU (hN:X.N[i]?=some x)(hx:X.env.scope.names.lookup x=some .local)(S:aM N ps scope)(hr:dB (k+1) X.A)
  (mH:∀(pm fk:Value)(c':Addr)(us:List Value),us.length=ps.length->bindArgs (kla_fn "<lambda>" q params body scope [] pm (.ref c') fk) ⟨us,[]⟩=pure (ps.zip us))
  (g9:∀(f c':Addr)(A:Around)(outer:List Env)(s:Shared)(H:Hp),PE (gK e_ X.prog X.w X.K X.mg X.base N q scope f (.ref c') A outer s H λ_ _ _=>False) body te)(ha:PA X (e::es) t)
  (vC:(x == ("__debug__":Str))=false:=by decide)(he:starEach (e::es) X.env=(false,eval e X.env)::starEach es X.env:=by rfl)(oX:(backTo pos (starEach es X.env)).any (·.1)=false:=by rfl) :
  PE X (.Call (.Name x p) (e::es) [] pos) (CZ i q params body scope N ps t te):=by
 intro ai s σ H Q I h;obtain⟨f,pm,c',fk,hσ,h⟩:=h;obtain⟨m,hn,hl⟩:=I.loc;obtain⟨u,ru,lk⟩:=hl i x (.ref f) hN hσ (.inl hx);cases (show u=Value.ref f from ru);have hm:m x=some (.ref f):=by
  rcases lk with l | ⟨l,_⟩
  .exact l.2
  have l':X.env.scope.names.lookup x=some .cell\/X.env.scope.names.lookup x=some .free:=l;rw [hx] at l';rcases l' with l' | l' <;> cases l'
 refine ka (wpAny_Name (uo I.ok.kind hx hn hm ?_) vC);refine callWith_def (o:=kla_obj "<lambda>" q params body scope [] pm c' fk) rfl (cx (ha pos ai s σ H _ I h) λus s1 aV=>?_) he;obtain⟨vs,H1,I1,r,z1,z2,z3,z4⟩:=aV;obtain⟨ef,_⟩:=I1.bD f _ z1;refine⟨ef,hZ (ix (G8 (k:=k) S (λus hl=>mH pm fk c' us hl) (g9 f c') X.A X.stack s1 H1 us vs Q hr I1.E2 z1 z2 r z3 z4) λr' s' z=>?_)⟩;cases r' with
 | error e=>exact z.elim
 | ok fl =>
  cases fl with
  | ret u=>exact I1.after z
  | next=>exact z.elim
  | brk=>exact z.elim
  | cont=>exact z.elim
end
def Ft (ts:List Addr)(H:Hp):Prop:=∀b,H b=none\/(∃o xs,H b=some (.ju o (.lst xs)))\/(b∈ts/\H b=some (.rO #[]))
def BM {P:Program}{w:World}{K:Frag}{mg mb:Str->Option Value}{CX:tZ}{k:Nat}{fa a:Addr}{fd:FuncData}{x:Str}{sp:Sp}{s₁:Shared}{vs:List Value}{ns:List Int}{ts:List Addr}
  (KX:K.In s₁.heap)(vU:s₁.heap.Ns mainGlobals mg)(hb:s₁.heap.Ns builtinsNs mb)(KY:∀x:Str,x ≠ "__name__" -> mb x=bootBuiltins x)(KL:s₁.heap.NoLimit)
  (hbm:∃bm ob,mg "__builtins__"=some (.ref bm)/\bm≠builtinsNs/\s₁.heap.get? bm=some ob/\ob.cls=.type "module" /\ ob.dict=some builtinsNs/\ob.data=.plain)(hg:s₁.gens=#[])
  (Kx:∀T∈ts,s₁.heap.get? T=some (tabObj #[])/\K.lookup T=none/\∃c,codeHdIn K c T=true)
  (ha:s₁.heap.get? a=some { cls:=.type "list",data:=.seq vs.toArray })(hi:IntsAre vs ns)(hl:ns.length<=sizeLine)(hr:dB k callerA)
  (F:∀base:Heap,K.In base->base.Ns mainGlobals mg->rN mg base->bA P w K mg base CX k fa fd [x] sp)(mH:∀(s:Shared)(u:Value),BindsTo s fd ⟨[u],[]⟩ [(x,u)])
  (px:∀H:Hp,Ft ts H->(∀T∈ts,H T=some (.rO #[]))->aH K H a (ns.map V.int)->sp [.ref a] H (λv _=>v=.bl true) λ_ _ _=>False)
  (K2:∀H e s',CX [] H s₁ (λ_ _ _=>False) e s'->False) :
  codeAny (model P w) callerA (.call (.ref fa) ⟨[.ref a],[]⟩) (λr s'=>r=.ok (.ret (.bool true))/\OldK s₁.heap s'.heap/\s'.os=s₁.os/\AllBare s'.gens) s₁:=by
 have rv:=nP hi;have Kk:=hi.length;have core:∀H:Hp,Ft ts H->(∀T∈ts,H T=some (.rO #[]))->aH K H a (ns.map V.int)->j8 P w H s₁.heap->(∀b,H b≠none->b=a\/b∈ts)->(H a≠none->K.lookup a=none) ->
   codeAny (model P w) callerA (.call (.ref fa) ⟨[.ref a],[]⟩) (λr s'=>r=.ok (.ret (.bool true))/\OldK s₁.heap s'.heap/\s'.os=s₁.os/\AllBare s'.gens) s₁:=by
  intro H hO hT hS bD hA hK;have j3:∀{b:Addr}{o:Obj},s₁.heap.get? b=some o->H b=none->(kZ s₁.heap H).get? b=some o:=λe n=>wZ e n;have off:∀{b:Addr}{o:Obj},s₁.heap.get? b=some o->(∀aO n,o.data≠.seq aO n)->(∀fs,o.data≠.fields fs)->H b=none:=λ{b o} e d1 d2=>by
   cases q:H b with
   | none=>rfl
   | some u =>
    rcases hA b (by rw [q];simp) with e' | e'
    .subst e';rw [ha] at e;cases e;exact(d1 _ _ rfl).elim
    rw [(Kx b e').1] at e;cases e;exact(d2 _ rfl).elim
  have G1:∀{b:Addr}{m:Str->Option Value},s₁.heap.Ns b m->(kZ s₁.heap H).Ns b m:=λ{b m} ⟨o,es,ep,e,d,r⟩=>⟨o,es,ep,j3 e (off e (λ_ _ z=>by rw [d] at z;cases z) λ_ z=>by rw [d] at z;cases z),d,r⟩;have Ox:K.In (kZ s₁.heap H):=λb o e=>j3 (KX b o e) (by
   cases q:H b with
   | none=>rfl
   | some u =>
    rcases hA b (by rw [q];simp) with e' | e'
    .subst e';rw [hK (by rw [q];simp)] at e;cases e
    rw [(Kx b e').2.1] at e;cases e)
  have hM:Mod K mg (kZ s₁.heap H):=⟨Ox,G1 vU,⟨mb,G1 hb,KY⟩,let ⟨mc,h1,h2⟩:=KL;⟨mc,G1 h1,h2⟩⟩;have Oz:rN mg (kZ s₁.heap H):=by
   obtain⟨bm,ob,b1,b2,b3,b4,b5,b6⟩:=hbm;refine⟨bm,ob,b1,b2,λz=>?_,j3 b3 (off b3 (λ_ _ z=>by rw [b6] at z;cases z) λ_ z=>by rw [b6] at z;cases z),b4,b5,b6⟩;obtain⟨o,es,ep,e,d,_⟩:=vU;rw [<-z,b3] at e;cases e;rw [b6] at d;cases d
  have e0:pI P w K mg (kZ s₁.heap H) callerA [] s₁ H:=⟨rfl,hM,λb o e=>AH e,Nat.le_of_eq (tH _ _),trivial,λb hb=>absurd (show b∈([]:List Addr) from hb) (by simp),bD,.of_eq hg⟩;refine ix ((F _ Ox (G1 vU) Oz).run callerA [] s₁ H ⟨[.ref a],[]⟩ [.ref a] [.ref a] _ _ hr e0 (mH s₁ (.ref a)) (.cons rfl .nil) (px H hO hT hS)) λr s' h=>?_;cases r with
  | error e=>exact(K2 H e s' h).elim
  | ok fl =>
   cases fl with
   | next=>exact False.elim h
   | brk=>exact False.elim h
   | cont=>exact False.elim h
   | ret u =>
    obtain⟨v,H',os,bare,un,Hd,r',q⟩:=h;have q':v=.bl true:=q;subst q';obtain rfl:u=Value.bool true:=r';have each:∀b o,s₁.heap.get? b=some o->asItWas s₁.heap s'.heap b o/\∃o',s'.heap.get? b=some o':=λb o e=>by
     cases q:H b with
     | none =>
      have z:=un.keep b o e q (by intro z;exact absurd (show b∈([]:List Addr) from z) (by simp)) (by simp);exact⟨.inl z,o,z⟩
     | some u =>
      rcases hO b with z | ⟨ob,xs,z⟩ | ⟨rY,z⟩
      .rw [q] at z;cases z
      .have z2:=un.jO b ob _ z;obtain⟨e1,_⟩:=bD b _ z;obtain⟨e2,_⟩:=Hd b _ z2;rw [e] at e1;cases e1;exact⟨.inl e2,_,e2⟩
      obtain⟨more,z2⟩:=un.j5 b _ z;have e2:s'.heap.get? b=some (tabObj (#[]++more)):=Hd b _ z2;rw [(Kx b rY).1] at e;cases e;obtain⟨c,hc⟩:=(Kx b rY).2.2;obtain⟨oc,XW,file,tf,flags,tg,inF,text,tt,d1,d2,d3,d4,_⟩:=codeHd_of_K KX hc;exact⟨.inr (.inl ⟨⟨c,oc,XW,d1,d2,d3,d4⟩,rfl,#[],more,rfl,e2⟩),_,e2⟩
    exact⟨rfl,⟨λb o e=>(each b o e).1,λb o e=>(each b o e).2⟩,os,bare⟩
 have na:a∉ts:=λz=>by
  have:=(Kx a z).1;rw [ha] at this;cases this
 cases hk:K.lookup a with
 | some o =>
  have e:=KX a o hk;rw [ha] at e;cases e;refine core (λb=>if b∈ts then some (.rO #[]) else none) (λb=>?_) (λT h=>ay h) (.inr ⟨_,vs.toArray,_,hk,rfl,rfl,rfl,by rw [b8,Kk];exact hl,by simpa using rv⟩) (λb u z=>?_) (λb z=>?_) λz=>absurd (av na) z
  .by_cases h:b∈ts
   .exact .inr (.inr ⟨h,ay h⟩)
   exact .inl (av h)
  .by_cases h:b∈ts
   .have z':=(ay h).symm.trans z;cases z';exact(Kx b h).1
   have z':=(av h).symm.trans z;cases z'
  by_cases h:b∈ts
  .exact .inr h
  exact absurd (av h) z
 | none =>
  refine core (λb=>if b=a then some (.ju { cls:=.type "list",data:=.seq vs.toArray } (.lst (ns.map V.int))) else if b∈ts then some (.rO #[]) else none) (λb=>?_) (λT h=>?_) (.inl (.inr ⟨{ cls:=.type "list",data:=.seq vs.toArray },ay rfl⟩)) (λb u z=>?_) (λb z=>?_) λ_=>hk
  .by_cases hb:b=a
   .exact .inr (.inl ⟨_,_,ay hb⟩)
   by_cases h:b∈ts
   .exact .inr (.inr ⟨h,(av hb).trans (ay h)⟩)
   exact .inl ((av hb).trans (av h))
  .exact(av (λz:T=a=>na (z ▸ h))).trans (ay h)
  .by_cases hb:b=a
   .have z':=(ay hb).symm.trans z;cases z';subst hb;exact⟨ha,by rw [aC];exact hl,vs,_,rv,ha⟩
   by_cases h:b∈ts
   .have z':=((av hb).trans (ay h)).symm.trans z;cases z';exact(Kx b h).1
   have z':=((av hb).trans (av h)).symm.trans z;cases z'
  by_cases hb:b=a
  .exact .inl hb
  by_cases h:b∈ts
  .exact .inr h
  exact absurd ((av hb).trans (av h)) z
def CV {l:OpenLaw}{n k:Nat}{q:Program}{loose:List Str}{XP:(Str->Option Value)->Heap->Prop}{YP:World->Heap->Prop}{d:DefRec}{K:Params->Frag}{CX:World->tZ}{sp:World->Sp}{x:Str}{ts:List Addr}
  (hn:l.most=some n)(Iw:n<=sizeLine)(KR:d.params.defaults=[])(hr:dB k callerA)
  (hY:∀(w:World)(h:Heap),YP w h->(K w.params).In h/\∀T∈ts,h.get? T=some (tabObj #[]))
  (hK:∀w:World,∀T∈ts,(K w.params).lookup T=none/\∃c,codeHdIn (K w.params) c T=true)
  (F:∀(w:World)(mg:Str->Option Value)(fa:Addr)(h:Heap),(K w.params).In h->h.Ns mainGlobals mg->mg d.name=some (.ref fa) ->
   ∃fd:FuncData,(∀(s:Shared)(u:Value),BindsTo s fd ⟨[u],[]⟩ [(x,u)]) /\
    ∀base:Heap,(K w.params).In base->base.Ns mainGlobals mg->rN mg base->bA l.prog w (K w.params) mg base (CX w) k fa fd [x] (sp w))
  (px:∀(w:World)(H:Hp)(a:Addr)(ns:List Int),ns.length<=n->Ft ts H->(∀T∈ts,H T=some (.rO #[]))->aH (K w.params) H a (ns.map V.int)->sp w [.ref a] H (λv _=>v=.bl true) λ_ _ _=>False)
  (K2:∀(w:World)(H:Hp)(s:Shared)(e:Value)(s':Shared),CX w [] H s (λ_ _ _=>False) e s'->False) :
  WalkO q loose XP YP l.row.toRowW d [] (λf vs=>PySem.call f vs):=by
 refine FX.o_ hn KR λw s₀ s₁ mg mb fa o pm cd doc a vs ns G Y ho hd rX KJ ED hints bI hg=>?_;obtain⟨KX,TX⟩:=hY w _ Y;obtain⟨fd,hb,hF⟩:=F w mg fa _ KX G.T.g KJ;exact BM KX G.T.g G.T.b G.T.builtins G.T.nolimit G.T.bmain hg (λT hT=>⟨TX T hT,hK w T hT⟩) ED hints (df bI Iw) hr hF hb (λH hO hT hS=>px w H a ns bI hO hT hS) λH e s'=>K2 w H s₁ e s'
open PySem
def bL {X:Cx}{scope:Scope}{js:List (Nat×Str)}(h:(js.all λp=>X.N[p.1]? == some p.2 && X.env.scope.names.lookup p.2 == some .cell && scope.names.lookup p.2 == some .free)=true)
  (h2:(scope.names.all λy=>y.2 != .free || X.env.scope.names.lookup y.1 == some .cell)=true):HJ X scope js:=by
 refine⟨λp hp=>?_,λy hy=>?_⟩
 .have:=fY.mp h p hp;simp only [lH,beq_iff_eq] at this;exact⟨this.1.1,this.1.2,this.2⟩
 have:=fY.mp h2 _ hy;simpa using this
def zD {σ:St}{H:Hp}{A B:Hp->Prop}(h:A H):iO σ H λb H3=>if b=true then A H3 else B H3:=by
 show if true=true then A H else B H;exact fU h
def goN {i:Nat}{v:V}{σ:St}{H:Hp}{Q:St->Hp->Prop}(h:Q (σ.set i (some v)) H):dX i v σ H Q:=h
def wo (x y:Str):(x++y).length=x.length+y.length:=by
 show (x.cps++y.cps).size=_;rw [Array.size_append];rfl
def Ex {X:Cx}(K:aY)(hK:X.K=K:=by rfl):HH X (M_ K):=by
 subst hK;exact aL
def iq {X:Cx}{es:List Expr}{k:Nat}{t:IU}{n:Nat}{pos:Pos}(K:aY)(hc:X.calm=true)(h:O_ X es t)(hK:X.K=K:=by rfl)
  (hn:(assignEach es X.env).length=n:=by rfl)(mD:(assignEach es X.env).findIdx? (·.1)=none:=by rfl):PG X (.Tuple es k pos) (B1 K n t):=by
 subst hK;exact eJ hc h hn mD
def AM {n k:Nat}(h:k < n):Ey n (k:Int)=some k:=by
 unfold Ey;rw [ay ∅,ay ∅];simp
def pW {ns:List Int}{k:Nat}(h:k < ns.length):si (ns.map V.int) (k:Int)=some (.int ns[k]):=dY (by rw [bH,eG h];rfl)
end L2
section
variable {P:PySem.Program}{w:PySem.World}{K:aY}{mg:PySem.Str->Option PySem.Value}{base:PySem.Heap}{f:PySem.Addr}{fd:PySem.FuncData}
namespace fg
open PySem L2
def top (i:Nat):Stmt:=PySem.Challenge.pw_wright_k17_rows_of_grammars_refused.main.body.getD i (.Pass ⟨0,0,0,0⟩)
abbrev yG:Stmt:=top 17
abbrev yy:Stmt:=top 18
abbrev qF:Stmt:=top 22
abbrev uZ:Stmt:=top 23
abbrev yH:Stmt:=top 24
abbrev Di:Stmt:=top 26
abbrev yB:Stmt:=top 27
abbrev Jz:Stmt:=top 28
abbrev qD:Stmt:=top 30
abbrev u4:Stmt:=top 31
abbrev lZ:Stmt:=top 32
abbrev uX:Stmt:=top 35
abbrev yA:Stmt:=top 36
abbrev JB:Stmt:=top 37
abbrev Dk:Stmt:=top 44
abbrev Dh:Stmt:=top 19
abbrev JA:Stmt:=top 20
abbrev l_:Stmt:=top 39
abbrev nX:Stmt:=top 40
abbrev qE:Stmt:=top 41
abbrev Yq:Stmt:=top 42
structure Txt (mg:Str->Option Value):Prop where
 len:mg "len"=none
 Ia:mg "range"=none
 xY:mg "isinstance"=none
 tup:mg "tuple"=none
 lst:mg "list"=none
 vY:mg "dict"=none
 all:mg "all"=none
 any:mg "any"=none
 str:mg "str"=none
 int:mg "int"=none
 UE:mg "bool"=none
 E3:mg "enumerate"=none
 sum:mg "sum"=none
 max:mg "max"=none
 min:mg "min"=none
section
def boot_all:bootBuiltins "all"=some (.builtin "all"):=by decide +kernel
def g_:bootBuiltins "list"=some (.type "list"):=by decide +kernel
def Fb:bootBuiltins "str"=some (.type "str"):=by decide +kernel
def eV:bootBuiltins "dict"=some (.type "dict"):=by decide +kernel
end
end fg
namespace L2
open PySem
def ba {K:aY}{H:Hp}{D a:Addr}{xs ys:List V}{o:HO}(hD:H D=some (.lst ys))(h:bj K H a xs):bj K (upd H D o) a xs:=by
 rcases h with (h | ⟨u,h⟩) | h
 .exact .inl (.inl (by rw [aj (λz=>by rw [z,hD] at h;cases h)];exact h))
 .exact .inl (.inr ⟨u,by rw [aj (λz=>by rw [z,hD] at h;cases h)];exact h⟩)
 exact .inr h
def vL (kvs:List (aN×V))(k:aN):(kvs.any λkv=>decide (kv.1=k))=true↔k∈kvs.map (·.1):=by
 rw [ua,cT];constructor
 .rintro⟨x,h1,h2⟩;exact⟨x,h1,d5 h2⟩
 rintro⟨x,h1,h2⟩;exact⟨x,h1,gC h2⟩
def yS {kvs:List (aN×V)}{k:aN}{v:V}(h:k∈kvs.map (·.1)):(bE kvs k v).map (·.1)=kvs.map (·.1):=by
 unfold bE;rw [ay ((vL kvs k).mpr h),h_];refine List.map_congr_left λx hx=>?_;show (if x.1=k then (x.1,v) else x).1=x.1
 split <;> rfl
def ij {kvs:List (aN×V)}{k:aN}{v:V}(h:¬k∈kvs.map (·.1)):(bE kvs k v).map (·.1)=kvs.map (·.1)++[k]:=by
 unfold bE;rw [av (λz=>h ((vL kvs k).mp z)),bu];rfl
def dU (kvs:List (aN×V))(k:aN):(bh kvs k).isSome=true↔k∈kvs.map (·.1):=by
 rw [<-iN];exact vL kvs k
theorem cE {α β γ:Type}{F:α->β->Prop}{G:α->γ->Prop}{φ:β->γ}:∀{xs:List α}{ys:List β},Paired F xs ys->(∀a b,F a b->G a (φ b))->Paired G xs (ys.map φ)
 | _,_,.nil,_=>.nil
 | _,_,.cons h t,k=>.cons (k _ _ h) (cE t k)
def cR {z:Str}{l:List Str}:(Sum.inr z:aN)∈l.map Sum.inr↔z∈l:=by
 rw [cT];constructor
 .rintro⟨x,h1,h2⟩;rw [<-kx h2];exact h1
 intro h;exact⟨z,h,rfl⟩
end L2
namespace M11
abbrev aA:=PySem.Str×List PySem.Str
def gw (a:List PySem.Str)(h:PySem.Str):List PySem.Str:=if h∈a then a else a++[h]
def vG (bB hs:List PySem.Str):List PySem.Str:=hs.foldl gw bB
def addW (bF a:List PySem.Str)(p:PySem.Str):List PySem.Str:=if p∈bF then a else gw a p
def pJ (bF bB ps:List PySem.Str):List PySem.Str:=ps.foldl (addW bF) bB
def LW (aa:List aA)(name:PySem.Str) (k:Nat):Bool:=decide ((aa[k]?.map (·.1))=some name)
def nums (aa:List aA)(name:PySem.Str) (i:Nat):List Int:=((List.range i).filter (LW aa name)).map λk:Nat=>(k:Int)
def Bv (aa:List aA)(name:PySem.Str) (i:Nat):nums aa name (i+1)=nums aa name i++(if LW aa name i=true then [(i:Int)] else []):=by
 unfold nums;rw [List.range_succ,lK,bu]
 congr 1
 by_cases h:LW aa name i=true
 .rw [ay h];simp [h]
 rw [av h];simp [h]
def wI (aa:List aA)(name:PySem.Str) (i:Nat):(nums aa name i).length<=i:=by
 unfold nums;rw [aC];have:=lL (LW aa name) (List.range i);rw [uf] at this;exact this
def xI (a:List PySem.Str)(h:PySem.Str):(gw a h).length<=a.length+1:=by
 unfold gw;split <;> simp
theorem iw:∀(hs bB:List PySem.Str),(vG bB hs).length<=bB.length+hs.length
 | [],bB=>by simp [vG]
 | h::r,bB=>by
  have:=iw r (gw bB h);have:=xI bB h;show (vG (gw bB h) r).length<=_;rw [cH];omega
def Ff (bF a:List PySem.Str)(p:PySem.Str):(addW bF a p).length<=a.length+1:=by
 unfold addW;split
 .omega
 exact xI a p
theorem uH (bF:List PySem.Str):∀(ps bB:List PySem.Str),(pJ bF bB ps).length<=bB.length+ps.length
 | [],bB=>by simp [pJ]
 | p::r,bB=>by
  have:=uH bF r (addW bF bB p);have:=Ff bF bB p;show (pJ bF (addW bF bB p) r).length<=_;rw [cH];omega
end M11
namespace fg
open PySem L2 M11
def jM {bB:List (aN×V)}{as:List Str}(e:bB.map (·.1)=as.map Sum.inr)(h:Str){v:V}:(bE bB (Sum.inr h) v).map (·.1)=(gw as h).map Sum.inr:=by
 unfold gw;by_cases q:h∈as
 .rw [ay q,yS (by rw [e];exact cR.mpr q),e]
 rw [av q,ij (by rw [e];exact λz=>q (cR.mp z)),e,bu];rfl
theorem mz:∀(hs:List Str)(bB:List (aN×V)) (as:List Str),bB.map (·.1)=as.map Sum.inr->(cO (hs.map λh=>((Sum.inr h:aN),V.bl true)) bB).map (·.1)=(vG as hs).map Sum.inr
 | [],bB,as,e=>e
 | h::r,bB,as,e=>by
  refine mz r (bE bB (Sum.inr h) (.bl true)) (gw as h) ?_;exact jM e h
def keys_str {kvs:List (aN×V)}{zs:List Str}(e:kvs.map (·.1)=zs.map Sum.inr):(kvs.map λp=>kV p.1)=zs.map V.str:=by
 have e2:(kvs.map λp=>kV p.1)=(kvs.map (·.1)).map kV:=by rw [h_];rfl
 rw [e2,e,h_];rfl
section
def tY (K:aY)(H:Hp)(r:Addr)(ru:aA):Prop:=∃p,bj K H r [.str ru.1,.ref p]/\bj K H p (ru.2.map V.str)
def bq (K:aY)(H:Hp)(rs:List Addr)(aa:List aA):Prop:=Paired (λr ru=>tY K H r ru) rs aa
def bq.keep {H H':Hp}{rs:List Addr}{aa:List aA}(h:bq K H rs aa)(k:∀a xs,bj K H a xs->bj K H' a xs):bq K H' rs aa:=Paired.gA h λr ru ⟨p,a,b⟩=>⟨p,k _ _ a,k _ _ b⟩
def bq.same {H H':Hp}{rs:List Addr}{aa:List aA}(h:bq K H rs aa)(s:aD H H'):bq K H' rs aa:=h.keep λ_ _ z=>s.tup z
def bq.get {H:Hp}{rs:List Addr}{aa:List aA}(h:bq K H rs aa){i:Nat}{r:Addr}(e:rs[i]?=some r):∃ru,aa[i]?=some ru/\tY K H r ru:=by
 have l:=bM h;have li:=(bR.mp e).1;have e2:aa[i]?=some (aa[i]'∅):=eG ∅;obtain⟨x,e3,e4⟩:=Paired.at_ h i _ e2;rw [e] at e3;cases e3;exact⟨_,e2,e4⟩
def rp {H:Hp}{R D:Addr}{rs:List Addr}{aa:List aA}{σ:St}{Qp:Hp->Prop}(hR:aH K H R (rs.map V.ref))(cy:bq K H rs aa)(bI:aa.length<=1000)(hD:H D=none)
  (q:∀ts H2,aD H H2->H2 D=some (.lst (ts.map V.ref))->Paired (λt h=>bj K H2 t [.str h,.bl true]) ts (aa.map (·.1))->Qp H2) :
  ∃W:Nat->Nat->List V->St->Hp->Prop,(∃m,W 0 m [] (eE ["head","parts"] [] σ) (upd H D (.lst []))) /\
 ∀i m ys σ' H,W i m ys σ' H->((ku K R).stop i H/\Qp H)\/((ku K R).go i H/\∃m',m' < m/\∀x H',(ku K R).nO i H x H'->B1 K 2 (jN (dX 0) (jN (dX 1) ES)) x σ' H' λσ2 H2=>iO σ2 H2 λb H3 =>
  if b=true then rR (fq (fE 0) (fq (tC (.bl true)) qv)) σ2 H3 λy H4=>H4 D=some (.lst ys)/\ys.length < sizeLine/\W (i+1) m' (ys++[y]) σ2 (upd H4 D (.lst (ys++[y]))) else W (i+1) m' ys σ2 H3):=by
 have ll:=bM cy;refine cb (xs:=rs.map V.ref) (λi ys σ2 H2=>∃ts:List Addr,ys=ts.map V.ref/\ts.length=i/\Paired (λt h=>bj K H2 t [.str h,.bl true]) ts ((aa.take i).map (·.1))/\(∃y0 y1,σ2=[y0,y1])/\aD H H2/\H2 D=some (.lst ys))
  ⟨[],rfl,rfl,.nil,⟨none,none,rfl⟩,ah hD _,af⟩ (λi ys σ2 H2 _ h=>?_) (λi x ys σ2 H2 ex h=>?_) (λys σ2 H2 h=>?_)
 .obtain⟨_,_,_,_,_,sm,_⟩:=h;exact sm.seq hR
 .obtain⟨ts,rfl,ht,hp,⟨y0,y1,rfl⟩,sm,hd⟩:=h;rw [bH] at ex;obtain⟨r,er,rfl⟩:=cf.mp ex;obtain⟨ru,e1,p,v1,v2⟩:=cy.get er;have li:=(bR.mp e1).1;refine⟨r,_,rfl,sm.tup v1,rfl,_,_,rfl,_,_,rfl,rfl,?_⟩;refine zD ?_;refine⟨_,rfl,kc,λt hX=>⟨?_,bW (by rw [aC];omega),ts++[t],?_,?_,?_,⟨_,_,rfl⟩,?_,af⟩⟩
  .rw [aj (aq hd hX)];exact hd
  .rw [bu];rfl
  .rw [bZ,ht];rfl
  .rw [di,e1,bu];have iD:upd H2 t (.tup [.str ru.1,.bl true]) D=some (.lst (ts.map V.ref)):=by rw [aj (aq hd hX)];exact hd
   exact fJ (Paired.gA hp λt' h' z=>ba iD ((ah hX _).tup z)) (ba iD (bj.of af))
  intro b o hb;rw [aj (λz=>by rw [z,hD] at hb;cases hb)];exact ah hX _ _ _ (sm b o hb)
 obtain⟨ts,rfl,ht,hp,_,sm,hd⟩:=h;rw [aC,ll,de] at hp;exact q ts H2 sm hd hp
def jR (K:aY):Sp:=λvs H Q _=>∃(R:Addr)(rs:List Addr)(aa:List aA),vs=[.ref R]/\aH K H R (rs.map V.ref)/\bq K H rs aa/\aa.length<=1000 /\
 ∀D H',H D=none->aD H H'->H' D=some (.lst ((vG [] (aa.map (·.1))).map V.str))->Q (.ref D) H'
def Gh:aM ["rules"] ["rules"] (ax yG):=i5 rfl rfl rfl rfl nofun
def DX (F:hU K "heads_of" "heads_of" yG f fd)(T:Txt mg):bA P w K mg base e_ 1 f fd ["rules"] (jR K):=by
 refine F.ok Gh (λvs H Q E h=>?_) (λdG A outer s H vs Q E hr h=>?_)
 .obtain⟨R,rs,aa,rfl,_⟩:=h;rfl
 obtain⟨R,rs,aa,rfl,hR,cy,bI,q⟩:=h;refine⟨_,au (aW (a_ (lg rfl) rfl T.lst g_ (ae (a_ (dI rfl) rfl T.vY eV (ae
  (bY ["head","parts"] [] rfl (bK (pv 0)) (bL rfl rfl) nofun rfl nofun
   (λ_ _ _ _ _=>iq (n:=2) K rfl (aE (az (i:=0) (show (["head","parts"]:List Str).Nodup by decide +kernel) rfl (bO rfl)) (aE (az (i:=1) (show (["head","parts"]:List Str).Nodup by decide +kernel) rfl (bO rfl)) b_))) (λ_ _ _ _ _=>cP)
   (λ_ _ _ _ _=>bS (ae (pv 0) (ae eP ak)))) ak)) ak))),?_⟩
 dsimp only [pF];refine⟨_,rfl,R,rfl,⟨_,hR⟩,λD hD=>rp hR cy bI hD λts H2 sm hd hp=>?_⟩;have kp:Paired (λt (kv:aN×V)=>bj K H2 t [kV kv.1,kv.2]) ts ((aa.map (·.1)).map λh=>((Sum.inr h:aN),V.bl true)):=cE hp λ_ _ z=>z;refine⟨D,ts,_,rfl,hd,kp,λd hd2=>?_⟩;refine⟨d,_,rfl,af,λD2 ot=>?_⟩;rw [keys_str (mz (aa.map (·.1)) [] [] rfl)];have nd:D2≠d:=λz=>by rw [z,af] at ot;cases ot
 exact q D2 _ (sm.free (by rw [aj nd] at ot;exact ot)) (sm.trans ((ah hd2 _).trans (ah ot _))) af
theorem iX:∀(aa:List aA) (n:Nat),aa.length<=n->(∀ru∈aa,ru.2.length<=8)->(aa.flatMap (·.2)).length<=8 * n
 | [],n,_,_=>by simp
 | ru::r,n,hl,h=>by
  rw [cH] at hl;have:=iX r (n - 1) ∅ λx hx=>h x (cM _ hx);have:=h ru bT;rw [List.flatMap_cons,bZ];omega
def hd (aa:List aA):List Str:=vG [] (aa.map (·.1))
def Ad (K:aY):Sp:=λvs H Q _=>∃(R:Addr)(rs:List Addr)(aa:List aA),vs=[.ref R]/\aH K H R (rs.map V.ref)/\bq K H rs aa/\aa.length<=1000/\(∀ru∈aa,ru.2.length<=8) /\
 ∀D H',H D=none->aD H H'->H' D=some (.lst ((pJ (hd aa) [] (aa.flatMap (·.2))).map V.str))->Q (.ref D) H'
def jS:aM ["rules","heads","words","head","parts","part"] ["rules"] (ax yy):=i5 rfl rfl rfl rfl nofun
def DM (F:hU K "words_in" "words_in" yy f fd)(T:Txt mg):bA P w K mg base e_ 1 f fd ["rules"] (Ad K):=by
 refine F.ok jS (λvs H Q E h=>?_) (λdG A outer s H vs Q E hr h=>?_)
 .obtain⟨R,rs,aa,rfl,_⟩:=h;rfl
 obtain⟨R,rs,aa,rfl,hR,cy,bI,h8,q⟩:=h;have hu:=gq hr;refine⟨_,ao (aI (i:=1) jS.nd rfl (bO rfl) (a_ (dI rfl) rfl T.vY eV (ae
  (bY ["head","parts"] [] rfl (bK (pv 0)) (bL rfl rfl) nofun rfl nofun
   (λ_ _ _ _ _=>iq (n:=2) K rfl (aE (az (i:=0) (show (["head","parts"]:List Str).Nodup by decide +kernel) rfl (bO rfl)) (aE (az (i:=1) (show (["head","parts"]:List Str).Nodup by decide +kernel) rfl (bO rfl)) b_))) (λ_ _ _ _ _=>cP)
   (λ_ _ _ _ _=>bS (ae (pv 0) (ae eP ak)))) ak)))
  (ao (aI (i:=2) jS.nd rfl (bO rfl) fw)
  (ao (cD cU rfl (bK (pv 0)) (eJ rfl (aE (az (i:=3) jS.nd rfl (bO rfl)) (aE (az (i:=4) jS.nd rfl (bO rfl)) b_)))
   (au (cD cU rfl (iB (pv 4)) (az (i:=5) jS.nd rfl (bO rfl))
    (au (b9 (eI (du hu (pv 5) (pv 1))) (au (il hu (pv 2) (pv 5) eP rfl)) aZ)))))
  (au (aW (a_ (lg rfl) rfl T.lst g_ (ae (pv 2) ak)))))),?_⟩
 nofun
 refine⟨_,rfl,R,rfl,⟨_,hR⟩,λD hD=>rp hR cy bI hD λts H2 sm hd2 hp=>?_⟩;have kp:Paired (λt (kv:aN×V)=>bj K H2 t [kV kv.1,kv.2]) ts ((aa.map (·.1)).map λh=>((Sum.inr h:aN),V.bl true)):=cE hp λ_ _ z=>z;refine⟨D,ts,_,rfl,hd2,kp,λd hdd=>?_⟩;have Io:(cO ((aa.map (·.1)).map λh=>((Sum.inr h:aN),V.bl true)) []).map (·.1)=(hd aa).map Sum.inr:=mz (aa.map (·.1)) [] [] rfl;generalize cO ((aa.map (·.1)).map λh=>((Sum.inr h:aN),V.bl true)) []=kH at Io ⊢;have LO:=sm.trans (ah hdd (.dK kH));have iD:upd H2 d (.dK kH) d=some (.dK kH):=af;generalize upd H2 d (.dK kH)=H3 at LO iD;intro e he;have hde:∀o,upd H3 e o d=some (.dK kH):=λo=>by rw [aj (aq iD he)];exact iD
 have Ar:∀o,aD H (upd H3 e o):=λo=>LO.trans (ah he o);have ll:=bM cy
 let zW:zX:=λi σ H5=>∃(kvs:List (aN×V))(y3 y4 y5:Option V),σ=[bG R,bG d,bG e,y3,y4,y5]/\H5=upd H3 e (.dK kvs) /\
  kvs.map (·.1)=(pJ (hd aa) [] ((aa.take i).flatMap (·.2))).map Sum.inr
 refine⟨_,rfl,R,rfl,⟨_,(Ar _).seq hR⟩,eQ (xs:=rs.map V.ref) zW ⟨[],none,none,none,rfl,rfl,rfl⟩ ?_ ?_ ?_⟩
 .rintro i σ H5 _ ⟨kvs,y3,y4,y5,rfl,rfl,_⟩;exact(Ar _).seq hR
 .rintro i x σ H5 ex ⟨kvs,y3,y4,y5,rfl,rfl,hk⟩
  ac_nf0
  rw [bH] at ex;obtain⟨r,er,rfl⟩:=cf.mp ex;obtain⟨ru,e1,p,v1,v2⟩:=cy.get er;have li:=(bR.mp e1).1;have Mb:=h8 ru (bQ e1);have eT:(aa.take (i+1)).flatMap (·.2)=(aa.take i).flatMap (·.2)++ru.2:=by
   rw [di,e1,uu];simp
  have lA:((aa.take i).flatMap (·.2)).length<=8 * i:=iX (aa.take i) i (by rw [fh];omega) λru j7=>h8 ru (pZ j7);refine⟨r,_,rfl,(Ar _).tup v1,rfl,_,_,rfl,_,_,rfl,rfl,?_⟩
  let HG:zX:=λj σ H6=>∃(kvs:List (aN×V))(y5:Option V),σ=[bG R,bG d,bG e,some (.str ru.1),bG p,y5]/\H6=upd H3 e (.dK kvs) /\
   kvs.map (·.1)=(pJ (hd aa) [] ((aa.take i).flatMap (·.2)++ru.2.take j)).map Sum.inr
  refine⟨_,rfl,p,rfl,⟨_,(Ar _).tup v2⟩,vD (xs:=ru.2.map V.str) HG ⟨kvs,_,rfl,rfl,by rw [List.take_zero,dD];exact hk⟩ ?_ ?_ ?_⟩
  .rintro j σ H6 _ ⟨kvs,y5,rfl,rfl,_⟩;exact(Ar _).tup v2
  .rintro j x σ H6 EX ⟨kvs,y5,rfl,rfl,BU⟩
   ac_nf0
   rw [bH] at EX;obtain⟨z,ez,rfl⟩:=cf.mp EX;have lj:=(bR.mp ez).1;have eS:pJ (hd aa) [] ((aa.take i).flatMap (·.2)++ru.2.take (j+1))=addW (hd aa) (pJ (hd aa) [] ((aa.take i).flatMap (·.2)++ru.2.take j)) z:=by
    rw [di,ez,<-gS];exact List.foldl_append
   have lk:kvs.length<=8 * i+8:=by
    have h1:kvs.length=(pJ (hd aa) [] ((aa.take i).flatMap (·.2)++ru.2.take j)).length:=by
     have:=congrArg List.length BU;rw [aC,aC] at this;exact this
    have h2:=uH (hd aa) ((aa.take i).flatMap (·.2)++ru.2.take j) [];rw [bZ,fh] at h2;simp only [jw] at h2;omega
   have mem:(bh kH (Sum.inr z)).isSome=true↔z∈hd aa:=by rw [dU,Io];exact cR
   refine⟨_,rfl,_,rfl,d,_,rfl,cu.k (k:=Sum.inr z) (hde _),_,rfl,?_⟩;refine c_ (λc=>?_) (λc=>?_)
   .have nm:z∉hd aa:=λh=>by rw [mem.mpr h] at c;exact absurd c nofun
    refine⟨_,rfl,_,rfl,e,_,rfl,oF.k (k:=Sum.inr z) af (bW ∅),?_⟩;refine⟨bE kvs (Sum.inr z) (.bl true),_,rfl,by rw [jQ],?_⟩;rw [eS];unfold addW;rw [av nm];exact jM BU z
   have im:z∈hd aa:=mem.mp (by
    cases h:(bh kH (Sum.inr z)).isSome with
    | true=>rfl
    | false=>exact absurd (by rw [h];rfl) c)
   refine⟨kvs,_,rfl,rfl,?_⟩;rw [eS];unfold addW;rw [ay im];exact BU
  rintro σ H6 ⟨kvs,y5,rfl,rfl,BU⟩;rw [aC,de,<-eT] at BU;exact⟨kvs,_,_,_,rfl,rfl,BU⟩
 rintro σ H5 ⟨kvs,y3,y4,y5,rfl,rfl,hk⟩;rw [aC,ll,de] at hk;refine⟨_,rfl,e,_,rfl,af,λD2 ot=>?_⟩;rw [keys_str hk];exact q D2 _ ((Ar _).free ot) ((Ar _).trans (ah ot _)) af
end
end fg
namespace L2
open PySem PySem.Spec PyProof.Rows
def JM (K:aY):V->List V->Hp->VK->Prop:=λx vs H Q=>∃z a ts,x=.str z/\vs=[.ref a]/\bj K H a (ts.map V.str)/\(ts.map (·.length)).sum+ts.length * z.length<=16777216/\Q (.str (Txt.join z ts)) H
def Ei {X:Cx}:IY X "str.join" (JM X.K):=by
 intro ai s σ H x vs v us Q I rx rv h;obtain⟨z,a,ts,rfl,rfl,hq,hz,q⟩:=h;obtain⟨t,rfl⟩:=rx;obtain⟨u,rfl,ru⟩:=rv.one;cases (show u=Value.ref a from ru);obtain⟨aO,r,pl,_⟩:=I.tuple hq;exact join_tuple pl (by simpa using uL r) hz λt' k=>⟨.str _,H,I.tok _,⟨_,rfl⟩,q⟩
end L2
namespace fg
open PySem L2 M11
abbrev u0:Stmt:=top 52
abbrev yK:Stmt:=top 53
section
def BD:List Str:=["*","+","?"]
def Nw:Str:=Txt.join "" BD
def cm (z:Str):Bool:=decide ((z.length:Int)<=14) && !FK (.str (Txt.rstripChars z Nw)) [.str ":",.str "|"]
def lS:Sp:=λvs H Q _=>∃z:Str,vs=[.str z]/\z.length<=sizeLine/\∀H',aD H H'->Q (.bl (cm z)) H'
def Dg:aM ["word"] ["word"] (ax u0):=i5 rfl rfl rfl rfl nofun
def Bt {tm:Tok}{am:Addr}(F:hU K "is_part" "is_part" u0 f fd)(T:Txt mg)(hM:mg "MOST_SIGNS"=some (.int 14 tm))(hK:mg "MARKS"=some (.ref am))(hS:∀H,bj K H am (BD.map V.str)):bA P w K mg base e_ 1 f fd ["word"] lS:=by
 refine F.ok Dg (λvs H Q E h=>?_) (λdG A outer s H vs Q E hr h=>?_)
 .obtain⟨z,rfl,_⟩:=h;rfl
 obtain⟨z,rfl,hz,q⟩:=h;refine⟨_,au (aW (g6 (ir Ng (aJ mR rfl T.len fK (ae (pv 0) ak)) (cQ (v:=.int 14) rfl hM ⟨tm,rfl⟩) (bX _))
  (jH (ir vc (cX iK PySem.F.slot_str_rstrip PySem.F.type_str_rstrip Bz (pv 0) (ae (cX iK sr su Ei aF (ae (cQ (v:=.ref am) rfl hK rfl) ak)) ak)) (bS (ae aF (ae aF ak))) rfl)))),?_⟩
 dsimp only [pF];refine⟨_,rfl,z,rfl,hz,_,_,rfl,rfl,_,rfl,?_⟩;refine c_ (λc=>?_) (λc=>?_)
 .refine⟨_,rfl,rfl,rfl,"",am,BD,rfl,rfl,hS H,nofun,z,Nw,rfl,rfl,hz,nofun,λp hp=>⟨p,_,rfl,.inr (bj.of af),rfl,rfl,?_⟩⟩;have e:cm z=!FK (.str (Txt.rstripChars z Nw)) [.str ":",.str "|"]:=by unfold cm;rw [c];rfl
  have h:=q _ (ah hp (.tup [.str ":",.str "|"]));rw [e] at h;exact h
 have e:cm z=false:=by unfold cm;rw [pX.mpr c];rfl
 have h:=q H λ_ _ h=>h;rw [e] at h;exact h
def BQ {z:Str}(h:z.length<=14)(h1:(sg z).head?≠some 58)(h2:(sg z).head?≠some 124):cm z=true:=by
 unfold cm;rw [gC ∅,p8,nJ];unfold FK;rw [List.any_eq_false];intro y hy e;rcases aT.mp hy with rfl | hy
 .exact h1 (ma (eq_of_beq (show ((":":Str) == Txt.rstripChars z Nw)=true from e)).symm)
 rw [cJ.mp hy] at e;exact h2 (ma (eq_of_beq (show (("|":Str) == Txt.rstripChars z Nw)=true from e)).symm)
def again (z:Str):Bool:=decide ((1:Int) < (z.length:Int)) && ((sg z).getLast? == some 42 || (sg z).getLast? == some 43 || (sg z).getLast? == some 63)
def pN:Sp:=λvs H Q _=>∃z:Str,vs=[.str z]/\z.length<=sizeLine/\Q (.bl (again z)) H
def Gk:aM ["part"] ["part"] (ax yK):=i5 rfl rfl rfl rfl nofun
def Ea {am:Addr}(F:hU K "comes_again" "comes_again" yK f fd)(T:Txt mg)(hK:mg "MARKS"=some (.ref am))(hS:∀H,bj K H am (BD.map V.str)):bA P w K mg base e_ 1 f fd ["part"] pN:=by
 refine F.ok Gk (λvs H Q E h=>?_) (λdG A outer s H vs Q E hr h=>?_)
 .obtain⟨z,rfl,_⟩:=h;rfl
 obtain⟨z,rfl,hz,q⟩:=h;refine⟨_,au (aW (g6 (ir qI (aJ mR rfl T.len fK (ae (pv 0) ak)) ar (bX _))
  (jH (ir n_ (aQ Kt (pv 0) (sV nQ ar) (λ_ _=>rfl)) (cQ (v:=.ref am) rfl hK rfl) rfl)))),?_⟩
 dsimp only [pF];refine⟨_,rfl,z,rfl,hz,_,_,rfl,rfl,_,rfl,?_⟩;refine c_ (λc=>?_) (λc=>?_)
 .have c':=d5 c;obtain⟨x,ex⟩:∃x,(sg z).getLast?=some x:=by
   cases e:(sg z).getLast? with
   | some x=>exact⟨x,rfl⟩
   | none =>
    have e2:z.cps.toList=[]:=List.getLast?_eq_none_iff.mp e;have e3:z.length=0:=by show z.cps.size=0;rw [<-uq,e2];rfl
    omega
  have e0:again z=FK (.str ⟨#[x]⟩) (BD.map V.str):=by
   unfold again;rw [c,ex,p8];show ((some x == some 42) || (some x == some 43) || (some x == some 63))=(((⟨#[42]⟩:Str) == ⟨#[x]⟩) || (((⟨#[43]⟩:Str) == ⟨#[x]⟩) || (((⟨#[63]⟩:Str) == ⟨#[x]⟩) || false)))
   rw [PyProof.Rows.one_beq,PyProof.Rows.one_beq,PyProof.Rows.one_beq,Bool.or_false,Bool.or_assoc,iH];simp only [Bool.or_eq_true,beq_iff_eq,Option.some.injEq,decide_eq_true_eq];omega
  rw [e0] at q;refine⟨_,rfl,1,rfl,z,-1,x,rfl,rfl,hz,?_,am,_,rfl,.inr (hS H),rfl,nofun,q⟩;obtain⟨l,el⟩:=yf.mp ex;rw [show z.cps.toList=l++[x] from el];exact mS _ _
 have e:again z=false:=by unfold again;rw [pX.mpr c];rfl
 rw [e] at q;exact q
end
end fg
namespace L2
open PySem
def rC {X:Cx}(K:aY)(hK:X.K=K:=by rfl):dZ X (.type "tuple") (λxs H Q=>∃p ys,xs=[.ref p]/\((aH K H p ys/\∀l,H l=none->Q (.ref l) (upd H l (.tup ys)))\/(bj K H p ys/\Q (.ref p) H))):=by
 subst hK;exact eU
end L2
namespace fg
open PySem L2 M11
abbrev kN:Stmt:=top 51
section
def cC (d:List (List Str)) (c:List Str):List Str->Option (List (List Str))
 | []=>some (d++[c])
 | w::ws=>if w=("|":Str) then cC (d++[c]) [] ws else if cm w=true then cC d (c++[w]) ws else none
def Fo (R:Addr)(H H':Hp):Prop:=∀b o,b≠R->H b=some o->H' b=some o
def jD (K:aY):Sp:=λvs H Q _=>∃(h:Str)(W R:Addr) (ws:List Str)(rs:List Addr)(aa:List aA),vs=[.str h,.ref W,.ref R]/\aH K H W (ws.map V.str)/\ws.length<=100000/\(∀z∈ws,z.length<=sizeLine) /\
 H R=some (.lst (rs.map V.ref))/\bq K H rs aa/\rs.length<=100000/\(cC [] [] ws=none->∀H',aD H H'->Q (.bl false) H') /\
 (∀rws,cC [] [] ws=some rws->∀LR H',LR.length=rws.length->Fo R H H'->H' R=some (.lst ((rs++LR).map V.ref))->bq K H' (rs++LR) (aa++rws.map λp=>(h,p))->Q (.bl true) H')
theorem wD {α β:Type}{F:α->β->Prop}:∀{xs:List α}{ys:List β},Paired F xs ys->∀{i:Nat}{x:α},xs[i]?=some x->∃y,ys[i]?=some y/\F x y
 | _,_,.nil,i,x,e=>by cases i <;> cases e
 | _,_,.cons h t,0,x,e=>by cases e;exact⟨_,rfl,h⟩
 | _,_,.cons h t,i+1,x,e=>wD t e
theorem wF {α β:Type}{F:α->β->Prop}:∀{xs:List α}{ys:List β}{F4:List α}{Vj:List β},Paired F xs ys->Paired F F4 Vj->Paired F (xs++F4) (ys++Vj)
 | _,_,_,_,.nil,h=>h
 | _,_,_,_,.cons h t,h2=>.cons h (wF t h2)
structure Fs (H:Hp)(A0:Addr) (ws:List Str) (i:Nat)(H2:Hp)(d:List (List Str)) (c:List Str)(kn:List Addr)(ca:Addr):Prop where
 sm:aD H H2
 hA:H2 A0=some (.lst ((kn++[ca]).map V.ref))
 hd:Paired (λa l=>H2 a=some (.lst (List.map V.str l))) kn d
 hc:H2 ca=some (.lst (c.map V.str))
 fr:∀a∈kn++[ca],H a=none/\a≠A0
 fA:H A0=none
 nc:ca∉kn
 ld:d.length<=i
 lc:c.length<=i
 eq:cC d c (ws.drop i)=cC [] [] ws
def Fs.same {H H2 H3:Hp}{A0 ca:Addr}{ws:List Str}{i:Nat}{d:List (List Str)}{c:List Str}{kn:List Addr}(v:Fs H A0 ws i H2 d c kn ca)(s:aD H2 H3):Fs H A0 ws i H3 d c kn ca :=
 ⟨v.sm.trans s,s _ _ v.hA,Paired.gA v.hd λ_ _ z=>s _ _ z,s _ _ v.hc,v.fr,v.fA,v.nc,v.ld,v.lc,v.eq⟩
theorem sY {H2:Hp}:∀{kn:List Addr}{d:List (List Str)},Paired (λa l=>H2 a=some (.lst (List.map V.str l))) kn d->∀a∈kn,H2 a≠none
 | _,_,.cons h t,a,ha=>by
  rcases aT.mp ha with rfl | ha
  .rw [h];exact λz=>by cases z
  exact sY t a ha
theorem mq {H2:Hp}{p:Addr}{o:HO}:∀{kn:List Addr}{d:List (List Str)},p∉kn->Paired (λa l=>H2 a=some (.lst (List.map V.str l))) kn d->Paired (λa l=>upd H2 p o a=some (.lst (List.map V.str l))) kn d
 | _,_,_,.nil=>.nil
 | _,_,hp,.cons h t=>.cons (by rw [aj λz=>hp (by rw [<-z];exact bT)];exact h) (mq (λz=>hp (cM _ z)) t)
def Fs.cut {H H2:Hp}{A0 ca p:Addr}{ws:List Str}{i:Nat}{d:List (List Str)}{c:List Str}{kn:List Addr}(v:Fs H A0 ws i H2 d c kn ca)(ex:ws[i]?=some ("|":Str))(hp:H2 p=none) :
  Fs H A0 ws (i+1) (upd (upd H2 p (.lst [])) A0 (.lst ((kn++[ca]).map V.ref++[.ref p]))) (d++[c]) [] (kn++[ca]) p:=by
 have Wk:p≠A0:=λz=>by rw [z,v.hA] at hp;cases hp
 have Wy:H p=none:=v.sm.free hp;have VR:p∉kn++[ca]:=λhm=>by
  rcases cN.mp hm with hm | hm
  .exact sY v.hd p hm hp
  rw [cJ.mp hm,v.hc] at hp;cases hp
 have nA:A0∉kn++[ca]:=λhm=>(v.fr _ hm).2 rfl;obtain⟨hi,e⟩:=bR.mp ex;refine⟨λb o hb=>?_,by rw [af,bu (l₁:=kn++[ca])];rfl,?_,?_,?_,v.fA,VR,by rw [bZ];have:=v.ld;simp;omega,dC _,?_⟩
 .rw [aj (aq hb v.fA),aj (aq hb Wy)];exact v.sm b o hb
 .refine mq nA (mq VR ?_);exact fJ v.hd v.hc
 .rw [aj Wk,af];rfl
 .intro a ha;rcases cN.mp ha with ha | ha
  .exact v.fr a ha
  rw [cJ.mp ha];exact⟨Wy,Wk⟩
 rw [<-v.eq,v7 hi,e];show _=cC d c (("|":Str)::_);rw [cC,ay rfl]
def Fs.put {H H2:Hp}{A0 ca:Addr}{ws:List Str}{i:Nat}{d:List (List Str)}{c:List Str}{kn:List Addr}{w:Str}(v:Fs H A0 ws i H2 d c kn ca)(ex:ws[i]?=some w)(hw:w≠("|":Str))(hi:cm w=true) :
  Fs H A0 ws (i+1) (upd H2 ca (.lst (c.map V.str++[.str w]))) d (c++[w]) kn ca:=by
 have hf:=v.fr ca (fZ _ (cJ.mpr rfl));obtain⟨hl,e⟩:=bR.mp ex;refine⟨λb o hb=>?_,by rw [aj hf.2.symm];exact v.hA,mq v.nc v.hd,by rw [af,bu];rfl,v.fr,v.fA,v.nc,ug v.ld,by rw [bZ];have:=v.lc;simp;omega,?_⟩
 .rw [aj (aq hb hf.1)];exact v.sm b o hb
 rw [<-v.eq,v7 hl,e];rw [cC,av hw,ay hi]
def jF:aM ["head","words","rules","rows","word"] ["head","words","rules"] (ax kN):=i5 rfl rfl rfl rfl nofun
def ve (F:hU K "read_rules" "read_rules" kN f fd)(T:Txt mg)(GP:aG P w K mg base 1 "is_part" ["word"] lS):bA P w K mg base e_ 2 f fd ["head","words","rules"] (jD K):=by
 refine F.ok jF (λvs H Q E h=>?_) (λdG A outer s H vs Q E hr h=>?_)
 .obtain⟨h,W,R,ws,rs,aa,rfl,_⟩:=h;rfl
 obtain⟨h,W,R,ws,rs,aa,rfl,hW,hl,hz,hR,cy,KA,q0,q1⟩:=h;refine⟨_,ao (aI (i:=3) jF.nd rfl (bO rfl) (bo (ae (bo ak) ak)))
  (ao (cD cU rfl (bK (pv 1)) (az (i:=4) jF.nd rfl (bO rfl))
   (au (b9 (bJ iS (pv 4) aF (bX _)) (au (cv (cX f_ iL iM cA (pv 3) (ae (bo ak) ak))))
    (au (b9 (fc (bp GP hr rfl (ae (pv 4) ak))) (au (cv (cX f_ iL iM cA (aQ aL (pv 3) (sV nQ ar) (λ_ _=>rfl)) (ae (pv 4) ak))))
     (au (aW eP)))))))
  (ao (cv (cX f_ PySem.F.slot_list_extend PySem.F.type_list_extend BA (pv 2) (ae (bY ["parts"] [(0,"head")] rfl (bK (pv 3)) (bL rfl rfl) nofun rfl nofun
    (λ_ _ _ _ _=>az (i:=0) (show (["parts","head"]:List Str).Nodup by decide +kernel) rfl (bO rfl)) (λ_ _ _ _ _=>cP) (λ_ _ _ _ _=>bS (ae (pv 1) (ae (a_ (rC K) rfl T.tup qp (ae (pv 0) ak)) ak)))) ak)))
  (au (aW eP)))),?_⟩
 dsimp only [pF];refine⟨v9,λc0 Oq=>⟨FZ,λA0 Qb=>?_⟩⟩;have nA:A0≠c0:=λz=>by rw [z,af] at Qb;cases Qb
 have fA:H A0=none:=by rw [aj nA] at Qb;exact Qb
 have v0:Fs H A0 ws 0 (upd (upd H c0 (.lst [])) A0 (.lst [.ref c0])) [] [] [] c0:=by
  refine⟨λb o hb=>by rw [aj (aq hb fA),aj (aq hb Oq)];exact hb,af,.nil,by rw [aj nA.symm,af];rfl,λa ha=>?_,fA,(λz=>by cases z),aK _,aK _,rfl⟩;rw [cJ.mp ha];exact⟨Oq,nA.symm⟩
 generalize upd (upd H c0 (.lst [])) A0 (.lst [.ref c0])=H1 at v0;refine⟨_,rfl,W,rfl,⟨_,v0.sm.seq hW⟩,eQ (xs:=ws.map V.str) (λi σ H2=>∃d c kn ca y,σ=[some (.str h),bG W,bG R,bG A0,y]/\Fs H A0 ws i H2 d c kn ca) ⟨_,_,_,_,none,rfl,v0⟩ ?_ ?_ ?_⟩
 .rintro i σ H2 _ ⟨d,c,kn,ca,y,_,v⟩;exact v.sm.seq hW
 .rintro i x σ H2 ex ⟨d,c,kn,ca,y,rfl,v⟩;rw [bH] at ex;obtain⟨z,ez,rfl⟩:=cf.mp ex;have hi:=(bR.mp ez).1;have ld:=v.ld;have lc:=v.lc;have ll:=bM v.hd;refine goN ?_;refine⟨_,rfl,rfl,_,rfl,?_⟩;refine c_ (λe=>?_) (λe=>?_)
  .have e':z=("|":Str):=by
    have:=d5 e;injection this
   subst e';refine⟨_,rfl,.inl ⟨rfl,_,aH.of v.hA⟩,v9,λp hp=>⟨A0,(kn++[ca]).map V.ref,_,rfl,rfl,?_,?_,?_⟩⟩
   .rw [aj (aq v.hA hp)];exact v.hA
   .exact bW (by rw [aC,bZ,ll];simp;omega)
   exact⟨_,_,_,_,_,rfl,v.cut ez hp⟩
  have e':z≠("|":Str):=λhh=>e (gC (congrArg V.str hh));refine⟨_,rfl,z,rfl,hz z (bQ ez),λH3 s3=>⟨_,rfl,?_⟩⟩;have v3:=v.same s3;refine c_ (λhp=>?_) (λhp=>?_)
  .refine⟨_,rfl,1,rfl,A0,_,_,.ref ca,rfl,rfl,aH.of v3.hA,?_,.inl ⟨rfl,_,aH.of v3.hc⟩,_,rfl,ca,_,_,rfl,rfl,v3.hc,?_,?_⟩
   .rw [bu];exact mS _ _
   .exact bW (by rw [aC];omega)
   exact⟨_,_,_,_,_,rfl,v3.put ez e' hp⟩
  refine q0 ?_ H3 v3.sm;rw [<-v.eq,v7 hi,(bR.mp ez).2,cC,av e',av hp]
 rintro σ H2 ⟨d,c,kn,ca,y,rfl,v⟩;have ld:=v.ld;have ll:=bM v.hd;rw [aC] at v ld;have e0:cC [] [] ws=some (d++[c]):=by rw [<-v.eq,ub];rfl
 have pr:Paired (λa l=>H2 a=some (.lst (List.map V.str l))) (kn++[ca]) (d++[c]):=fJ v.hd v.hc;have lp:=bM pr;have lb:(d++[c]).length<=100001:=by rw [bZ];simp;omega
 refine⟨_,rfl,.inl ⟨rfl,_,aH.of (v.sm _ _ hR)⟩,_,rfl,A0,rfl,⟨_,aH.of v.hA⟩,λD hD=>cb (xs:=(kn++[ca]).map V.ref) (λi ys σ2 H3=>∃ts:List Addr,ys=ts.map V.ref/\ts.length=i/\bq K H3 ts (((d++[c]).take i).map λp=>(h,p))/\(∃y0,σ2=[y0,some (.str h)])/\aD H2 H3/\H3 D=some (.lst ys))
  ⟨[],rfl,rfl,.nil,⟨none,rfl⟩,ah hD _,af⟩ (λi ys σ2 H3 _ h=>?_) (λi x ys σ2 H3 ex h=>?_) (λys σ2 H3 h=>?_)⟩
 .obtain⟨_,_,_,_,_,sm,_⟩:=h;exact sm.seq (aH.of v.hA)
 .obtain⟨ts,rfl,ht,hp,⟨y0,rfl⟩,sm,hd⟩:=h;rw [bH] at ex;obtain⟨a,ea,rfl⟩:=cf.mp ex;obtain⟨l,el,ha⟩:=wD pr ea;have ha3:=sm _ _ ha;have li:i<=100001:=by have:=(bR.mp el).1;omega
  refine goN (zD ?_);refine⟨_,rfl,_,rfl,a,_,rfl,.inl ⟨aH.of ha3,λp je=>⟨kc,λt hX=>?_⟩⟩⟩;have WD:upd H3 p (.tup (l.map V.str)) D=some (.lst (ts.map V.ref)):=by rw [aj (aq hd je)];exact hd
  have vB:upd (upd H3 p (.tup (l.map V.str))) t (.tup [.str h,.ref p]) D=some (.lst (ts.map V.ref)):=by rw [aj (aq WD hX)];exact WD
  have s4:=(ah je (.tup (l.map V.str))).trans (ah hX (.tup [.str h,.ref p]));have tp:bj K (upd (upd H3 p (.tup (l.map V.str))) t (.tup [.str h,.ref p])) p (l.map V.str):=(ah hX (.tup [.str h,.ref p])).tup (bj.of af);refine⟨vB,bW (by rw [aC];omega),ts++[t],?_,?_,?_,⟨_,rfl⟩,?_,af⟩
  .rw [bu];rfl
  .rw [bZ,ht];rfl
  .rw [di,el,bu];exact fJ ((hp.same s4).keep λ_ _ z=>ba vB z) ⟨p,ba vB (bj.of af),ba vB tp⟩
  intro b o hb;rw [aj (λz=>by rw [z,hD] at hb;cases hb)];exact s4 _ _ (sm b o hb)
 obtain⟨ts,rfl,ht,hp,_,sm,hd⟩:=h;rw [aC,lp] at ht hp;rw [de] at hp;have TJ:=sm _ _ (v.sm _ _ hR);have sH:=v.sm.trans sm;refine⟨R,D,_,_,rfl,rfl,TJ,hd,fits (by rw [aC,aC];show rs.length+ts.length<=1000000;omega),?_⟩;refine q1 _ e0 ts _ ht (λb o hb hh=>by rw [aj hb];exact sH _ _ hh) (by rw [af,bu]) ?_;exact wF ((cy.same sH).keep λ_ _ z=>ba TJ z) (hp.keep λ_ _ z=>ba TJ z)
end
end fg
namespace L2
open PySem PySem.Spec PyProof.Rows
section
variable {prog:Program}{w:World}{A:Around}{E:Value->Shared->Prop}{s:Shared}
abbrev Fx (h:Heap)(z:Addr)(f0 f1:Value)(TI TO:Addr):Prop:=h.get? z=some { cls:=.type "zip",data:=.fields #[f0,f1,.bool false,.ref TI,.ref TO] }
end
structure U1 (h:Heap)(z TI TO i1 i2 l1 l2:Addr)(xs ys:Array Value) (i:Nat):Prop where
 hz:∃f0 f1,Fx h z f0 f1 TI TO/\(f0=.none\/∃T:Nat,f0=rawInt T)
 hI:IsPair h TI (.ref i1) (.ref i2)
 hO:∃a b,IsPair h TO a b
 h1:h.IsTupleIter i1 l1 i
 h2:h.IsTupleIter i2 l2 i
 t1:h.IsTuple l1 xs
 t2:h.IsTuple l2 ys
def wg {h h':Heap}{l:Addr}{xs:Array Value}(t:h.IsTuple l xs)(k:∀o,h.get? l=some o->h'.get? l=some o):h'.IsTuple l xs:=by
 obtain⟨o,a,b,c⟩:=t;exact⟨o,k o a,b,c⟩
def t_ (h:Heap) (N:Nat)(xs ys bB:Array Value):Prop:=∃Ts:List Nat,bB.toList=Ts.map Value.ref/\Ts.Pairwise (· < ·)/\∀(j T:Nat),Ts[j]?=some T->N<=T/\∃x y:Value,IsPair h T x y/\xs[j]?=some x/\ys[j]?=some y
def t_.keep {h h':Heap}{N:Nat}{xs ys bB:Array Value}(a:t_ h N xs ys bB)(k:∀(T:Nat) o,N<=T->h.get? T=some o->h'.get? T=some o):t_ h' N xs ys bB:=by
 obtain⟨Ts,e1,e2,e3⟩:=a;refine⟨Ts,e1,e2,λj T hj=>?_⟩;obtain⟨l,x,y,p,q⟩:=e3 j T hj;exact⟨l,x,y,k T _ l p,q⟩
def t_.more {h:Heap}{N T0:Nat}{xs ys bB:Array Value}{x y:Value}(a:t_ h N xs ys bB)(lt:∀(Ts:List Nat),bB.toList=Ts.map Value.ref->∀T∈Ts,T < T0)(hN:N<=T0)(p:IsPair h T0 x y)(hx:xs[bB.size]?=some x)(hy:ys[bB.size]?=some y):t_ h N xs ys (bB.push (.ref T0)):=by
 obtain⟨Ts,e1,e2,e3⟩:=a;have el:Ts.length=bB.size:=by
  have:=congrArg List.length e1;rw [aC] at this;rw [<-this];simp
 refine⟨Ts++[T0],by rw [Array.toList_push,e1,bu];rfl,List.pairwise_append.mpr ⟨e2,by simp,λT hT b hb=>by rw [cJ.mp hb];exact lt Ts e1 T hT⟩,λj T hj=>?_⟩;by_cases c:j < Ts.length
 .rw [sC c] at hj;exact e3 j T hj
 rw [p5 ∅] at hj;have c2:j - Ts.length=0:=by
  have:=(bR.mp hj).1;simp at this;omega
 rw [c2] at hj;cases hj;have:j=bB.size:=by omega
 rw [this];exact⟨hN,x,y,p,hx,hy⟩
def U1.keep {h h':Heap}{z TI TO i1 i2 l1 l2:Addr}{xs ys:Array Value}{i:Nat}(st:U1 h z TI TO i1 i2 l1 l2 xs ys i)(k:∀b o,h.get? b=some o->h'.get? b=some o):U1 h' z TI TO i1 i2 l1 l2 xs ys i:=by
 obtain⟨⟨f0,f1,a,b⟩,hI,⟨c,d,hO⟩,h1,h2,t1,t2⟩:=st;exact⟨⟨f0,f1,k _ _ a,b⟩,k _ _ hI,⟨c,d,k _ _ hO⟩,h1.at λo q=>k _ _ q,h2.at λo q=>k _ _ q,wg t1 λo q=>k _ _ q,wg t2 λo q=>k _ _ q⟩
end L2
namespace HT
open PySem PyProof.Rows
section
variable {prog:Program}{w:World}{A:Around}{E:Value->Shared->Prop}{s:Shared}
end
end HT
namespace L2
open PySem PySem.Spec PyProof.Rows
open PySem
section
variable {prog:Program}{w:World}{A:Around}{E:Value->Shared->Prop}{s:Shared}
end
structure ZTn (h:Heap)(z TI TO i1 i2 l1 l2:Addr) (i:Nat):Prop where
 hz:∃f0 f1,Fx h z f0 f1 TI TO/\(f0=.none\/∃T:Nat,f0=rawInt T)
 hI:IsPair h TI (.ref i1) (.ref i2)
 hO:∃a b,IsPair h TO a b
 h1:h.IsTupleIter i1 l1 i
 h2:h.IsTupleIter i2 l2 i
end L2
namespace HT
open PySem PySem.Spec PyProof.Rows
section
variable {prog:Program}{w:World}{A:Around}{E:Value->Shared->Prop}{s:Shared}
end
end HT
namespace L2
open PySem PySem.Spec PyProof.Rows
section
variable {prog:Program}{w:World}{A:Around}{E:Value->Shared->Prop}{s:Shared}
end
def FQ:List V->List V->Bool
 | [],[]=>true
 | x::xs,y::ys=>AX x y && FQ xs ys
 | _,_=>false
theorem oy:∀(xs ys:List V),((List.range (min xs.length ys.length)).all (λj=>AX (xs.getD j .dP) (ys.getD j .dP)) && (xs.length == ys.length))=FQ xs ys
 | [],[]=>rfl
 | [],y::ys=>by simp [FQ]
 | x::xs,[]=>by simp [FQ]
 | x::xs,y::ys=>by
  have ih:=oy xs ys;show _=(AX x y && FQ xs ys);rw [<-ih,cH,cH,Nat.succ_min_succ,List.range_succ_eq_map,List.all_cons,List.all_map];simp only [Function.comp_def,List.getD_cons_zero,List.getD_cons_succ,Nat.succ_eq_add_one];rw [Bool.and_assoc]
  congr 2
  simp
def zI {A:Around}{s:Shared}{xs ys:List V}{aO jd:List Value}(r:aU xs aO)(r2:aU ys jd)(fx:xs.all iY=true)(fy:ys.all iY=true) (j:Nat)(h1:j < aO.toArray.size)(h2:j < jd.toArray.size) :
  SeqAt.EqAt A s aO.toArray[j] jd.toArray[j] (AX (xs.getD j .dP) (ys.getD j .dP)):=by
 have l1:=r.length;have l2:=r2.length;have k1:j < aO.length:=by simpa using h1
 have k2:j < jd.length:=by simpa using h2
 have g1:xs[j]?=some (xs[j]'∅):=eG ∅;have g2:ys[j]?=some (ys[j]'∅):=eG ∅;obtain⟨u1,e1,q1⟩:=r.get g1;obtain⟨u2,e2,q2⟩:=r2.get g2;have f1:aO.toArray[j]=u1:=by
  have:=(bR.mp e1).2;simpa using this
 have f2:jd.toArray[j]=u2:=by
  have:=(bR.mp e2).2;simpa using this
 rw [f1,f2];have d1:xs.getD j .dP=xs[j]'∅:=by rw [oQ,g1];rfl
 have d2:ys.getD j .dP=ys[j]'∅:=by rw [oQ,g2];rfl
 rw [d1,d2];exact EZ q1 q2 (fY.mp fx _ (qd _)) (fY.mp fy _ (qd _))
def j6 (l:Addr)(items:Array Value)(Tg:(items.size:Int) < 2 ^ 63) :
  Meets (Builtin.«bool.__new__» ⟨[.type "bool",.ref l],[]⟩) (λ_ R s=>s.heap.IsList l items/\R (.ok (.ret (.bool (!items.isEmpty)))) { s with toks:=s.toks+1+1 }) :=
 Meets.of_wp λprog w A R s hs=>by
  obtain⟨hl,hs⟩:=hs;obtain⟨hp,g,d,tk,os⟩:=s;have f1:=F.conv_sub_bool
  repeat (any_goals (first | assumption | (with_reducible refine wpAny_truthy_list hl Tg ?_) | wp_step))
  all_goals first | exact⟨_,rfl,hs⟩ | exact hs | skip
def rE {X:Cx}:dZ X (.type "bool") (λxs H Q=>∃p ys,xs=[.ref p]/\aH X.K H p ys/\Q (.bl (!ys.isEmpty)) H):=by
 intro ai s σ H xs us Q I r h;obtain⟨p,ys,rfl,hq,q⟩:=h;obtain⟨u,rfl,rx⟩:=vals1 r;cases (show u=Value.ref p from rx);obtain⟨aO,rv,pl,hz⟩:=I.list hq;have l1:=rv.length;have hn:=jK;refine call_bool_1 (j6 p aO.toArray (by simp only [b8];omega)) ⟨pl.isList,rfl,?_⟩;have e:(aO.toArray.isEmpty)=ys.isEmpty:=by
  cases aO with
  | nil=>cases ys with
   | nil=>rfl
   | cons _ _=>cases l1
  | cons _ _=>cases ys with
   | nil=>cases l1
   | cons _ _=>rfl
 rw [e];exact⟨.bl _,H,I.tok _,rfl,q⟩
def Yv (K:aY):R2:=λx y H Q=>∃a b xs ys,x=.ref a/\y=.ref b/\aH K H a xs/\aH K H b ys/\xs.all iY=true/\ys.all iY=true/\Q (.bl (FQ xs ys)) H
def AG {X:Cx}(hu:X.A.units < cLine):oB X (compareOp .Eq) (Yv X.K):=by
 intro ai s σ H x y v u Q I rx ry h;obtain⟨a,b,xs,ys,rfl,rfl,ha,hb,fx,fy,q⟩:=h;cases rx;cases ry;obtain⟨aO,r,pl,hz⟩:=I.list ha;obtain⟨jd,r2,Nd,hz2⟩:=I.list hb;have l1:=r.length;have l2:=r2.length;by_cases hl:xs.length=ys.length
 .refine SeqAt.eq_listAt (e:=λj=>AX (xs.getD j .dP) (ys.getD j .dP)) pl.isList Nd.isList (by simp only [b8];omega) hu (λj h1 h2=>zI r r2 fx fy j h1 h2) ?_;have e:((List.range aO.toArray.size).all (λj=>AX (xs.getD j .dP) (ys.getD j .dP)))=FQ xs ys:=by
   rw [<-oy,hl,Nat.min_self,qe,Bool.and_true,b8,<-l1,hl]
  rw [e];exact⟨.bl _,H,I,rfl,q⟩
 have e:FQ xs ys=false:=by
  rw [<-oy,beq_false_of_ne hl,Bool.and_false]
 rw [e] at q;refine SeqAt.eq_list_lengthsAt pl.isList Nd.isList ?_ hu ⟨.bl false,H,I,rfl,q⟩;rw [b8,b8,<-l1,<-l2]
 first | exact hl | exact beq_false_of_ne hl | simpa using hl
end L2
namespace fg
open PySem L2 M11
abbrev l7:Stmt:=top 50
section
def jf (ns:List Str) (k:Nat):eK (ns.map V.str) (some (k:Int)) none=(ns.drop k).map V.str:=by
 have e1:HT.nY (ns.map V.str).length 0 (some (k:Int))=min k ns.length:=by
  unfold HT.nY;rw [aC];simp;omega
 have e2:HT.nY (ns.map V.str).length (ns.map V.str).length none=ns.length:=by
  unfold HT.nY;rw [aC]
 unfold eK;rw [e1,e2,<-List.map_drop];have h3:ns.drop (min k ns.length)=ns.drop k:=by
  by_cases h:k<=ns.length
  .rw [Nat.min_eq_left h]
  rw [Nat.min_eq_right ∅,ub,List.drop_of_length_le ∅]
 rw [h3,qo];rw [aC,oH];omega
def AY:∀ns:List Str,eK (ns.map V.str) (some 1) (some 2)=((ns.drop 1).take 1).map V.str
 | []=>rfl
 | [_]=>rfl
 | a::b::r=>by
  have e1:HT.nY ((a::b::r).map V.str).length 0 (some (1:Int))=1:=by
   unfold HT.nY;rw [aC];simp
  have e2:HT.nY ((a::b::r).map V.str).length ((a::b::r).map V.str).length (some (2:Int))=2:=by
   unfold HT.nY;rw [aC];simp
  unfold eK;rw [e1,e2];rfl
theorem kO {α β:Type}{F:α->β->Prop}:∀{ys:List β}{y:β}{xs:List α},Paired F xs (ys++[y])->∃zs z,xs=zs++[z]/\Paired F zs ys/\F z y
 | [],y,_,.cons r .nil=>⟨[],_,rfl,.nil,r⟩
 | _::ys,y,_,.cons r t=>by
  obtain⟨zs,z,rfl,h1,h2⟩:=kO (ys:=ys) t;exact⟨_::zs,z,rfl,.cons r h1,h2⟩
def gP (x:Str) (r:List Str):si ((x::r).map V.str) 0=some (.str x):=dY (j:=0) rfl
def Fo.tup {R:Addr}{H H':Hp}{ys:List V}(e:Fo R H H')(hR:H R=some (.lst ys)){a:Addr}{xs:List V}(h:bj K H a xs):bj K H' a xs:=by
 rcases h with (h | ⟨u,h⟩) | h
 .exact .inl (.inl (e _ _ (λz=>by rw [z,hR] at h;cases h) h))
 .exact .inl (.inr ⟨u,e _ _ (λz=>by rw [z,hR] at h;cases h) h⟩)
 exact .inr h
def fM:List Str:=["left","right","none"]
def xJ (R S:Addr)(H H':Hp):Prop:=∀b o,b≠R->b≠S->H b=some o->H' b=some o
inductive mU (aa stg:List aA):List Str->List aA->List aA->Prop
 | more (h:Str) (ps:List Str) (rest:List Str)(rws:List (List Str))(e:aa.getLast?=some (h,ps))(er:cC [] [] rest=some rws):mU aa stg (("|":Str)::rest) (aa++rws.map λp=>(h,p)) stg
 | head (h:Str) (rest:List Str)(rws:List (List Str))(hn:h≠("|":Str))(hp:cm h=true)(ha:again h=false)(er:cC [] [] rest=some rws):mU aa stg (h::(":":Str)::rest) (aa++rws.map λp=>(h,p)) stg
 | way (z:Str) (rest:List Str)(hz:z∈fM)(hr:rest≠[])(hc:rest.head?≠some (":":Str))(hp:∀p∈rest,cm p=true):mU aa stg (z::rest) aa (stg++[(z,rest)])
def Jd:∀z∈fM,z≠("|":Str):=by decide
def CU:∀z∈fM,FK (.str z) (fM.map V.str)=true:=by decide
def nS (K:aY):Sp:=λvs H Q _=>∃(W R S:Addr) (ws:List Str)(rs ss:List Addr)(aa stg gY uN:List aA),vs=[.ref W,.ref R,.ref S]/\aH K H W (ws.map V.str)/\ws.length<=100000/\(∀z∈ws,z.length<=sizeLine) /\
 H R=some (.lst (rs.map V.ref))/\bq K H rs aa/\rs.length<=100000/\H S=some (.lst (ss.map V.ref))/\bq K H ss stg/\ss.length<=100000/\R≠S/\mU aa stg ws gY uN /\
 (∀LS LM H',xJ R S H H'->H' R=some (.lst (LS.map V.ref))->bq K H' LS gY->H' S=some (.lst (LM.map V.ref))->bq K H' LM uN->Q (.bl true) H')
def sR:aM ["words","rules","strengths"] ["words","rules","strengths"] (ax l7):=i5 rfl rfl rfl rfl nofun
def qJ {aw:Addr}(F:hU K "read_row" "read_row" l7 f fd)(T:Txt mg)(hW:mg "WAYS"=some (.ref aw))(hS:∀H,bj K H aw (fM.map V.str))(GP:aG P w K mg base 1 "is_part" ["word"] lS)(GA:aG P w K mg base 1 "comes_again" ["part"] pN)
  (GR:aG P w K mg base 2 "read_rules" ["head","words","rules"] (jD K)):bA P w K mg base e_ 3 f fd ["words","rules","strengths"] (nS K):=by
 refine F.ok sR (λvs H Q E h=>?_) (λdG A outer s H vs Q E hr h=>?_)
 .obtain⟨W,R,S,ws,rs,ss,aa,stg,gY,uN,rfl,_⟩:=h;rfl
 obtain⟨W,R,S,ws,rs,ss,aa,stg,gY,uN,rfl,lD,hl,hz,hR,cy,KA,Qa,pS,hss,Eh,ok,q⟩:=h;have hu:=oK (Nat.le_add_right _ 64) hr.units;refine⟨_,ao (b9 (bJ iS (aQ aL (pv 0) ar (λ_ _=>rfl)) aF (bX _))
   (au (aW (g6 (a_ rE rfl T.UE x_ (ae (pv 1) ak)) (jH (bp GR hr rfl (ae (aQ cK (aQ aL (pv 1) (sV nQ ar) (λ_ _=>rfl)) ar (λ_ _=>rfl)) (ae (dO eY (pv 0) (dW ar) fV) (ae (pv 1) ak)))))))) aZ)
  (ao (b9 (bJ (AG hu) (dO eY (pv 0) (dW ar) (dW ar)) (bo (ae aF ak)) (bX _))
   (au (aW (g6 (bp (GP.mono (by decide:1<=2)) hr rfl (ae (aQ aL (pv 0) ar (λ_ _=>rfl)) ak)) (g6 (u_ (bp (GA.mono (by decide:1<=2)) hr rfl (ae (aQ aL (pv 0) ar (λ_ _=>rfl)) ak)))
    (jH (bp GR hr rfl (ae (aQ aL (pv 0) ar (λ_ _=>rfl)) (ae (dO eY (pv 0) (dW ar) fV) (ae (pv 1) ak))))))))) aZ)
  (ao (b9 (PW.pt (gZ (bJ n_ (aQ aL (pv 0) ar (λ_ _=>rfl)) (cQ (v:=.ref aw) rfl hW rfl) rfl) (gZ (bJ qI (aJ bN rfl T.len fK (ae (pv 0) ak)) ar (bX _))
    (i9 (fc (aJ (jZ rfl) rfl T.all boot_all (ae (bY ["word"] [] rfl (bK (dO eY (pv 0) (dW ar) fV)) (bL rfl rfl) nofun rfl nofun
     (λ_ _ _ _ _=>az (i:=0) (show (["word"]:List Str).Nodup by decide +kernel) rfl (bO rfl)) (λ_ _ _ _ _=>cP) (λ_ _ _ _ _=>bp (GP.mono (by decide:1<=2)) hr rfl (ae (pv 0) ak))) ak)))))))
   (ao (cv (cX f_ iL iM cA (pv 2) (ae (bS (ae (aQ aL (pv 0) ar (λ_ _=>rfl)) (ae (a_ eU rfl T.tup qp (ae (dO eY (pv 0) (dW ar) fV) ak)) ak))) ak)))
   (au (aW eP))) aZ)
  (au (aW eP)))),?_⟩
 dsimp only [pF];have SW:ws≠[]:=by
  cases ok <;> exact List.cons_ne_nil _ _
 cases ok with
 | more h ps rest rws e er =>
  obtain⟨r0,e0⟩:=yf.mp e;subst e0;have lp:=bM cy;obtain⟨Gp,rl,rfl,CB,⟨pa,v1,v2⟩⟩:∃Gp rl,rs=Gp++[rl]/\bq K H Gp r0/\tY K H rl (h,ps):=kO cy;refine⟨_,rfl,W,_,_,_,rfl,rfl,lD,gP _ _,rfl,true,rfl,?_⟩;refine fU ?_;refine⟨_,rfl,R,_,rfl,aH.of hR,true,by rw [bu];simp,?_⟩;refine fU ?_;refine⟨_,rfl,1,rfl,R,_,_,.ref rl,rfl,rfl,aH.of hR,by rw [bu];exact mS _ _,rl,_,_,_,rfl,rfl,v1,rfl,_,rfl,1,rfl,W,_,rfl,lD,λp hp=>⟨_,rfl,?_⟩⟩;have s1:=ah hp (.lst (eK (List.map V.str (("|":Str)::rest)) (some 1) none));have BS:upd H p (.lst (eK (List.map V.str (("|":Str)::rest)) (some 1) none)) p=some (.lst (rest.map V.str)):=by
   rw [af,show ((1:Int))=((1:Nat):Int) from rfl,jf];rfl
  generalize upd H p (.lst (eK (List.map V.str (("|":Str)::rest)) (some 1) none))=H1 at s1 BS;refine⟨h,p,R,rest,Gp++[rl],r0++[(h,ps)],rfl,aH.of BS,by simp at hl;omega,λz Kw=>hz z (cM _ Kw),s1 _ _ hR,cy.same s1,KA,λe'=>(by rw [er] at e';cases e'),λJI e' LR H' l2 sb AO rW=>?_⟩;rw [er] at e';cases e';exact q _ ss H' (λb o hb _ ho=>sb b o hb (s1 _ _ ho)) AO rW (sb _ _ Eh.symm (s1 _ _ Qa)) ((pS.same s1).keep λ_ _ z=>sb.tup (s1 _ _ hR) z)
 | head h rest rws hn hp ha er =>
  have CA:=hz h bT;refine⟨_,rfl,W,_,_,_,rfl,rfl,lD,gP _ _,rfl,false,by rw [eM (λz=>hn (V.str.inj z))],?_⟩;refine eC ?_;refine⟨_,rfl,1,rfl,2,rfl,W,_,rfl,lD,λp BS=>⟨FZ,λp2 je=>?_⟩⟩;rw [AY] at je ⊢;have s1:=ah BS (.lst (List.map V.str (((h::(":":Str)::rest).drop 1).take 1)));have e1:upd H p (.lst (List.map V.str (((h::(":":Str)::rest).drop 1).take 1))) p=some (.lst [.str ":"]):=af;generalize upd H p (.lst (List.map V.str (((h::(":":Str)::rest).drop 1).take 1)))=H1 at s1 e1 je;have s2:=s1.trans (ah je (.lst [.str ":"]));have e2:=ah je (.lst [.str ":"]) _ _ e1;have e3:upd H1 p2 (.lst [.str ":"]) p2=some (.lst [.str ":"]):=af;generalize upd H1 p2 (.lst [.str ":"])=H2 at s2 e2 e3;refine⟨p,p2,_,_,rfl,rfl,aH.of e2,aH.of e3,rfl,rfl,true,rfl,?_⟩;refine fU ?_;refine⟨_,rfl,W,_,_,_,rfl,rfl,s2.seq lD,gP _ _,h,rfl,CA,λH3 s3=>?_⟩;have s4:=s2.trans s3;rw [hp];refine⟨_,rfl,?_⟩;refine fU ?_;refine⟨_,rfl,W,_,_,_,rfl,rfl,s4.seq lD,gP _ _,h,rfl,CA,?_⟩;rw [ha];refine⟨_,rfl,_,rfl,?_⟩;refine fU ?_;refine⟨_,rfl,W,_,_,_,rfl,rfl,s4.seq lD,gP _ _,_,rfl,2,rfl,W,_,rfl,s4.seq lD,λp3 KD=>⟨_,rfl,?_⟩⟩;have s5:=s4.trans (ah KD (.lst (eK (List.map V.str (h::(":":Str)::rest)) (some 2) none)));have e5:upd H3 p3 (.lst (eK (List.map V.str (h::(":":Str)::rest)) (some 2) none)) p3=some (.lst (rest.map V.str)):=by
   rw [af,show ((2:Int))=((2:Nat):Int) from rfl,jf];rfl
  generalize upd H3 p3 (.lst (eK (List.map V.str (h::(":":Str)::rest)) (some 2) none))=H5 at s5 e5;refine⟨h,p3,R,rest,rs,aa,rfl,aH.of e5,by simp at hl;omega,λz Kw=>hz z (cM _ (cM _ Kw)),s5 _ _ hR,cy.same s5,KA,λe'=>(by rw [er] at e';cases e'),λJI e' LR H' l2 sb AO rW=>?_⟩;rw [er] at e';cases e';exact q _ ss H' (λb o hb _ ho=>sb b o hb (s5 _ _ ho)) AO rW (sb _ _ Eh.symm (s5 _ _ Qa)) ((pS.same s5).keep λ_ _ z=>sb.tup (s5 _ _ hR) z)
 | way z rest CA CB hc hp =>
  have lr:(z::rest).length<=100000:=hl;rw [cH] at lr;have l0:0 < rest.length:=List.length_pos_iff.mpr CB;refine⟨_,rfl,W,_,_,_,rfl,rfl,lD,gP _ _,rfl,false,by rw [eM (λe=>Jd z CA (V.str.inj e))],?_⟩;refine eC ?_;refine⟨_,rfl,1,rfl,2,rfl,W,_,rfl,lD,λp BS=>⟨FZ,λp2 je=>?_⟩⟩;rw [AY] at je ⊢;have s1:=ah BS (.lst (List.map V.str (((z::rest).drop 1).take 1)));have e1:upd H p (.lst (List.map V.str (((z::rest).drop 1).take 1))) p=some (.lst (List.map V.str (rest.take 1))):=af;generalize upd H p (.lst (List.map V.str (((z::rest).drop 1).take 1)))=H1 at s1 e1 je;have s2:=s1.trans (ah je (.lst [.str ":"]));have e2:=ah je (.lst [.str ":"]) _ _ e1;have e3:upd H1 p2 (.lst [.str ":"]) p2=some (.lst [.str ":"]):=af;generalize upd H1 p2 (.lst [.str ":"])=H2 at s2 e2 e3;have ef:FQ (List.map V.str (rest.take 1)) [.str ":"]=false:=by
   cases rest with
   | nil=>rfl
   | cons a r =>
    show ((a == (":":Str)) && true)=false;rw [Bool.and_true,iJ];exact λe=>hc (by rw [e];rfl)
  refine⟨p,p2,_,_,rfl,rfl,aH.of e2,aH.of e3,?_,rfl,false,by rw [ef],?_⟩
  .rw [fY];intro x hx;obtain⟨y,_,rfl⟩:=cT.mp hx;rfl
  refine eC ?_;refine⟨_,rfl,W,_,_,_,rfl,rfl,s2.seq lD,gP _ _,aw,_,rfl,.inr (hS _),rfl,nofun,true,by rw [av nofun,CU z CA],?_⟩;refine fU ?_;refine⟨_,rfl,W,_,rfl,.inl (s2.seq lD),_,_,rfl,rfl,true,congrArg V.bl (gC (by rw [aC,cH];omega)),?_⟩;refine fU ?_;refine⟨_,rfl,1,rfl,W,_,rfl,s2.seq lD,λp3 KD=>?_⟩;have s3:=s2.trans (ah KD (.lst (eK (List.map V.str (z::rest)) (some 1) none)));have e4:upd H2 p3 (.lst (eK (List.map V.str (z::rest)) (some 1) none)) p3=some (.lst (rest.map V.str)):=by
   rw [af,show ((1:Int))=((1:Nat):Int) from rfl,jf];rfl
  generalize upd H2 p3 (.lst (eK (List.map V.str (z::rest)) (some 1) none))=H3 at s3 e4;refine⟨p3,rfl,⟨_,aH.of e4⟩,λD hD=>cb (xs:=rest.map V.str) (λi ys σ2 H4=>ys=(List.replicate i true).map V.bl/\(∃y0,σ2=[y0])/\aD H3 H4/\H4 D=some (.lst ys))
   ⟨rfl,⟨none,rfl⟩,ah hD _,af⟩ (λi ys σ2 H4 _ h=>h.2.2.1.seq (aH.of e4)) (λi x ys σ2 H4 ex h=>?_) (λys σ2 H4 h=>?_)⟩
  .obtain⟨rfl,⟨y0,rfl⟩,sm,hd⟩:=h;rw [bH] at ex;obtain⟨y,ey,rfl⟩:=cf.mp ex;have hm:=bQ ey;have li:=(bR.mp ey).1;refine goN (zD ?_);refine⟨_,rfl,y,rfl,hz y (cM _ hm),λH5 s5=>?_⟩;rw [hp y hm];refine⟨s5 _ _ hd,bW (by rw [aC,ql];omega),by rw [List.replicate_succ',bu];rfl,⟨_,rfl⟩,λb o hb=>?_,af⟩;rw [aj (λe=>by rw [e,hD] at hb;cases hb)];exact s5 _ _ (sm b o hb)
  obtain⟨rfl,_,sm,hd⟩:=h;have s6:=s3.trans sm;refine⟨D,_,rfl,aH.of hd,true,by rw [List.all_replicate];simp,?_⟩;refine fU ?_;refine⟨_,rfl,.inl ⟨rfl,_,aH.of (s6 _ _ Qa)⟩,_,rfl,W,_,_,_,rfl,rfl,s6.seq lD,gP _ _,_,rfl,1,rfl,W,_,rfl,s6.seq lD,λp4 hp4=>?_⟩;have s7:=s6.trans (ah hp4 (.lst (eK (List.map V.str (z::rest)) (some 1) none)));have e7:upd H4 p4 (.lst (eK (List.map V.str (z::rest)) (some 1) none)) p4=some (.lst (rest.map V.str)):=by
   rw [af,show ((1:Int))=((1:Nat):Int) from rfl,jf];rfl
  generalize upd H4 p4 (.lst (eK (List.map V.str (z::rest)) (some 1) none))=H7 at s7 e7;refine⟨p4,_,rfl,.inl ⟨aH.of e7,λt ht=>⟨kc,λt2 hX=>?_⟩⟩⟩;have s8:=(ah ht (.tup (rest.map V.str))).trans (ah hX (.tup [.str z,.ref t]));have t8:bj K (upd (upd H7 t (.tup (rest.map V.str))) t2 (.tup [.str z,.ref t])) t (rest.map V.str):=(ah hX (.tup [.str z,.ref t])).tup (bj.of af);have t9:bj K (upd (upd H7 t (.tup (rest.map V.str))) t2 (.tup [.str z,.ref t])) t2 [.str z,.ref t]:=bj.of af;generalize upd (upd H7 t (.tup (rest.map V.str))) t2 (.tup [.str z,.ref t])=H8 at s8 t8 t9;have s9:=s7.trans s8;have Ov:=s9 _ _ Qa;refine⟨S,_,_,rfl,rfl,Ov,bW (by rw [aC];omega),?_⟩;refine q rs (ss++[t2]) _ (λb o _ hb ho=>by rw [aj hb];exact s9 _ _ ho) (by rw [aj Eh];exact s9 _ _ hR) ((cy.same s9).keep λ_ _ y=>ba Ov y) (by rw [af,bu];rfl) ?_;exact fJ ((pS.same s9).keep λ_ _ y=>ba Ov y) ⟨t,ba Ov t9,ba Ov t8⟩
end
end fg
namespace L2
open PySem
def tP {K:aY}{H:Hp}{p D d:Addr}{zs:List Str}{kvs:List (aN×V)}{σ:St}{js:List (Nat×Str)}{Qp:Hp->Prop}(hσ:eE ["part"] js σ=[none,bG d])(hp:bj K H p (zs.map V.str))(hz:zs.length<=1000)
  (hd:H d=some (.dK kvs))(hD:H D=none)(q:∀H2,aD H H2->H2 D=some (.lst ((zs.map λz=>(bh kvs (Sum.inr z)).isSome).map V.bl))->Qp H2) :
  ∃W:Nat->Nat->List V->St->Hp->Prop,(∃m,W 0 m [] (eE ["part"] js σ) (upd H D (.lst []))) /\
 ∀i m ys σ' H,W i m ys σ' H->((rK K p).stop i H/\Qp H)\/((rK K p).go i H/\∃m',m' < m/\∀x H',(rK K p).nO i H x H'->dX 0 x σ' H' λσ2 H2=>iO σ2 H2 λb H3 =>
  if b=true then MU (fE 0) (fE 1) σ2 H3 λy H4=>H4 D=some (.lst ys)/\ys.length < sizeLine/\W (i+1) m' (ys++[y]) σ2 (upd H4 D (.lst (ys++[y]))) else W (i+1) m' ys σ2 H3):=by
 refine iZ (xs:=zs.map V.str) (λi ys σ2 H2=>ys=(((zs.take i).map λz=>(bh kvs (Sum.inr z)).isSome).map V.bl)/\(∃y0,σ2=[y0,bG d])/\aD H H2/\H2 D=some (.lst ys))
  ⟨rfl,⟨none,hσ⟩,ah hD _,af⟩ (λi ys σ2 H2 _ h=>h.2.2.1.tup hp) (λi x ys σ2 H2 ex h=>?_) (λys σ2 H2 h=>?_)
 .obtain⟨rfl,⟨y0,rfl⟩,sm,hd2⟩:=h;rw [bH] at ex;obtain⟨z,ez,rfl⟩:=cf.mp ex;have li:=(bR.mp ez).1;refine goN (zD ?_);refine⟨_,rfl,_,rfl,d,_,rfl,cu.k (k:=Sum.inr z) (sm _ _ hd),hd2,bW (by rw [aC,aC,fh];omega),?_,⟨_,rfl⟩,?_,af⟩
  .rw [di,ez,bu,bu];rfl
  intro b o hb;rw [aj (λz=>by rw [z,hD] at hb;cases hb)];exact sm b o hb
 obtain⟨rfl,_,sm,hd2⟩:=h;rw [aC,de] at hd2;exact q H2 sm hd2
def gh {K:aY}{H:Hp}{D a:Addr}{xs:List V}{ys:List (aN×V)}{o:HO}(hD:H D=some (.dK ys))(h:bj K H a xs):bj K (upd H D o) a xs:=by
 rcases h with (h | ⟨u,h⟩) | h
 .exact .inl (.inl (by rw [aj (λz=>by rw [z,hD] at h;cases h)];exact h))
 .exact .inl (.inr ⟨u,by rw [aj (λz=>by rw [z,hD] at h;cases h)];exact h⟩)
 exact .inr h
theorem fj {α:Type} [DecidableEq α]:∀(l m:List α),l.Nodup->(∀x∈l,x∈m)->l.length<=m.length
 | [],m,_,_=>dC _
 | a::l,m,hn,h=>by
  have hm:=h a bT;have:=fj l (m.erase a) (oG.mp hn).2 λx hx=>(List.mem_erase_of_ne (λz:x=a=>(oG.mp hn).1 (by rw [<-z];exact hx))).mpr (h x (cM _ hx));rw [List.length_erase_of_mem hm] at this;have:=List.length_pos_of_mem hm;rw [cH];omega
end L2
namespace M11
open PySem L2
inductive vP (aa:List aA):List (Str×Nat)->Prop
 | nil:vP aa []
 | snoc {bc:List (Str×Nat)}{k:Nat}{ru:aA}:vP aa bc->aa[k]?=some ru->ru.1∉bc.map (·.1)->(∀p∈ru.2,p∈bc.map (·.1))->vP aa (bc++[(ru.1,k)])
def xQ (aa:List aA) (n:Nat)(bc:List (Str×Nat)):Prop:=∀ru∈aa.take n,(∀p∈ru.2,p∈bc.map (·.1))->ru.1∈bc.map (·.1)
def vP.nd {aa:List aA}{bc:List (Str×Nat)}(h:vP aa bc):(bc.map (·.1)).Nodup:=by
 induction h with
 | nil=>exact lF
 | snoc h e n p ih =>
  rw [bu];refine jx.mpr ⟨ih,by simp,λa ha b hb=>?_⟩;rw [nN,cJ] at hb;exact λz=>n (by rw [<-hb,<-z];exact ha)
def vP.head {aa:List aA}{bc:List (Str×Nat)}(h:vP aa bc):∀x∈bc.map (·.1),x∈aa.map (·.1):=by
 induction h with
 | nil=>simp
 | snoc h e n p ih =>
  intro x hx;rw [bu] at hx;rcases cN.mp hx with hx | hx
  .exact ih x hx
  rw [nN,cJ] at hx;rw [hx];exact iI (bQ e)
def vP.len {aa:List aA}{bc:List (Str×Nat)}(h:vP aa bc):bc.length<=aa.length:=by
 have:=fj _ _ h.nd h.head;rw [aC,aC] at this;exact this
end M11
namespace fg
open PySem L2 M11
section
def oC (K:aY)(H:Hp)(ts:List Addr)(bc:List (Str×Nat)):Prop:=Paired (λt (e:Str×Nat)=>bj K H t [.str e.1,.int (e.2:Int)]) ts bc
def oC.keep {H H':Hp}{ts:List Addr}{bc:List (Str×Nat)}(h:oC K H ts bc)(k:∀a xs,bj K H a xs->bj K H' a xs):oC K H' ts bc:=Paired.gA h λt e z=>k _ _ z
structure Ba (K:aY)(aa:List aA)(H H5:Hp)(D d:Addr)(ts:List Addr)(bc:List (Str×Nat))(kvs:List (aN×V)):Prop where
 sm:aD H H5
 hD:H5 D=some (.lst (ts.map V.ref))
 hd:H5 d=some (.dK kvs)
 keys:kvs.map (·.1)=(bc.map (·.1)).map Sum.inr
 ev:oC K H5 ts bc
 emp:vP aa bc
def Ba.same {aa:List aA}{H H5 H6:Hp}{D d:Addr}{ts:List Addr}{bc:List (Str×Nat)}{kvs:List (aN×V)}(h:Ba K aa H H5 D d ts bc kvs)(s:aD H5 H6):Ba K aa H H6 D d ts bc kvs :=
 ⟨h.sm.trans s,s _ _ h.hD,s _ _ h.hd,h.keys,h.ev.keep λ_ _ z=>s.tup z,h.emp⟩
def Ba.mem {aa:List aA}{H H5:Hp}{D d:Addr}{ts:List Addr}{bc:List (Str×Nat)}{kvs:List (aN×V)}(h:Ba K aa H H5 D d ts bc kvs)(z:Str):(bh kvs (Sum.inr z)).isSome=true↔z∈bc.map (·.1):=by
 rw [dU,h.keys];exact cR
def Ba.len {aa:List aA}{H H5:Hp}{D d:Addr}{ts:List Addr}{bc:List (Str×Nat)}{kvs:List (aN×V)}(h:Ba K aa H H5 D d ts bc kvs):ts.length=bc.length/\kvs.length=bc.length:=by
 refine⟨bM h.ev,?_⟩;have:=congrArg List.length h.keys;simpa using this
def Ba.more {aa:List aA}{H H5:Hp}{D d t:Addr}{ts:List Addr}{bc:List (Str×Nat)}{kvs:List (aN×V)}(h:Ba K aa H H5 D d ts bc kvs)(fD:H D=none)(fd:H d=none){k:Nat}{ru:aA}(e:aa[k]?=some ru)
  (n:ru.1∉bc.map (·.1))(p:∀x∈ru.2,x∈bc.map (·.1))(ht:upd H5 d (.dK (bE kvs (Sum.inr ru.1) (.bl true))) t=none) :
  Ba K aa H (upd (upd (upd H5 d (.dK (bE kvs (Sum.inr ru.1) (.bl true)))) t (.tup [.str ru.1,.int (k:Int)])) D (.lst (ts.map V.ref++[.ref t]))) D d (ts++[t]) (bc++[(ru.1,k)]) (bE kvs (Sum.inr ru.1) (.bl true)):=by
 have VY:D≠d:=λz=>by have:=h.hD;rw [z,h.hd] at this;cases this
 have nt:t≠d:=λz=>by rw [z,af] at ht;cases ht
 have Ky:H5 t=none:=by rw [aj nt] at ht;exact ht
 have Zg:D≠t:=λz=>by rw [<-z,h.hD] at Ky;cases Ky
 have ot:upd (upd H5 d (.dK (bE kvs (Sum.inr ru.1) (.bl true)))) t (.tup [.str ru.1,.int (k:Int)]) D=some (.lst (ts.map V.ref)):=by rw [aj Zg,aj VY];exact h.hD
 have kp:∀a xs,bj K H5 a xs->bj K (upd (upd (upd H5 d (.dK (bE kvs (Sum.inr ru.1) (.bl true)))) t (.tup [.str ru.1,.int (k:Int)])) D (.lst (ts.map V.ref++[.ref t]))) a xs:=λa xs z =>
  ba ot ((ah ht _).tup (gh h.hd z))
 refine⟨λb o hb=>?_,by rw [af,bu];rfl,by rw [aj VY.symm,aj nt.symm,af],?_,fJ (h.ev.keep kp) (ba ot (bj.of af)),.snoc h.emp e n p⟩
 .have:=h.sm b o hb;rw [aj (λz=>by rw [z,fD] at hb;cases hb),aj (λz=>by rw [z,Ky] at this;cases this),aj (λz=>by rw [z,fd] at hb;cases hb)];exact this
 rw [ij (by rw [h.keys];exact λz=>n (cR.mp z)),h.keys,bu,bu];rfl
def nV (K:aY):Sp:=λvs H Q _=>∃(R:Addr)(rs:List Addr)(aa:List aA),vs=[.ref R]/\aH K H R (rs.map V.ref)/\bq K H rs aa/\aa.length<=1000/\(∀ru∈aa,ru.2.length<=8) /\
 ∀D ts bc H',H D=none->aD H H'->H' D=some (.lst (ts.map V.ref))->oC K H' ts bc->vP aa bc->xQ aa aa.length bc->Q (.ref D) H'
def fO:aM ["rules","told","empty","many","number","rule"] ["rules"] (ax qF):=i5 rfl rfl rfl rfl nofun
def y_ (F:hU K "found_empties" "found_empties" qF f fd)(T:Txt mg):bA P w K mg base e_ 1 f fd ["rules"] (nV K):=by
 refine F.ok fO (λvs H Q E h=>?_) (λdG A outer s H vs Q E hr h=>?_)
 .obtain⟨R,rs,aa,rfl,_⟩:=h;rfl
 obtain⟨R,rs,aa,rfl,hR,cy,bI,h8,q⟩:=h;have hu:=gq hr;refine⟨_,ao (aI (i:=1) fO.nd rfl (bO rfl) (bo ak))
  (ao (aI (i:=2) fO.nd rfl (Or.inr rfl) fw)
  (ao (aI (i:=3) fO.nd rfl (bO rfl) (sV nQ ar))
  (ao (iR cU (bJ oU (pv 3) (aJ bN rfl T.len fK (ae (pv 1) ak)) (bX _))
   (ao (aI (i:=3) fO.nd rfl (bO rfl) (aJ bN rfl T.len fK (ae (pv 1) ak)))
   (au (cD cU rfl (mj rfl T.E3 (ae (pv 0) ak)) (eJ rfl (aE (az (i:=4) fO.nd rfl (bO rfl)) (aE (az (i:=5) fO.nd rfl (bO rfl)) b_)))
    (au (b9 (PW.pt (gZ (eI (du hu (aQ cK (pv 5) ar (λ_ _=>rfl)) (pv 2)))
      (i9 (fc (aJ (jZ rfl) rfl T.all boot_all (ae (bY ["part"] [(2,"empty")] rfl (iB (aQ cK (pv 5) ar (λ_ _=>rfl))) (bL rfl rfl) nofun rfl nofun
       (λ_ _ _ _ _=>az (i:=0) (show (["part","empty"]:List Str).Nodup by decide +kernel) rfl (bO rfl)) (λ_ _ _ _ _=>cP) (λ_ _ _ _ _=>DG (n8 hu (pv 0) (pv 1)))) ak))))))
     (ao (il hu (pv 2) (aQ cK (pv 5) ar (λ_ _=>rfl)) eP rfl)
     (au (cv (cX f_ iL iM cA (pv 1) (ae (bS (ae (aQ cK (pv 5) ar (λ_ _=>rfl)) (ae (pv 4) ak))) ak))))) aZ))))))
  (au (aW (pv 1)))))),?_⟩
 nofun
 refine⟨v9,λD hD d hd=>?_⟩;have PL:d≠D:=λz=>by rw [z,af] at hd;cases hd
 have rP:H d=none:=by rw [aj PL] at hd;exact hd
 have e0:Ba K aa H (upd (upd H D (.lst [])) d (.dK [])) D d [] [] []:=⟨(ah hD _).trans (ah hd _),by rw [aj PL.symm,af];rfl,af,rfl,.nil,.nil⟩;generalize upd (upd H D (.lst [])) d (.dK [])=H0 at e0;refine⟨1,rfl,?_⟩;refine⟨λm σ H5=>∃(ts:List Addr)(bc:List (Str×Nat))(kvs:List (aN×V)) (many:Int)(y4 y5:Option V),σ=[bG R,bG D,bG d,some (.int many),y4,y5]/\Ba K aa H H5 D d ts bc kvs/\-1<=many/\many<=bc.length/\(many=bc.length->xQ aa aa.length bc)/\(m:Int)=aa.length+1 - many,
  ⟨aa.length+2,[],[],[],-1,none,none,rfl,e0,∅,by simp,by simp,by simp;omega⟩,?_⟩
 rintro m σ H5 ⟨ts,bc,kvs,many,y4,y5,rfl,S,b1,b2,cl,em⟩;obtain⟨lt,lk⟩:=S.len;refine⟨_,rfl,_,rfl,D,_,rfl,.inl (aH.of S.hD),_,_,rfl,rfl,_,rfl,?_⟩;refine c_ (λc=>?_) (λc=>?_)
 .have c':=d5 c;rw [aC,lt] at c';refine⟨λσ H5=>∃(wj:List Addr)(gJ:List (Str×Nat))(eB:List (aN×V))(y4 y5:Option V),σ=[bG R,bG D,bG d,some (.int (bc.length:Int)),y4,y5]/\Ba K aa H H5 D d wj gJ eB/\bc.length<=gJ.length/\(gJ.length=bc.length->xQ aa aa.length gJ),?_,?_⟩
  .rintro σ H6 ⟨wj,gJ,eB,y4,y5,rfl,S2,l2,c2⟩;have:=S2.emp.len;exact⟨(aa.length+1 - bc.length:Int).toNat,∅,wj,gJ,eB,_,_,_,rfl,S2,∅,∅,λz=>c2 ∅,∅⟩
  refine⟨_,rfl,D,_,rfl,.inl (aH.of S.hD),?_⟩;rw [aC,lt];refine⟨_,rfl,R,_,rfl,S.sm.seq hR,?_⟩;refine jP (xs:=rs.map V.ref) (λi σ H6=>∃(wj:List Addr)(gJ:List (Str×Nat))(eB:List (aN×V))(y4 y5:Option V),σ=[bG R,bG D,bG d,some (.int (bc.length:Int)),y4,y5]/\Ba K aa H H6 D d wj gJ eB/\bc.length<=gJ.length/\(gJ.length=bc.length->xQ aa i gJ))
   ⟨ts,bc,kvs,_,_,rfl,S,aK _,λ_ ru j7=>by simp at j7⟩ ?_ ?_ ?_
  .rintro i σ H6 _ ⟨wj,gJ,eB,y4,y5,rfl,S2,_⟩;exact S2.sm.seq hR
  .rintro i x σ H6 t ex ⟨wj,gJ,eB,y4,y5,rfl,S2,l2,c2⟩ ht
   ac_nf0
   rw [bH] at ex;obtain⟨r,er,rfl⟩:=cf.mp ex;obtain⟨ru,e1,p,v1,v2⟩:=cy.get er;have Mb:=h8 ru (bQ e1);have S3:=S2.same (ah ht (.tup [.int (i:Int),.ref r]));have LX:bj K (upd H6 t (.tup [.int (i:Int),.ref r])) t [.int (i:Int),.ref r]:=bj.of af;generalize upd H6 t (.tup [.int (i:Int),.ref r])=H7 at S3 LX;obtain⟨lt2,PU⟩:=S3.len;have el2:=S3.emp.len;have tk:aa.take (i+1)=aa.take i++[ru]:=by rw [di,e1];rfl
   have hV:(¬((∀p∈ru.2,p∈gJ.map (·.1))/\ru.1∉gJ.map (·.1)))->(gJ.length=bc.length->xQ aa (i+1) gJ):=λhn z Aw wW hp=>by
    rw [tk] at wW;rcases cN.mp wW with h | h
    .exact c2 z Aw h hp
    rw [cJ.mp h] at hp ⊢;exact Classical.byContradiction λhc=>hn ⟨hp,hc⟩
   refine⟨t,_,rfl,LX,rfl,_,_,rfl,_,_,rfl,rfl,?_⟩;refine⟨_,rfl,r,_,_,_,rfl,rfl,S3.sm.tup v1,rfl,?_⟩;refine⟨_,rfl,d,_,rfl,cu.k (k:=Sum.inr ru.1) S3.hd,_,rfl,?_⟩;refine c_ (λc3=>?_) (λc3=>?_)
   .have nm:ru.1∉gJ.map (·.1):=λh=>by rw [(S3.mem _).mpr h] at c3;exact absurd c3 nofun
    refine⟨_,rfl,r,_,_,_,rfl,rfl,S3.sm.tup v1,rfl,p,rfl,⟨_,S3.sm.tup v2⟩,λD2 ot=>tP rfl (S3.sm.tup v2) ∅ S3.hd ot λH8 LN Om=>?_⟩;have S4:=S3.same LN;refine⟨D2,_,rfl,aH.of Om,_,rfl,?_⟩;refine c_ (λc4=>?_) (λc4=>?_)
    .have al:∀x∈ru.2,x∈gJ.map (·.1):=λx hx=>(S4.mem x).mp (fY.mp c4 _ (iI hx));refine⟨_,rfl,_,rfl,r,_,_,_,rfl,rfl,S4.sm.tup v1,rfl,d,_,rfl,oF.k (k:=Sum.inr ru.1) S4.hd (bW ∅),?_⟩;have XY:bj K (upd H8 d (.dK (bE eB (Sum.inr ru.1) (.bl true)))) r [.str ru.1,.ref p]:=gh S4.hd (S4.sm.tup v1);have K1:upd H8 d (.dK (bE eB (Sum.inr ru.1) (.bl true))) D=some (.lst (wj.map V.ref)):=by rw [aj (λz=>by have:=S4.hD;rw [z,S4.hd] at this;cases this)];exact S4.hD
     refine⟨_,rfl,.inl ⟨rfl,_,aH.of K1⟩,_,rfl,r,_,_,_,rfl,rfl,XY,rfl,_,rfl,kc,λt2 hX=>?_⟩;refine⟨D,_,_,rfl,rfl,(by rw [aj (aq K1 hX)];exact K1),bW (by rw [aC];omega),?_⟩;have S5:=S4.more hD rP e1 nm al hX;exact⟨wj++[t2],gJ++[(ru.1,i)],_,_,_,rfl,S5,by rw [bZ];omega,λz=>by rw [bZ] at z;simp at z;omega⟩
    refine⟨wj,gJ,eB,_,_,rfl,S4,l2,hV λ⟨ha,_⟩=>c4 (fY.mpr λb hb=>?_)⟩;obtain⟨x,hx,rfl⟩:=cT.mp hb;exact(S4.mem x).mpr (ha x hx)
   refine⟨wj,gJ,eB,_,_,rfl,S3,l2,hV λ⟨_,hn⟩=>c3 ?_⟩;cases hq:(bh eB (Sum.inr ru.1)).isSome with
   | true=>exact absurd ((S3.mem _).mp hq) hn
   | false=>rfl
  rintro σ H6 ⟨wj,gJ,eB,y4,y5,rfl,S2,l2,c2⟩;rw [aC,bM cy] at c2;exact⟨wj,gJ,eB,_,_,rfl,S2,l2,c2⟩
 have c':=of_decide_eq_false (pX.mpr c);rw [aC,lt] at c';exact⟨_,rfl,q D ts bc H5 hD S.sm S.hD S.ev S.emp (cl ∅)⟩
end
end fg
namespace M11
open PySem L2
def B2 (b:Str->Bool):List Str->Nat
 | []=>0
 | z::r=>if b z=true then B2 b r+1 else 1
theorem AS (b:Str->Bool):∀zs:List Str,(∀z∈zs,b z=true)->B2 b zs=zs.length
 | [],_=>rfl
 | z::r,h=>by
  unfold B2;rw [ay (h z bT),AS b r λx hx=>h x (cM _ hx)];rfl
theorem EV (b:Str->Bool):∀(zs:List Str) (i:Nat)(z:Str),(∀x∈zs.take i,b x=true)->zs[i]?=some z->¬b z=true->B2 b zs=i+1
 | y::r,0,z,_,e,n=>by
  cases e;unfold B2;rw [av n]
 | y::r,i+1,z,h,e,n=>by
  unfold B2;rw [ay (h y (by rw [qj];exact bT)),EV b r i z (λx hx=>h x (by rw [qj];exact cM _ hx)) e n]
theorem EU (b:Str->Bool):∀zs:List Str,B2 b zs<=zs.length
 | []=>aK _
 | z::r=>by
  have:=EU b r;unfold B2;rw [cH]
  split <;> omega
def cnt (n:Nat):List V:=(List.range n).map λk:Nat=>V.int (k:Int)
end M11
namespace fg
open PySem L2 M11
section
def Af (K:aY):Sp:=λvs H Q _=>∃(R:Addr)(rs:List Addr)(aa:List aA),vs=[.ref R]/\aH K H R (rs.map V.ref)/\bq K H rs aa/\aa.length<=1000/\(∀ru∈aa,ru.2.length<=8)/\(aa.flatMap (·.2)).Nodup /\
 ∀H',aD H H'->Q .dP H'
def lV:aM ["strengths","met","way","words","word"] ["strengths"] (ax yA):=i5 rfl rfl rfl rfl nofun
def DO (F:hU K "refuse_twice" "refuse_twice" yA f fd)(T:Txt mg):bA P w K mg base e_ 1 f fd ["strengths"] (Af K):=by
 refine F.ok lV (λvs H Q E h=>?_) (λdG A outer s H vs Q E hr h=>?_)
 .obtain⟨R,rs,aa,rfl,_⟩:=h;rfl
 obtain⟨R,rs,aa,rfl,hR,cy,bI,h8,LZ,q⟩:=h;have hu:=gq hr;refine⟨_,ao (aI (i:=1) lV.nd rfl (bO rfl) fw)
  (au (cD cU rfl (bK (pv 0)) (eJ rfl (aE (az (i:=2) lV.nd rfl (bO rfl)) (aE (az (i:=3) lV.nd rfl (bO rfl)) b_)))
   (au (cD cU rfl (iB (pv 3)) (az (i:=4) lV.nd rfl (bO rfl))
    (ao (b9 (eI (n8 hu (pv 4) (pv 1))) (au d7) aZ) (au (il hu (pv 1) (pv 4) eP rfl))))))),?_⟩
 nofun
 intro e he;have Ar:∀o,aD H (upd H e o):=λo=>ah he o;have ll:=bM cy
 let zW:zX:=λi σ H5=>∃(kvs:List (aN×V))(y3 y4 y5:Option V),σ=[bG R,bG e,y3,y4,y5]/\H5=upd H e (.dK kvs) /\
  kvs.map (·.1)=((aa.take i).flatMap (·.2)).map Sum.inr
 refine⟨_,rfl,R,rfl,⟨_,(Ar _).seq hR⟩,eQ (xs:=rs.map V.ref) zW ⟨[],none,none,none,rfl,rfl,rfl⟩ ?_ ?_ ?_⟩
 .rintro i σ H5 _ ⟨kvs,y3,y4,y5,rfl,rfl,_⟩;exact(Ar _).seq hR
 .rintro i x σ H5 ex ⟨kvs,y3,y4,y5,rfl,rfl,hk⟩
  ac_nf0
  rw [bH] at ex;obtain⟨r,er,rfl⟩:=cf.mp ex;obtain⟨ru,e1,p,v1,v2⟩:=cy.get er;have li:=(bR.mp e1).1;have Mb:=h8 ru (bQ e1);have eT:(aa.take (i+1)).flatMap (·.2)=(aa.take i).flatMap (·.2)++ru.2:=by
   rw [di,e1,uu];simp
  have lA:((aa.take i).flatMap (·.2)).length<=8 * i:=iX (aa.take i) i (by rw [fh];omega) λru j7=>h8 ru (pZ j7);have Eg:((aa.take i).flatMap (·.2)++ru.2).Nodup:=by
   have e2:aa.flatMap (·.2)=((aa.take i).flatMap (·.2)++ru.2)++(aa.drop (i+1)).flatMap (·.2):=by
    rw [<-eT,<-uu,List.take_append_drop]
   rw [e2] at LZ;exact(jx.mp LZ).1
  refine⟨r,_,rfl,(Ar _).tup v1,rfl,_,_,rfl,_,_,rfl,rfl,?_⟩
  let HG:zX:=λj σ H6=>∃(kvs:List (aN×V))(y5:Option V),σ=[bG R,bG e,some (.str ru.1),bG p,y5]/\H6=upd H e (.dK kvs) /\
   kvs.map (·.1)=((aa.take i).flatMap (·.2)++ru.2.take j).map Sum.inr
  refine⟨_,rfl,p,rfl,⟨_,(Ar _).tup v2⟩,vD (xs:=ru.2.map V.str) HG ⟨kvs,_,rfl,rfl,by rw [List.take_zero,dD];exact hk⟩ ?_ ?_ ?_⟩
  .rintro j σ H6 _ ⟨kvs,y5,rfl,rfl,_⟩;exact(Ar _).tup v2
  .rintro j x σ H6 EX ⟨kvs,y5,rfl,rfl,BU⟩
   ac_nf0
   rw [bH] at EX;obtain⟨z,ez,rfl⟩:=cf.mp EX;have lj:=(bR.mp ez).1;have eS:ru.2.take (j+1)=ru.2.take j++[z]:=by rw [di,ez];rfl
   have lk:kvs.length<=8 * i+8:=by
    have h1:=congrArg List.length BU;rw [aC,aC,bZ,fh] at h1;omega
   have nz:z∉(aa.take i).flatMap (·.2)++ru.2.take j:=λhz=>by
    have e3:(aa.take i).flatMap (·.2)++ru.2=((aa.take i).flatMap (·.2)++ru.2.take j)++([z]++ru.2.drop (j+1)):=by
     rw [gS,<-gS (ru.2.take j),<-eS,List.take_append_drop]
    rw [e3] at Eg;exact(jx.mp Eg).2.2 z hz z (by simp) rfl
   have nk:¬(Sum.inr z:aN)∈kvs.map (·.1):=by rw [BU];exact λh=>nz (cR.mp h)
   refine⟨_,rfl,_,rfl,e,_,rfl,cu.k (k:=Sum.inr z) af,_,rfl,?_⟩;refine c_ (λc=>absurd ((dU kvs _).mp c) nk) (λ_=>?_);refine⟨_,rfl,_,rfl,e,_,rfl,oF.k (k:=Sum.inr z) af (bW ∅),?_⟩;refine⟨bE kvs (Sum.inr z) (.bl true),_,rfl,by rw [jQ],?_⟩;rw [ij nk,BU,eS,<-gS];simp only [bu,bz,iz]
  rintro σ H6 ⟨kvs,y5,rfl,rfl,BU⟩;rw [aC,de,<-eT] at BU;exact⟨kvs,_,_,_,rfl,rfl,BU⟩
 rintro σ H5 ⟨kvs,y3,y4,y5,rfl,rfl,hk⟩;exact q _ (Ar _)
def wt (K:aY):Sp:=λvs H Q _=>∃(p d:Addr) (zs:List Str)(kvs:List (aN×V)),vs=[.ref p,.ref d]/\bj K H p (zs.map V.str)/\zs.length<=1000/\H d=some (.dK kvs) /\
 ∀D H',H D=none->aD H H'->H' D=some (.lst (cnt (B2 (λz=>(bh kvs (Sum.inr z)).isSome) zs)))->Q (.ref D) H'
def lX:aM ["parts","empty","places","place","part"] ["parts","empty"] (ax uZ):=i5 rfl rfl rfl rfl nofun
def Bs (F:hU K "first_places" "first_places" uZ f fd)(T:Txt mg):bA P w K mg base e_ 1 f fd ["parts","empty"] (wt K):=by
 refine F.ok lX (λvs H Q E h=>?_) (λdG A outer s H vs Q E hr h=>?_)
 .obtain⟨p,d,zs,kvs,rfl,_⟩:=h;rfl
 obtain⟨p,d,zs,kvs,rfl,hp,hz,hd,q⟩:=h;have hu:=gq hr;refine⟨_,ao (aI (i:=2) lX.nd rfl (bO rfl) (bo ak))
  (ao (cD cU rfl (mi rfl T.E3 (ae (pv 0) ak)) (eJ rfl (aE (az (i:=3) lX.nd rfl (bO rfl)) (aE (az (i:=4) lX.nd rfl (bO rfl)) b_)))
   (ao (cv (cX f_ iL iM cA (pv 2) (ae (pv 3) ak)))
   (au (b9 (eI (du hu (pv 4) (pv 1))) (au Dw) aZ))))
  (au (aW (pv 2)))),?_⟩
 nofun
 refine⟨v9,λD hD=>?_⟩;have up1:∀n,cnt n++[V.int (n:Int)]=cnt (n+1):=λn=>by
  unfold cnt;rw [List.range_succ,bu];rfl
 refine⟨_,rfl,p,_,rfl,(ah hD _).tup hp,?_⟩
 let Vb:zX:=λi σ H5=>∃(y3 y4:Option V),σ=[bG p,bG d,bG D,y3,y4]/\aD H H5/\H5 D=some (.lst (cnt i))/\∀z∈zs.take i,(bh kvs (Sum.inr z)).isSome=true
 refine ow (xs:=zs.map V.str) Vb
  ⟨none,none,rfl,ah hD _,af,by simp⟩ ?_ ?_ ?_
 .rintro i σ H5 _ ⟨y3,y4,rfl,sm,_⟩;exact sm.tup hp
 .rintro i x σ H5 t ex ⟨y3,y4,rfl,sm,Oo,pB⟩ ht
  ac_nf0
  rw [bH] at ex;obtain⟨z,ez,rfl⟩:=cf.mp ex;have li:=(bR.mp ez).1;have uQ:=sm.trans (ah ht (.tup [.int (i:Int),.str z]));have ot:upd H5 t (.tup [.int (i:Int),.str z]) D=some (.lst (cnt i)):=by rw [aj (aq Oo ht)];exact Oo
  have hv:bj K (upd H5 t (.tup [.int (i:Int),.str z])) t [.int (i:Int),.str z]:=bj.of af;generalize upd H5 t (.tup [.int (i:Int),.str z])=H6 at uQ ot hv;have LO:aD H (upd H6 D (.lst (cnt i++[V.int (i:Int)]))):=λb o hb=>by
   rw [aj (λz=>by rw [z,hD] at hb;cases hb)];exact uQ b o hb
  refine⟨t,_,rfl,hv,rfl,_,_,rfl,_,_,rfl,rfl,?_⟩;refine⟨_,rfl,.inl ⟨rfl,_,aH.of ot⟩,_,rfl,D,_,_,rfl,rfl,ot,bW (by unfold cnt;rw [aC,uf];omega),?_⟩;refine⟨_,rfl,_,rfl,d,_,rfl,cu.k (k:=Sum.inr z) (LO _ _ hd),_,rfl,?_⟩;refine c_ (λc=>?_) (λc=>?_)
  .refine⟨_,rfl,q D _ hD LO ?_⟩;rw [af,up1,EV _ zs i z pB ez (λh=>by rw [h] at c;exact absurd c nofun)]
  refine⟨_,_,rfl,LO,by rw [af,up1],λx hx=>?_⟩;rw [di,ez] at hx;rcases cN.mp hx with h | h
  .exact pB x h
  rw [um,cJ] at h;subst h;cases hq:(bh kvs (Sum.inr x)).isSome with
  | true=>rfl
  | false=>exact absurd (by rw [hq];rfl) c
 rintro σ H5 ⟨y3,y4,rfl,sm,Oo,pB⟩;rw [aC] at Oo pB;rw [de] at pB;exact⟨_,rfl,q D _ hD sm (by rw [AS _ zs pB];exact Oo)⟩
end
end fg
namespace L2
open PySem
def xt {K:aY}{H:Hp}{p D:Addr}{zs:List Str}{σ:St}{v:V}{x:Str}{Qp:Hp->Prop}(hp:bj K H p (zs.map V.str))(hz:zs.length<=1000)(hD:H D=none)
  (q:∀ts H2,aD H H2->H2 D=some (.lst (ts.map V.ref))->Paired (λt h=>bj K H2 t [.str h,v]) ts zs->Qp H2) :
  ∃W:Nat->Nat->List V->St->Hp->Prop,(∃m,W 0 m [] (eE [x] [] σ) (upd H D (.lst []))) /\
 ∀i m ys σ' H,W i m ys σ' H->((rK K p).stop i H/\Qp H)\/((rK K p).go i H/\∃m',m' < m/\∀x H',(rK K p).nO i H x H'->dX 0 x σ' H' λσ2 H2=>iO σ2 H2 λb H3 =>
  if b=true then rR (fq (fE 0) (fq (tC v) qv)) σ2 H3 λy H4=>H4 D=some (.lst ys)/\ys.length < sizeLine/\W (i+1) m' (ys++[y]) σ2 (upd H4 D (.lst (ys++[y]))) else W (i+1) m' ys σ2 H3):=by
 refine iZ (xs:=zs.map V.str) (λi ys σ2 H2=>∃ts:List Addr,ys=ts.map V.ref/\ts.length=i/\Paired (λt h=>bj K H2 t [.str h,v]) ts (zs.take i)/\(∃y0,σ2=[y0])/\aD H H2/\H2 D=some (.lst ys))
  ⟨[],rfl,rfl,.nil,⟨none,rfl⟩,ah hD _,af⟩ (λi ys σ2 H2 _ h=>?_) (λi x ys σ2 H2 ex h=>?_) (λys σ2 H2 h=>?_)
 .obtain⟨_,_,_,_,_,sm,_⟩:=h;exact sm.tup hp
 .obtain⟨ts,rfl,ht,wX,⟨y0,rfl⟩,sm,hd⟩:=h;rw [bH] at ex;obtain⟨z,ez,rfl⟩:=cf.mp ex;have li:=(bR.mp ez).1;refine goN (zD ?_);refine⟨_,rfl,kc,λt hX=>⟨?_,bW (by rw [aC];omega),ts++[t],?_,?_,?_,⟨_,rfl⟩,?_,af⟩⟩
  .rw [aj (aq hd hX)];exact hd
  .rw [bu];rfl
  .rw [bZ,ht];rfl
  .rw [di,ez];have iD:upd H2 t (.tup [.str z,v]) D=some (.lst (ts.map V.ref)):=by rw [aj (aq hd hX)];exact hd
   exact fJ (Paired.gA wX λt' h' z=>ba iD ((ah hX _).tup z)) (ba iD (bj.of af))
  intro b o hb;rw [aj (λz=>by rw [z,hD] at hb;cases hb)];exact ah hX _ _ _ (sm b o hb)
 obtain⟨ts,rfl,ht,wX,_,sm,hd⟩:=h;rw [aC,de] at wX;exact q ts H2 sm hd wX
end L2
namespace M11
open PySem L2
def i0 (a:List Str)(h x:Str):x∈gw a h↔x∈a\/x=h:=by
 unfold gw;split
 .constructor
  .exact .inl
  rintro(z | rfl) <;> assumption
 simp
def A6 {a:List Str}(h:Str)(n:a.Nodup):(gw a h).Nodup:=by
 unfold gw;split
 .exact n
 rename_i q
 refine jx.mpr ⟨n,by simp,λx hx y hy=>?_⟩;rw [cJ.mp hy];exact λz=>q (z ▸ hx)
def A7 (a:List Str)(h:Str):a.length<=(gw a h).length:=by
 unfold gw;split <;> simp
def HB {a:List Str}{h:Str}(e:(gw a h).length=a.length):gw a h=a:=by
 unfold gw at e ⊢;split
 .rfl
 rename_i q
 rw [av q,bZ] at e;simp at e
theorem fX:∀(hs bB:List Str)(x:Str),x∈vG bB hs↔x∈bB\/x∈hs
 | [],bB,x=>by simp [vG]
 | h::r,bB,x=>by
  show x∈vG (gw bB h) r↔_;rw [fX r,i0,aT,or_assoc]
theorem oz:∀(hs:List Str){bB:List Str},bB.Nodup->(vG bB hs).Nodup
 | [],_,n=>n
 | h::r,_,n=>oz r (A6 h n)
theorem zN:∀(hs bB:List Str),bB.length<=(vG bB hs).length
 | [],_=>aK _
 | h::r,bB=>df (A7 bB h) (zN r _)
theorem E6:∀(hs bB:List Str),(vG bB hs).length=bB.length->vG bB hs=bB
 | [],_,_=>rfl
 | h::r,bB,e=>by
  have h1:=A7 bB h;have h2:=zN r (gw bB h);have e':(vG (gw bB h) r).length=bB.length:=e;show vG (gw bB h) r=bB;rw [E6 r _ ∅];exact HB ∅
inductive LA (aa:List aA)(s:Str):Str->Prop
 | start:LA aa s s
 | step {ru:aA}{x:Str}:LA aa s ru.1->ru∈aa->x∈ru.2->LA aa s x
def Fv (aa:List aA) (n:Nat) (ms:List Str):Prop:=∀ru∈aa.take n,ru.1∈ms->∀x∈ru.2,x∈ms
def LA.among {aa:List aA}{s x:Str}(h:LA aa s x):x∈s::aa.flatMap (·.2):=by
 cases h with
 | start=>exact bT
 | step _ h1 h2=>exact cM _ (kI.mpr ⟨_,h1,h2⟩)
end M11
namespace fg
open PySem L2 M11
section
def HV (K:aY):Sp:=λvs H Q _=>∃(R:Addr)(rs:List Addr)(aa:List aA)(lB:aA),vs=[.ref R]/\aH K H R (rs.map V.ref)/\bq K H rs aa/\aa[0]?=some lB/\aa.length<=1000/\(∀ru∈aa,ru.2.length<=8) /\
 ∀d kvs ms H',H d=none->aD H H'->H' d=some (.dK kvs)->kvs.map (·.1)=ms.map Sum.inr->lB.1∈ms->(∀x∈ms,LA aa lB.1 x)->Fv aa aa.length ms->Q (.ref d) H'
def sS:aM ["rules","met","many","head","parts"] ["rules"] (ax JB):=i5 rfl rfl rfl rfl nofun
structure Mu (K:aY)(aa:List aA)(s0:Str)(H H5:Hp)(d:Addr) (ms:List Str)(kvs:List (aN×V)):Prop where
 sm:aD H H5
 hd:H5 d=some (.dK kvs)
 keys:kvs.map (·.1)=ms.map Sum.inr
 nd:ms.Nodup
 st:s0∈ms
 PF:∀x∈ms,LA aa s0 x
def Mu.len {aa:List aA}{s0:Str}{H H5:Hp}{d:Addr}{ms:List Str}{kvs:List (aN×V)}(h:Mu K aa s0 H H5 d ms kvs)(hl:aa.length<=1000)(h8:∀ru∈aa,ru.2.length<=8):kvs.length=ms.length/\ms.length<=8001:=by
 refine⟨?_,?_⟩
 .have:=congrArg List.length h.keys;simpa using this
 have h1:=fj ms _ h.nd λx hx=>(h.PF x hx).among;have h2:=iX aa 1000 hl h8;rw [cH] at h1;omega
def JW (F:hU K "names_met" "names_met" JB f fd)(T:Txt mg):bA P w K mg base e_ 1 f fd ["rules"] (HV K):=by
 refine F.ok sS (λvs H Q E h=>?_) (λdG A outer s H vs Q E hr h=>?_)
 .obtain⟨R,rs,aa,lB,rfl,_⟩:=h;rfl
 obtain⟨R,rs,aa,lB,rfl,hR,cy,CB,bI,h8,q⟩:=h;have hu:=gq hr;refine⟨_,ao (aI (i:=1) sS.nd rfl (bO rfl) (GQ (Dz (aQ cK (aQ aL (pv 0) ar (λ_ _=>rfl)) ar (λ_ _=>rfl)) eP GD) rfl rfl (by simp) (show 1<=15 by decide)))
  (ao (aI (i:=2) sS.nd rfl (bO rfl) ar)
  (ao (iR cU (bJ oU (pv 2) (aJ tR rfl T.len fK (ae (pv 1) ak)) (bX _))
   (ao (aI (i:=2) sS.nd rfl (bO rfl) (aJ tR rfl T.len fK (ae (pv 1) ak)))
   (au (cD cU rfl (bK (pv 0)) (eJ rfl (aE (az (i:=3) sS.nd rfl (bO rfl)) (aE (az (i:=4) sS.nd rfl (bO rfl)) b_)))
    (au (b9 (eI (n8 hu (pv 3) (pv 1)))
     (au (cv (GO rfl (pv 1) (bY ["part"] [] rfl (iB (pv 4)) (bL rfl rfl) nofun rfl nofun
       (λ_ _ _ _ _=>az (i:=0) (show (["part"]:List Str).Nodup by decide +kernel) rfl (bO rfl)) (λ_ _ _ _ _=>cP) (λ_ _ _ _ _=>bS (ae (pv 0) (ae eP ak)))) ⟨rfl,rfl,rfl,rfl⟩))) aZ))))))
  (au (aW (pv 1))))),?_⟩
 nofun
 intro d hd;have ll:=bM cy;have l0:=(bR.mp CB).1;obtain⟨r0,Qk⟩:∃r,rs[0]?=some r:=⟨rs[0]'∅,eG ∅⟩;obtain⟨Ys,e0,p0,w1,w2⟩:=cy.get Qk;rw [CB] at e0;cases e0;have VC:=ah hd (.dK []);refine⟨_,rfl,R,_,_,.ref r0,rfl,rfl,VC.seq hR,?_,r0,_,_,_,rfl,rfl,VC.tup w1,rfl,?_⟩
 .have e7:(rs.map V.ref)[0]?=some (.ref r0):=by rw [bH,Qk];rfl
  exact dY (j:=0) e7
 refine⟨af,[((Sum.inr lB.1:aN),.bl true)],rfl,(by show 1<=15;decide),?_⟩;have S0:Mu K aa lB.1 H (upd (upd H d (.dK [])) d (.dK (kR [] [((Sum.inr lB.1:aN),.bl true)]))) d [lB.1] [((Sum.inr lB.1:aN),.bl true)]:=by
  rw [jQ];exact⟨ah hd _,af,rfl,by simp,by simp,λx hx=>by rw [cJ.mp hx];exact .start⟩
 generalize upd (upd H d (.dK [])) d (.dK (kR [] [((Sum.inr lB.1:aN),.bl true)]))=H0 at S0;refine⟨λm σ H5=>∃(ms:List Str)(kvs:List (aN×V)) (many:Int)(y3 y4:Option V),σ=[bG R,bG d,some (.int many),y3,y4]/\Mu K aa lB.1 H H5 d ms kvs/\0<=many/\many<=ms.length/\(many=ms.length->Fv aa aa.length ms)/\(m:Int)=8002 - many,
  ⟨8002,[lB.1],_,0,none,none,rfl,S0,∅,by simp,by simp,∅⟩,?_⟩
 rintro m σ H5 ⟨ms,kvs,many,y3,y4,rfl,S,b1,b2,cl,em⟩;obtain⟨lk,lm⟩:=S.len bI h8;refine⟨_,rfl,_,rfl,d,_,rfl,S.hd,_,_,rfl,rfl,_,rfl,?_⟩;refine c_ (λc=>?_) (λc=>?_)
 .have c':=d5 c;rw [lk] at c';refine⟨λσ H5=>∃(pP:List Str)(eB:List (aN×V))(y3 y4:Option V),σ=[bG R,bG d,some (.int (ms.length:Int)),y3,y4]/\Mu K aa lB.1 H H5 d pP eB/\ms.length<=pP.length/\(pP.length=ms.length->Fv aa aa.length pP),?_,?_⟩
  .rintro σ H6 ⟨pP,eB,y3,y4,rfl,S2,l2,c2⟩;exact⟨(8002 - ms.length:Int).toNat,∅,pP,eB,_,_,_,rfl,S2,∅,∅,λz=>c2 ∅,∅⟩
  refine⟨_,rfl,d,_,rfl,S.hd,?_⟩;rw [lk];refine⟨_,rfl,R,rfl,⟨_,S.sm.seq hR⟩,?_⟩;refine eQ (xs:=rs.map V.ref) (λi σ H6=>∃(pP:List Str)(eB:List (aN×V))(y3 y4:Option V),σ=[bG R,bG d,some (.int (ms.length:Int)),y3,y4]/\Mu K aa lB.1 H H6 d pP eB/\ms.length<=pP.length/\(pP.length=ms.length->Fv aa i pP))
   ⟨ms,kvs,_,_,rfl,S,aK _,λ_ ru j7=>by simp at j7⟩ ?_ ?_ ?_
  .rintro i σ H6 _ ⟨pP,eB,y3,y4,rfl,S2,_⟩;exact S2.sm.seq hR
  .rintro i x σ H6 ex ⟨pP,eB,y3,y4,rfl,S2,l2,c2⟩
   ac_nf0
   rw [bH] at ex;obtain⟨r,er,rfl⟩:=cf.mp ex;obtain⟨ru,e1,p,v1,v2⟩:=cy.get er;have Mb:=h8 ru (bQ e1);have tk:aa.take (i+1)=aa.take i++[ru]:=by rw [di,e1];rfl
   obtain⟨PU,ZG⟩:=S2.len bI h8;have mem:(bh eB (Sum.inr ru.1)).isSome=true↔ru.1∈pP:=by rw [dU,S2.keys];exact cR
   refine⟨r,_,rfl,S2.sm.tup v1,rfl,_,_,rfl,_,_,rfl,rfl,?_⟩;refine⟨_,rfl,_,rfl,d,_,rfl,cu.k (k:=Sum.inr ru.1) S2.hd,_,rfl,?_⟩;refine c_ (λc3=>?_) (λc3=>?_)
   .have im:=mem.mp c3;refine⟨_,rfl,d,rfl,.inl ⟨_,.inl S2.hd⟩,_,rfl,p,rfl,⟨_,S2.sm.tup v2⟩,λD2 ot=>xt (S2.sm.tup v2) ∅ ot λts H8 LN Om Wl=>?_⟩;have kp:Paired (λt (kv:aN×V)=>bj K H8 t [kV kv.1,kv.2]) ts (ru.2.map λh=>((Sum.inr h:aN),V.bl true)):=cE Wl λ_ _ z=>z;refine⟨D2,ts,eB,_,rfl,LN _ _ S2.hd,Om,kp,fits (by rw [aC];omega),?_⟩;have aaf:=zN ru.2 pP;refine⟨vG pP ru.2,cO (ru.2.map λh=>((Sum.inr h:aN),V.bl true)) eB,_,_,rfl,⟨λb o hb=>?_,af,mz ru.2 eB pP S2.keys,oz ru.2 S2.nd,(fX ru.2 pP _).mpr (.inl S2.st),λx hx=>?_⟩,∅,λz Aw wW hh=>?_⟩
    .rw [aj (λz=>by rw [z,hd] at hb;cases hb)];exact LN _ _ (S2.sm b o hb)
    .rcases (fX ru.2 pP x).mp hx with h | h
     .exact S2.PF x h
     exact .step (S2.PF _ im) (bQ e1) h
    have e9:=E6 ru.2 pP ∅;rw [e9] at hh ⊢;rw [tk] at wW;rcases cN.mp wW with h | h
    .exact c2 ∅ Aw h hh
    rw [cJ.mp h];intro x hx;rw [<-e9];exact(fX ru.2 pP x).mpr (.inr hx)
   refine⟨pP,eB,_,_,rfl,S2,l2,λz Aw wW hh=>?_⟩;rw [tk] at wW;rcases cN.mp wW with h | h
   .exact c2 z Aw h hh
   rw [cJ.mp h] at hh;exact absurd (mem.mpr hh) c3
  rintro σ H6 ⟨pP,eB,y3,y4,rfl,S2,l2,c2⟩;rw [aC,ll] at c2;exact⟨pP,eB,_,_,rfl,S2,l2,c2⟩
 have c':=of_decide_eq_false (pX.mpr c);rw [lk] at c';exact⟨_,rfl,q d kvs ms H5 hd S.sm S.hd S.keys S.st S.PF (cl ∅)⟩
end
end fg
namespace M11
open PySem L2
abbrev G:=Str->Option Int
def dj (g:G)(h:Str) (n:Int):G:=λz=>if z=h then some n else g z
def aP (g:G)(ru:aA):Int:=1+(ru.2.map λp=>(g p).getD 0).sum
def jt (g:G)(ru:aA):Bool:=ru.2.all λp=>(g p).isSome
def cq (bt:Int->Int->Bool)(g:G)(ru:aA):Bool:=jt g ru && (!(g ru.1).isSome || bt (aP g ru) ((g ru.1).getD 0))
def sstep (bt:Int->Int->Bool)(a:G×Bool)(ru:aA):G×Bool:=if cq bt a.1 ru=true then (dj a.1 ru.1 (aP a.1 ru),true) else a
def rS (bt:Int->Int->Bool)(aa:List aA)(g:G):G×Bool:=aa.foldl (sstep bt) (g,false)
inductive dw (bt:Int->Int->Bool)(aa:List aA):G->G->Prop
 | refl {g:G}:dw bt aa g g
 | step {g g1:G}{ru:aA}:dw bt aa g g1->ru∈aa->cq bt g1 ru=true->dw bt aa g (dj g1 ru.1 (aP g1 ru))
def gM (bt:Int->Int->Bool)(aa:List aA)(g:G):Prop:=∀ru∈aa,cq bt g ru=false
def oE (bt:Int->Int->Bool)(aa:List aA):Nat->G->Prop
 | 0,g=>(rS bt aa g).2=false
 | n+1,g=>(rS bt aa g).2=false\/oE bt aa n (rS bt aa g).1
def dw.trans {bt:Int->Int->Bool}{aa:List aA}{g g1 g2:G}(h:dw bt aa g g1)(k:dw bt aa g1 g2):dw bt aa g g2:=by
 induction k with
 | refl=>exact h
 | step _ a b ih=>exact .step ih a b
theorem qZ (bt:Int->Int->Bool)(aa:List aA):∀(l:List aA)(a:G×Bool),(∀ru∈l,ru∈aa)->dw bt aa a.1 (l.foldl (sstep bt) a).1
 | [],a,_=>.refl
 | ru::l,a,h=>by
  have ih:=qZ bt aa l (sstep bt a ru) λx hx=>h x (cM _ hx);refine dw.trans ?_ ih;unfold sstep;by_cases c:cq bt a.1 ru=true
  .rw [ay c];exact .step .refl (h ru bT) c
  rw [av c];exact .refl
theorem tL (bt:Int->Int->Bool):∀(l:List aA)(a:G×Bool),a.2=true->(l.foldl (sstep bt) a).2=true
 | [],a,h=>h
 | ru::l,a,h=>by
  refine tL bt l (sstep bt a ru) ?_;unfold sstep
  split
  .rfl
  exact h
theorem q8 (bt:Int->Int->Bool):∀(l:List aA)(a:G×Bool),(l.foldl (sstep bt) a).2=false->(l.foldl (sstep bt) a).1=a.1/\∀ru∈l,cq bt a.1 ru=false
 | [],a,_=>⟨rfl,λ_ h=>nomatch h⟩
 | ru::l,a,h=>by
  by_cases c:cq bt a.1 ru=true
  .have e:sstep bt a ru=(dj a.1 ru.1 (aP a.1 ru),true):=ay c;have h':(l.foldl (sstep bt) (sstep bt a ru)).2=false:=h;rw [e,tL bt l _ rfl] at h';cases h'
  have e:sstep bt a ru=a:=av c;have h':(l.foldl (sstep bt) (sstep bt a ru)).2=false:=h;rw [e] at h';obtain⟨i1,i2⟩:=q8 bt l a h';refine⟨by rw [List.foldl_cons,e];exact i1,λAw hr=>?_⟩;rcases aT.mp hr with z | z
  .rw [z];exact pX.mpr c
  exact i2 Aw z
end M11
namespace L2
open PySem M11
def eX.tup {K:aY}{H H':Hp}{d a:Addr}{kvs:List (aN×V)}{xs:List V}(s:eX d H H')(hd:H d=some (.dK kvs))(h:bj K H a xs):bj K H' a xs:=by
 rcases h with (h | ⟨u,h⟩) | h
 .exact .inl (.inl (s _ _ (λz=>by rw [z,hd] at h;cases h) h))
 .exact .inl (.inr ⟨u,s _ _ (λz=>by rw [z,hd] at h;cases h) h⟩)
 exact .inr h
def eX.seq {K:aY}{H H':Hp}{d a:Addr}{kvs:List (aN×V)}{xs:List V}(s:eX d H H')(hd:H d=some (.dK kvs))(h:aH K H a xs):aH K H' a xs:=by
 rcases h with (h | ⟨u,h⟩) | h
 .exact .inl (.inl (s _ _ (λz=>by rw [z,hd] at h;cases h) h))
 .exact .inl (.inr ⟨u,s _ _ (λz=>by rw [z,hd] at h;cases h) h⟩)
 exact .inr h
def Ca {K:aY}{H:Hp}{p D d:Addr}{zs:List Str}{kvs:List (aN×V)}{g:G}{σ:St}{js:List (Nat×Str)}{Qp:Hp->Prop}(hσ:eE ["part"] js σ=[none,bG d])(hp:bj K H p (zs.map V.str))(hz:zs.length<=1000)
  (hd:H d=some (.dK kvs))(hv:∀z,bh kvs (Sum.inr z)=(g z).map V.int)(ha:∀z∈zs,(g z).isSome=true)(hD:H D=none)(q:∀H2,aD H H2->H2 D=some (.lst ((zs.map λz=>(g z).getD 0).map V.int))->Qp H2) :
  ∃W:Nat->Nat->List V->St->Hp->Prop,(∃m,W 0 m [] (eE ["part"] js σ) (upd H D (.lst []))) /\
 ∀i m ys σ' H,W i m ys σ' H->((rK K p).stop i H/\Qp H)\/((rK K p).go i H/\∃m',m' < m/\∀x H',(rK K p).nO i H x H'->dX 0 x σ' H' λσ2 H2=>iO σ2 H2 λb H3 =>
  if b=true then z9 (fE 1) (fE 0) σ2 H3 λy H4=>H4 D=some (.lst ys)/\ys.length < sizeLine/\W (i+1) m' (ys++[y]) σ2 (upd H4 D (.lst (ys++[y]))) else W (i+1) m' ys σ2 H3):=by
 refine iZ (xs:=zs.map V.str) (λi ys σ2 H2=>ys=(((zs.take i).map λz=>(g z).getD 0).map V.int)/\(∃y0,σ2=[y0,bG d])/\aD H H2/\H2 D=some (.lst ys))
  ⟨rfl,⟨none,hσ⟩,ah hD _,af⟩ (λi ys σ2 H2 _ h=>h.2.2.1.tup hp) (λi x ys σ2 H2 ex h=>?_) (λys σ2 H2 h=>?_)
 .obtain⟨rfl,⟨y0,rfl⟩,sm,hd2⟩:=h;rw [bH] at ex;obtain⟨z,ez,rfl⟩:=cf.mp ex;have li:=(bR.mp ez).1;obtain⟨n,en⟩:=lM.mp (ha z (bQ ez));have hg:cu H2 d (.str z) (some (.int n)):=by
   have:=cu.k (k:=Sum.inr z) (sm _ _ hd);rw [hv,en] at this;exact this
  refine goN (zD ?_);refine⟨_,rfl,_,rfl,d,_,rfl,hg,hd2,bW (by rw [aC,aC,fh];omega),?_,⟨_,rfl⟩,?_,af⟩
  .rw [di,ez,bu,bu];show _=_++[V.int ((g z).getD 0)];rw [en];rfl
  intro b o hb;rw [aj (λz=>by rw [z,hD] at hb;cases hb)];exact sm b o hb
 obtain⟨rfl,_,sm,hd2⟩:=h;rw [aC,de] at hd2;exact q H2 sm hd2
end L2
namespace fg
open PySem L2 M11
section
def gW (K:aY)(q:Str)(params:Arguments)(body:Expr)(scope:Scope)(bt:Int->Int->Bool):Sp:=λvs H Q _=>∃(R:Addr)(rs:List Addr)(aa:List aA)(d fl c':Addr)(pm fk:Value)(kvs:List (aN×V)) (ks:List Str)(g:G),
 vs=[.ref R,.ref d,.ref fl]/\aH K H R (rs.map V.ref)/\bq K H rs aa/\aa.length<=1000/\(∀ru∈aa,ru.2.length<=8)/\H d=some (.dK kvs)/\kvs.map (·.1)=ks.map Sum.inr/\ks.Nodup/\ks.length<=10000 /\
 (∀z,bh kvs (Sum.inr z)=(g z).map V.int)/\(∃n,oE bt aa n g)/\H fl=some (oh fl (PySem.W.kla_obj "<lambda>" q params body scope [] pm c' fk))/\H c'=some (jr c' q) /\
 ∀(kW:List (aN×V)) (NL:List Str)(g':G)(H':Hp),eX d H H'->H' d=some (.dK kW)->kW.map (·.1)=NL.map Sum.inr->(∀z,bh kW (Sum.inr z)=(g' z).map V.int)->dw bt aa g g'->gM bt aa g'->kW.length<=20000->Q (.ref d) H'
def gX:aM ["rules","sizes","better","changed","head","parts","size"] ["rules","sizes","better"] (ax lZ):=i5 rfl rfl rfl rfl nofun
structure CI (K:aY)(aa:List aA) (FJ:List Str)(H H5:Hp)(d:Addr)(kvs:List (aN×V)) (ks:List Str)(g:G):Prop where
 sm:eX d H H5
 hd:H5 d=some (.dK kvs)
 keys:kvs.map (·.1)=ks.map Sum.inr
 nd:ks.Nodup
 sub:∀x∈ks,x∈FJ++aa.map (·.1)
 val:∀z,bh kvs (Sum.inr z)=(g z).map V.int
def CI.len {aa:List aA}{FJ:List Str}{H H5:Hp}{d:Addr}{kvs:List (aN×V)}{ks:List Str}{g:G}(h:CI K aa FJ H H5 d kvs ks g):kvs.length<=FJ.length+aa.length:=by
 have h1:=congrArg List.length h.keys;have h2:=fj ks _ h.nd h.sub;rw [bZ,aC] at h2;rw [aC,aC] at h1;omega
def CI.same {aa:List aA}{FJ:List Str}{H H5 H6:Hp}{d:Addr}{kvs:List (aN×V)}{ks:List Str}{g:G}(h:CI K aa FJ H H5 d kvs ks g)(s:aD H5 H6):CI K aa FJ H H6 d kvs ks g :=
 ⟨λb o n e=>s _ _ (h.sm b o n e),s _ _ h.hd,h.keys,h.nd,h.sub,h.val⟩
def CI.put {aa:List aA}{FJ:List Str}{H H5:Hp}{d:Addr}{kvs:List (aN×V)}{ks:List Str}{g:G}(h:CI K aa FJ H H5 d kvs ks g){ru:aA}(hr:ru∈aa) (n:Int) :
  CI K aa FJ H (upd H5 d (.dK (bE kvs (Sum.inr ru.1) (.int n)))) d (bE kvs (Sum.inr ru.1) (.int n)) (gw ks ru.1) (dj g ru.1 n):=by
 refine⟨λb o nb e=>by rw [aj nb];exact h.sm b o nb e,af,jM h.keys ru.1,A6 ru.1 h.nd,λx hx=>?_,λz=>?_⟩
 .rcases (i0 ks ru.1 x).mp hx with z | z
  .exact h.sub x z
  rw [z];exact fZ _ (iI hr)
 rw [wb];unfold dj;by_cases c:z=ru.1
 .rw [ay c,ay (by rw [c])];rfl
 rw [av c,av (λe=>c (kx e)),h.val]
def sZ (F:hU K "settled_sizes" "settled_sizes" lZ f fd)(T:Txt mg){q:Str}{params:Arguments}{body:Expr}{scope:Scope}{bt:Int->Int->Bool}{te:TE}(S:aM ["size","known"] ["size","known"] scope)
  (mH:∀(pm fk:Value)(c':Addr)(us:List Value),us.length=(["size","known"]:List Str).length->bindArgs (PySem.W.kla_fn "<lambda>" q params body scope [] pm (.ref c') fk) ⟨us,[]⟩=pure ((["size","known"]:List Str).zip us))
  (g9:∀(f c':Addr)(A:Around)(outer:List Env)(s:Shared)(H:Hp),PE (gK e_ P w K mg base ["size","known"] q scope f (.ref c') A outer s H λ_ _ _=>False) body te)
  (Z9:∀a b H Q,Q (.bl (bt a b)) H->te [some (.int a),some (.int b)] H Q):bA P w K mg base e_ 2 f fd ["rules","sizes","better"] (gW K q params body scope bt):=by
 refine F.ok gX (λvs H Q E h=>?_) (λdG A outer s H vs Q E hr h=>?_)
 .obtain⟨R,rs,aa,d,fl,c',pm,fk,kvs,ks,g,rfl,_⟩:=h;rfl
 obtain⟨R,rs,aa,d,fl,c',pm,fk,kvs,ks,g,rfl,hR,cy,bI,h8,hd,hk,LZ,hkl,hv,⟨n0,SW⟩,EH,jq,qq⟩:=h;have hu:=gq hr;refine⟨_,ao (aI (i:=3) gX.nd rfl (bO rfl) eP)
  (ao (iR cU (fc (pv 3))
   (ao (aI (i:=3) gX.nd rfl (bO rfl) eP)
   (au (cD cU rfl (bK (pv 0)) (eJ rfl (aE (az (i:=4) gX.nd rfl (bO rfl)) (aE (az (i:=5) gX.nd rfl (bO rfl)) b_)))
    (au (b9 (fc (aJ (jZ rfl) rfl T.all boot_all (ae (bY ["part"] [(1,"sizes")] rfl (iB (pv 5)) (bL rfl rfl) nofun rfl nofun
       (λ_ _ _ _ _=>az (i:=0) (show (["part","sizes"]:List Str).Nodup by decide +kernel) rfl (bO rfl)) (λ_ _ _ _ _=>cP) (λ_ _ _ _ _=>DG (n8 hu (pv 0) (pv 1)))) ak)))
     (ao (aI (i:=6) gX.nd rfl (bO rfl) (bf fP ar (aJ (tQ rfl) rfl T.sum PyProof.Rows.boot_sum (ae (bY ["part"] [(1,"sizes")] rfl (iB (pv 5)) (bL rfl rfl) nofun rfl nofun
       (λ_ _ _ _ _=>az (i:=0) (show (["part","sizes"]:List Str).Nodup by decide +kernel) rfl (bO rfl)) (λ_ _ _ _ _=>cP) (λ_ _ _ _ _=>eh hu (pv 1) (pv 0) (λ_ _=>rfl))) ak))))
     (au (b9 (PW.pt (Ic (eI (du hu (pv 4) (pv 1))) (Du (fc (yU (i:=2) (k:=0) rfl rfl S hr mH g9 (ae (pv 6) (ae (eh hu (pv 1) (pv 4) (λ_ _=>rfl)) ak)))))))
      (ao (il hu (pv 1) (pv 4) (pv 6) rfl) (au (aI (i:=3) gX.nd rfl (bO rfl) eP))) aZ))) aZ))))))
  (au (aW (pv 1)))),?_⟩
 nofun
 have ll:=bM cy;have S0:CI K aa ks H H d kvs ks g:=⟨λ_ _ _ e=>e,hd,hk,LZ,λx hx=>oO _ hx,hv⟩;refine⟨λm σ H5=>∃(eB:List (aN×V)) (PV:List Str)(g2:G)(ch:Bool)(y4 y5 y6:Option V),σ=[bG R,bG d,bG fl,some (.bl ch),y4,y5,y6]/\CI K aa ks H H5 d eB PV g2/\dw bt aa g g2 /\
  ((ch=true/\∃n,m=n+1/\oE bt aa n g2)\/(ch=false/\gM bt aa g2)),⟨n0+1,kvs,ks,g,true,none,none,none,rfl,S0,.refl,.inl ⟨rfl,n0,rfl,SW⟩⟩,?_⟩
 rintro m σ H5 ⟨eB,PV,g2,ch,y4,y5,y6,rfl,S2,FC,cs⟩;refine⟨_,rfl,ch,rfl,?_⟩;refine c_ (λc=>?_) (λc=>?_)
 .rcases cs with ⟨_,n,em,en⟩ | ⟨c',_⟩
  case inr=>rw [c'] at c;cases c
  refine⟨λσ H6=>∃(kU:List (aN×V)) (Cz:List Str)(g3:G)(xC:Bool)(y4 y5 y6:Option V),σ=[bG R,bG d,bG fl,some (.bl xC),y4,y5,y6]/\CI K aa ks H H6 d kU Cz g3/\(g3,xC)=rS bt aa g2,?_,?_⟩
  .rintro σ H6 ⟨kU,Cz,g3,xC,y4,y5,y6,rfl,S3,e3⟩;have Ut:g3=(rS bt aa g2).1:=congrArg Prod.fst e3;have Ll:xC=(rS bt aa g2).2:=congrArg Prod.snd e3;have M0:dw bt aa g g3:=by
    rw [Ut];exact FC.trans (qZ bt aa aa (g2,false) λ_ h=>h)
   cases h3:xC with
   | false =>
    rw [h3] at Ll;obtain⟨f1,f2⟩:=q8 bt aa (g2,false) Ll.symm;refine⟨0,∅,kU,Cz,g3,false,_,_,_,rfl,S3,M0,.inr ⟨rfl,?_⟩⟩;have e33:g3=g2:=Ut.trans f1;rw [e33];exact f2
   | true =>
    rw [h3] at Ll;cases n with
    | zero=>rw [show (rS bt aa g2).2=false from en] at Ll;cases Ll
    | succ n' =>
     rcases en with en | en
     .rw [en] at Ll;cases Ll
     exact⟨n'+1,∅,kU,Cz,g3,true,_,_,_,rfl,S3,M0,.inl ⟨rfl,n',rfl,by rw [Ut];exact en⟩⟩
  refine⟨_,rfl,R,rfl,⟨_,S2.sm.seq hd hR⟩,?_⟩;refine eQ (xs:=rs.map V.ref) (λi σ H6=>∃(kU:List (aN×V)) (Cz:List Str)(g3:G)(xC:Bool)(y4 y5 y6:Option V),σ=[bG R,bG d,bG fl,some (.bl xC),y4,y5,y6]/\CI K aa ks H H6 d kU Cz g3/\(g3,xC)=(aa.take i).foldl (sstep bt) (g2,false))
   ⟨eB,PV,g2,false,_,_,_,rfl,S2,rfl⟩ ?_ ?_ ?_
  .rintro i σ H6 _ ⟨kU,Cz,g3,xC,y4,y5,y6,rfl,S3,_⟩;exact S3.sm.seq hd hR
  .rintro i x σ H6 ex ⟨kU,Cz,g3,xC,y4,y5,y6,rfl,S3,e3⟩;rw [bH] at ex;obtain⟨r,er,rfl⟩:=cf.mp ex;obtain⟨ru,e1,p,v1,v2⟩:=cy.get er;have oo:=bQ e1;have Mb:=h8 ru oo;have fo:(aa.take (i+1)).foldl (sstep bt) (g2,false)=sstep bt (g3,xC) ru:=by
    rw [di,e1,List.foldl_append,<-e3];rfl
   rw [fo];have QR:=S3.sm.tup hd v2;refine⟨r,_,rfl,S3.sm.tup hd v1,rfl,_,_,rfl,_,_,rfl,rfl,?_⟩;refine⟨_,rfl,p,rfl,⟨_,QR⟩,λD2 ot=>tP rfl QR ∅ S3.hd ot λH7 VA hd7=>?_⟩;have S4:=S3.same VA;have v4:=VA.tup QR;have eb:(ru.2.map λz=>(bh kU (Sum.inr z)).isSome).all id=jt g3 ru:=by
    unfold jt;rw [List.all_map];refine List.all_congr rfl λz=>?_;show (bh kU (Sum.inr z)).isSome=_;rw [S3.val,nK]
   refine⟨D2,_,rfl,aH.of hd7,_,rfl,?_⟩;rw [eb];refine c_ (λc4=>?_) (λc4=>?_)
   .have al:∀z∈ru.2,(g3 z).isSome=true:=λz hz=>fY.mp c4 z hz;refine⟨_,rfl,p,rfl,⟨_,v4⟩,λD3 Oy=>Ca (g:=g3) rfl v4 ∅ S4.hd S4.val al Oy λH8 LN Om=>?_⟩;have S5:=S4.same LN;have esz:1+(ru.2.map λz=>(g3 z).getD 0).sum=aP g3 ru:=rfl;refine⟨D3,_,rfl,aH.of Om,_,_,rfl,rfl,?_⟩;have mem:(bh kU (Sum.inr ru.1)).isSome=(g3 ru.1).isSome:=by rw [S5.val,nK]
    have fl5:=S5.sm fl _ (λz=>by rw [z,hd] at EH;cases EH) EH;have c5':=S5.sm c' _ (λz=>by rw [z,hd] at jq;cases jq) jq;have l5:=S5.len;refine⟨_,rfl,_,rfl,d,_,rfl,cu.k (k:=Sum.inr ru.1) S5.hd,_,rfl,?_⟩;refine c_ (λc5=>?_) (λc5=>?_)
    .have fr:cq bt g3 ru=true:=by
      unfold cq;rw [<-mem,c4,c5];rfl
     refine⟨_,rfl,_,rfl,_,rfl,d,_,rfl,oF.k (k:=Sum.inr ru.1) S5.hd (bW ∅),?_⟩;exact⟨_,_,dj g3 ru.1 (aP g3 ru),true,_,_,_,rfl,S5.put oo (aP g3 ru),(ay fr).symm⟩
    have ZW:(g3 ru.1).isSome=true:=by
     rw [mem] at c5;cases hq:(g3 ru.1).isSome with
     | true=>rfl
     | false=>rw [hq] at c5;exact absurd rfl c5
    obtain⟨k,ek⟩:=lM.mp ZW;have hg:cu H8 d (.str ru.1) (some (.int k)):=by
     have:=cu.k (k:=Sum.inr ru.1) S5.hd;rw [S5.val,ek] at this;exact this
    refine⟨fl,pm,c',fk,rfl,_,rfl,_,rfl,_,rfl,d,_,rfl,hg,fl5,c5',rfl,Z9 (aP g3 ru) k _ _ ⟨_,rfl,?_⟩⟩;refine c_ (λc6=>?_) (λc6=>?_)
    .have fr:cq bt g3 ru=true:=by
      unfold cq;rw [c4,ek];show (true && (false || bt (aP g3 ru) k))=true
      rw [c6];rfl
     refine⟨_,rfl,_,rfl,_,rfl,d,_,rfl,oF.k (k:=Sum.inr ru.1) S5.hd (bW ∅),?_⟩;exact⟨_,_,dj g3 ru.1 (aP g3 ru),true,_,_,_,rfl,S5.put oo (aP g3 ru),(ay fr).symm⟩
    have fr:¬cq bt g3 ru=true:=by
     unfold cq;rw [c4,ek];show ¬(true && (false || bt (aP g3 ru) k))=true
     rw [pX.mpr c6];exact nofun
    exact⟨kU,Cz,g3,xC,_,_,_,rfl,S5,(av fr).symm⟩
   have e5:sstep bt (g3,xC) ru=(g3,xC):=av (λz=>c4 (by unfold cq at z;exact(sq.mp z).1));exact⟨kU,Cz,g3,xC,_,_,_,rfl,S4,e5.symm⟩
  rintro σ H6 ⟨kU,Cz,g3,xC,y4,y5,y6,rfl,S3,e3⟩;rw [aC,ll,de] at e3;exact⟨kU,Cz,g3,xC,_,_,_,rfl,S3,e3⟩
 rcases cs with ⟨c',_⟩ | ⟨_,se⟩
 .rw [c'] at c;exact absurd rfl c
 exact⟨_,rfl,qq eB PV g2 H5 S2.sm S2.hd S2.keys S2.val FC se (by have:=S2.len;omega)⟩
end
end fg
namespace M11
open PySem L2
theorem fold_lt {bt:Int->Int->Bool}{aa:List aA}{J:G->Prop}{r:G->G->Prop}(tr:∀a b c,r a b->r b c->r a c)
  (mD:∀g ru,J g->ru∈aa->cq bt g ru=true->J (dj g ru.1 (aP g ru))/\r (dj g ru.1 (aP g ru)) g) :
  ∀(l:List aA)(a:G×Bool),(∀ru∈l,ru∈aa)->J a.1->J (l.foldl (sstep bt) a).1/\(l.foldl (sstep bt) a=a\/r (l.foldl (sstep bt) a).1 a.1)
 | [],a,_,j=>⟨j,.inl rfl⟩
 | ru::l,a,h,j=>by
  by_cases c:cq bt a.1 ru=true
  .have e:sstep bt a ru=(dj a.1 ru.1 (aP a.1 ru),true):=ay c;obtain⟨j1,r1⟩:=mD a.1 ru j (h ru bT) c;obtain⟨j2,r2⟩:=fold_lt tr mD l (dj a.1 ru.1 (aP a.1 ru),true) (λx hx=>h x (cM _ hx)) j1;rw [List.foldl_cons,e];refine⟨j2,.inr ?_⟩;rcases r2 with r2 | r2
   .rw [r2];exact r1
   exact tr _ _ _ r2 r1
  have e:sstep bt a ru=a:=av c;rw [List.foldl_cons,e];exact fold_lt tr mD l a (λx hx=>h x (cM _ hx)) j
def xl {bt:Int->Int->Bool}{aa:List aA}{J:G->Prop}{r:G->G->Prop}(tr:∀a b c,r a b->r b c->r a c)
  (mD:∀g ru,J g->ru∈aa->cq bt g ru=true->J (dj g ru.1 (aP g ru))/\r (dj g ru.1 (aP g ru)) g){g:G}(h:Acc r g)(j:J g):∃n,oE bt aa n g:=by
 induction h with
 | intro g _ ih =>
  cases c:(rS bt aa g).2 with
  | false=>exact⟨0,c⟩
  | true =>
   obtain⟨j2,r2⟩:=fold_lt tr mD aa (g,false) (λ_ h=>h) j;have r3:r (rS bt aa g).1 g:=by
    rcases r2 with r2 | r2
    .have e:(rS bt aa g)=(g,false):=r2;rw [e] at c;cases c
    exact r2
   obtain⟨n,hn⟩:=ih _ r3 j2;exact⟨n+1,.inr hn⟩
def dw.keep {bt:Int->Int->Bool}{aa:List aA}{J:G->Prop}(mD:∀g ru,J g->ru∈aa->cq bt g ru=true->J (dj g ru.1 (aP g ru))){g g':G}(h:dw bt aa g g')(j:J g):J g':=by
 induction h with
 | refl=>exact j
 | step _ a b ih=>exact mD _ _ ih a b
def d6 (f:Str->Nat) (hs:List Str):Nat:=(hs.map f).sum
theorem wm {f k:Str->Nat}:∀{hs:List Str},(∀x∈hs,f x<=k x)->d6 f hs<=d6 k hs
 | [],_=>aK _
 | h::r,q=>by
  have h1:=q h bT;have h2:=wm (hs:=r) λx hx=>q x (cM _ hx);show f h+d6 f r<=k h+d6 k r;omega
theorem lP {f k:Str->Nat}:∀{hs:List Str}{h:Str},(∀x∈hs,f x<=k x)->h∈hs->f h < k h->d6 f hs < d6 k hs
 | a::r,h,q,m,l=>by
  have h1:=q a bT;have h2:∀x∈r,f x<=k x:=λx hx=>q x (cM _ hx);show f a+d6 f r < k a+d6 k r;rcases aT.mp m with z | z
  .have:=wm h2;rw [z] at l;omega
  have:=lP h2 z l;omega
theorem i8 (g:G)(J:∀z n,g z=some n->(0:Int)<=n):∀ps:List Str,0<=(ps.map λp=>(g p).getD 0).sum
 | []=>by simp
 | p::r=>by
  have h1:=i8 g J r;have h2:0<=(g p).getD 0:=by
   cases e:g p with
   | none=>exact mZ _
   | some n=>exact J p n e
  rw [bz,j9];omega
def NN (g:G):Prop:=∀z n,g z=some n->(0:Int)<=n
def vf {g:G}(j:NN g)(ru:aA):NN (dj g ru.1 (aP g ru)):=λz n e=>by
 unfold dj at e;by_cases c:z=ru.1
 .rw [ay c] at e;cases e;have:=i8 g j ru.2;unfold aP;omega
 rw [av c] at e;exact j z n e
def bl (a b:Int):Bool:=decide (a < b)
def bg (a b:Int):Bool:=decide (a > b)
def zq (hs:List Str)(g' g:G):Prop :=
 d6 (λh=>if (g' h).isSome then 0 else 1) hs < d6 (λh=>if (g h).isSome then 0 else 1) hs \/
 (d6 (λh=>if (g' h).isSome then 0 else 1) hs=d6 (λh=>if (g h).isSome then 0 else 1) hs/\d6 (λh=>((g' h).getD 0).toNat) hs < d6 (λh=>((g h).getD 0).toNat) hs)
def G7 (hs:List Str)(g:G):Acc (zq hs) g:=by
 have wf:=(Prod.lex (β:=Nat) (α:=Nat) ⟨(· < ·),Nat.lt_wfRel.wf⟩ ⟨(· < ·),Nat.lt_wfRel.wf⟩).wf;have key:∀p:Nat×Nat,∀g:G,(d6 (λh=>if (g h).isSome then 0 else 1) hs,d6 (λh=>((g h).getD 0).toNat) hs)=p->Acc (zq hs) g:=λp=>by
  induction p using wf.induction with
  | _ p ih =>
   intro g e;refine⟨g,λg' r=>ih _ ?_ g' rfl⟩;rw [<-e];rcases r with r | ⟨r1,r2⟩
   .exact Prod.Lex.left _ _ r
   show Prod.Lex _ _ (d6 (λh=>if (g' h).isSome then 0 else 1) hs,_) _;rw [r1];exact Prod.Lex.right _ r2
 exact key _ g rfl
def Ki (hs:List Str)(a b c:G)(h:zq hs a b)(k:zq hs b c):zq hs a c:=by
 unfold zq at *;omega
def El {aa:List aA}(g:G)(ru:aA)(j:NN g)(m:ru∈aa)(f:cq bl g ru=true):NN (dj g ru.1 (aP g ru))/\zq (aa.map (·.1)) (dj g ru.1 (aP g ru)) g:=by
 refine⟨vf j ru,?_⟩;have hm:ru.1∈aa.map (·.1):=iI m;have nn:=vf j ru;have gP:dj g ru.1 (aP g ru) ru.1=some (aP g ru):=ay rfl;have ne:∀z,z≠ru.1->dj g ru.1 (aP g ru) z=g z:=λz n=>av n;unfold cq at f;have f2:=(sq.mp f).2;cases e:g ru.1 with
 | none =>
  refine .inl (lP (λx _=>?_) hm ?_)
  .by_cases c:x=ru.1
   .show (if (dj g ru.1 (aP g ru) x).isSome then 0 else 1)<=_;rw [c,gP];exact dC _
   show (if (dj g ru.1 (aP g ru) x).isSome then 0 else 1)<=_;rw [ne x c];exact aK _
  show (if (dj g ru.1 (aP g ru) ru.1).isSome then 0 else 1) < (if (g ru.1).isSome then 0 else 1);rw [gP,e];show 0 < 1;exact Nat.one_pos
 | some k =>
  rw [e] at f2;have lt:aP g ru < k:=d5 (by simpa [bl] using f2);have h0:=nn ru.1 _ gP;refine .inr ⟨?_,lP (λx _=>?_) hm ?_⟩
  .unfold d6
   congr 1
   refine List.map_congr_left λx _=>?_;by_cases c:x=ru.1
   .show (if (dj g ru.1 (aP g ru) x).isSome then 0 else 1)=(if (g x).isSome then 0 else 1);rw [c,gP,e];rfl
   show (if (dj g ru.1 (aP g ru) x).isSome then 0 else 1)=(if (g x).isSome then 0 else 1);rw [ne x c]
  .by_cases c:x=ru.1
   .show ((dj g ru.1 (aP g ru) x).getD 0).toNat<=((g x).getD 0).toNat;rw [c,gP,e];show (aP g ru).toNat<=k.toNat;omega
   show ((dj g ru.1 (aP g ru) x).getD 0).toNat<=((g x).getD 0).toNat;rw [ne x c];exact aK _
  show ((dj g ru.1 (aP g ru) ru.1).getD 0).toNat < ((g ru.1).getD 0).toNat;rw [gP,e];show (aP g ru).toNat < k.toNat;omega
def zr (aa:List aA)(g:G)(j:NN g):∃n,oE bl aa n g:=xl (Ki (aa.map (·.1))) (λg ru=>El g ru) (G7 _ g) j
inductive Em (aa:List aA):Str->Prop
 | mk {ru:aA}:ru∈aa->(∀p∈ru.2,Em aa p)->Em aa ru.1
def xU (aa:List aA)(b:Str->Int):Prop:=(∀z,0<=b z)/\∀ru∈aa,(∀p∈ru.2,Em aa p)->1+(ru.2.map b).sum<=b ru.1
def GJ (aa:List aA)(b:Str->Int)(g:G):Prop:=∀z n,g z=some n->0<=n/\n<=b z/\Em aa z
theorem Aa {aa:List aA}{b:Str->Int}{g:G}(j:GJ aa b g)(hb:∀z,0<=b z):∀ps:List Str,(ps.map λp=>(g p).getD 0).sum<=(ps.map b).sum
 | []=>by simp
 | p::r=>by
  have h1:=Aa j hb r;have h2:(g p).getD 0<=b p:=by
   cases e:g p with
   | none=>exact hb p
   | some n=>exact(j p n e).2.1
  rw [bz,j9,bz,j9];omega
def gm (b:Str->Int)(g:G)(h:Str):Nat:=if (g h).isSome then (b h - (g h).getD 0).toNat else (b h).toNat+1
def qV {aa:List aA}{b:Str->Int}(B:xU aa b)(g:G)(ru:aA)(j:GJ aa b g)(m:ru∈aa)(f:cq bg g ru=true) :
  GJ aa b (dj g ru.1 (aP g ru))/\d6 (gm b (dj g ru.1 (aP g ru))) (aa.map (·.1)) < d6 (gm b g) (aa.map (·.1)):=by
 have hm:ru.1∈aa.map (·.1):=iI m;have gP:dj g ru.1 (aP g ru) ru.1=some (aP g ru):=ay rfl;have ne:∀z,z≠ru.1->dj g ru.1 (aP g ru) z=g z:=λz n=>av n;unfold cq at f;obtain⟨f1,f2⟩:=sq.mp f;have em:∀p∈ru.2,Em aa p:=λp hp=>by
  obtain⟨n,en⟩:=lM.mp (fY.mp f1 p hp);exact(j p n en).2.2
 have bd:=B.2 ru m em;have sb:=Aa j B.1 ru.2;have s0:=i8 g (λz n e=>(j z n e).1) ru.2;have sz:0<=aP g ru/\aP g ru<=b ru.1:=by unfold aP;omega
 refine⟨λz n e=>?_,lP (λx _=>?_) hm ?_⟩
 .by_cases c:z=ru.1
  .rw [c,gP] at e;cases e;rw [c];exact⟨sz.1,sz.2,.mk m em⟩
  rw [ne z c] at e;exact j z n e
 .by_cases c:x=ru.1
  .rw [c];unfold gm;rw [gP];show (b ru.1 - aP g ru).toNat<=_;cases e:g ru.1 with
   | none=>show _<=(b ru.1).toNat+1;omega
   | some k =>
    rw [e] at f2;have lt:aP g ru > k:=d5 (by simpa [bg] using f2);show _<=(b ru.1 - k).toNat;omega
  unfold gm;rw [ne x c];exact aK _
 unfold gm;rw [gP];show (b ru.1 - aP g ru).toNat < _;cases e:g ru.1 with
 | none=>show _ < (b ru.1).toNat+1;omega
 | some k =>
  rw [e] at f2;have lt:aP g ru > k:=d5 (by simpa [bg] using f2);show _ < (b ru.1 - k).toNat;omega
def zC {aa:List aA}{b:Str->Int}(B:xU aa b)(g:G)(j:GJ aa b g):∃n,oE bg aa n g :=
 xl (r:=λg' g=>d6 (gm b g') (aa.map (·.1)) < d6 (gm b g) (aa.map (·.1))) (λ_ _ _ h k=>kA h k) (qV B) ((InvImage.wf (λg:G=>d6 (gm b g) (aa.map λx:aA=>x.1)) Nat.lt_wfRel.wf).apply g) j
def xb {aa:List aA}{b:Str->Int}(B:xU aa b){g g':G}(h:dw bg aa g g')(j:GJ aa b g):GJ aa b g':=h.keep (λg ru a m f=>(qV B g ru a m f).1) j
end M11
namespace L2
open PySem
def xu {K:aY}{H:Hp}{p D:Addr}{zs:List Str}{σ:St}{v:V}{x:Str}{Qp:Hp->Prop}(hp:aH K H p (zs.map V.str))(hz:zs.length<=10000)(hD:H D=none)
  (q:∀ts H2,aD H H2->H2 D=some (.lst (ts.map V.ref))->Paired (λt h=>bj K H2 t [.str h,v]) ts zs->Qp H2) :
  ∃W:Nat->Nat->List V->St->Hp->Prop,(∃m,W 0 m [] (eE [x] [] σ) (upd H D (.lst []))) /\
 ∀i m ys σ' H,W i m ys σ' H->((ku K p).stop i H/\Qp H)\/((ku K p).go i H/\∃m',m' < m/\∀x H',(ku K p).nO i H x H'->dX 0 x σ' H' λσ2 H2=>iO σ2 H2 λb H3 =>
  if b=true then rR (fq (fE 0) (fq (tC v) qv)) σ2 H3 λy H4=>H4 D=some (.lst ys)/\ys.length < sizeLine/\W (i+1) m' (ys++[y]) σ2 (upd H4 D (.lst (ys++[y]))) else W (i+1) m' ys σ2 H3):=by
 refine cb (xs:=zs.map V.str) (λi ys σ2 H2=>∃ts:List Addr,ys=ts.map V.ref/\ts.length=i/\Paired (λt h=>bj K H2 t [.str h,v]) ts (zs.take i)/\(∃y0,σ2=[y0])/\aD H H2/\H2 D=some (.lst ys))
  ⟨[],rfl,rfl,.nil,⟨none,rfl⟩,ah hD _,af⟩ (λi ys σ2 H2 _ h=>?_) (λi x ys σ2 H2 ex h=>?_) (λys σ2 H2 h=>?_)
 .obtain⟨_,_,_,_,_,sm,_⟩:=h;exact sm.seq hp
 .obtain⟨ts,rfl,ht,wX,⟨y0,rfl⟩,sm,hd⟩:=h;rw [bH] at ex;obtain⟨z,ez,rfl⟩:=cf.mp ex;have li:=(bR.mp ez).1;refine goN (zD ?_);refine⟨_,rfl,kc,λt hX=>⟨?_,bW (by rw [aC];omega),ts++[t],?_,?_,?_,⟨_,rfl⟩,?_,af⟩⟩
  .rw [aj (aq hd hX)];exact hd
  .rw [bu];rfl
  .rw [bZ,ht];rfl
  .rw [di,ez];have iD:upd H2 t (.tup [.str z,v]) D=some (.lst (ts.map V.ref)):=by rw [aj (aq hd hX)];exact hd
   exact fJ (Paired.gA wX λt' h' z=>ba iD ((ah hX _).tup z)) (ba iD (bj.of af))
  intro b o hb;rw [aj (λz=>by rw [z,hD] at hb;cases hb)];exact ah hX _ _ _ (sm b o hb)
 obtain⟨ts,rfl,ht,wX,_,sm,hd⟩:=h;rw [aC,de] at wX;exact q ts H2 sm hd wX
def Tab.same {T:Addr}{pos:Pos}{qual:Str}{H H':Hp}(h:Tab T pos qual H)(s:aD H H'):Tab T pos qual H':=by
 obtain⟨ps,a,b,c⟩:=h;refine⟨ps,s _ _ a,b,c.imp id ?_⟩;rintro⟨c',e,g⟩;exact⟨c',e,s _ _ g⟩
def Tab.HY {T d:Addr}{pos:Pos}{qual:Str}{H H':Hp}{kvs:List (aN×V)}(h:Tab T pos qual H)(s:eX d H H')(hd:H d=some (.dK kvs)):Tab T pos qual H':=by
 obtain⟨ps,a,b,c⟩:=h;refine⟨ps,s _ _ (λz=>by rw [z,hd] at a;cases a) a,b,c.imp id ?_⟩;rintro⟨c',e,g⟩;exact⟨c',e,s _ _ (λz=>by rw [z,hd] at g;cases g) g⟩
structure xO (K:aY)(x qual:Str)(st:Stmt)(f:Addr)(fd:FuncData)(T:Addr):Prop where
 ex:∃(oc:Value)(od:Option Addr)(kV doc pm:Value)(an:Option Addr)(c:Addr)(ct:Value)(vS:Array (Option Value)),
  fd=PySem.W.fnOf x qual (cW st) (bV st) (ax st) .none kV doc pm an (.ref c) ct/\K.lookup f=some ⟨oc,od,.func fd,vS⟩/\PySem.W.codeIn K (.ref c) qual=true/\PySem.W.codeHdIn K c T=true
 kp:PySem.W.keepIn K (.ref f)=true
def xO.ok {P:Program}{w:World}{K:aY}{mg:Str->Option Value}{base:Heap}{x qual:Str}{st:Stmt}{f:Addr}{fd:FuncData}{T:Addr}{N ps:List Str}{k:Nat}{sp:Sp}(F:xO K x qual st f fd T)(S:aM N ps (ax st))(len:∀vs H Q E,sp vs H Q E->vs.length=ps.length)
  (g9:∀(c:Addr)(A:Around)(outer:List Env)(s:Shared)(H:Hp)(vs:List V)(Q:VK)(E:XK),PySem.W.codeHdIn K c T=true->dB k (A.deeper (PyProof.Rows.envOfC qual (ax st) s.heap.objs.size f (.ref c)))->sp vs H Q E ->
   ∃t,xK (gK e_ P w K mg base N qual (ax st) f (.ref c) A outer s H E).Bw (bV st) t/\t { nx:=λ_ H'=>Q .dP H',rt:=Q } (start N vs) H):bA P w K mg base e_ (k+1) f fd ps sp:=by
 obtain⟨oc,od,kV,doc,pm,an,c,ct,vS,rfl,lk,rX,hC⟩:=F.ex;refine AU lk rX S len λA outer s H vs Q E hr px=>?_;obtain⟨t,h,q⟩:=g9 c A outer s H vs Q E hC hr px;exact⟨t,h.Bw,q⟩
theorem tD {v:V}:∀(hs:List Str)(bB:List (aN×V)) (as:List Str),bB.map (·.1)=as.map Sum.inr->(cO (hs.map λh=>((Sum.inr h:aN),v)) bB).map (·.1)=(M11.vG as hs).map Sum.inr
 | [],bB,as,e=>e
 | h::r,bB,as,e=>tD r (bE bB (Sum.inr h) v) (M11.gw as h) (fg.jM e h)
theorem qr {v:V}:∀(hs:List Str)(bB:List (aN×V))(z:Str),bh (cO (hs.map λh=>((Sum.inr h:aN),v)) bB) (Sum.inr z)=if z∈hs then some v else bh bB (Sum.inr z)
 | [],bB,z=>by simp [cO]
 | h::r,bB,z=>by
  have ih:=qr (v:=v) r (bE bB (Sum.inr h) v) z;show bh (cO (r.map λh=>((Sum.inr h:aN),v)) (bE bB (Sum.inr h) v)) (Sum.inr z)=_;rw [ih,wb];by_cases c:z∈r
  .rw [ay c,ay (cM _ c)]
  rw [av c];by_cases c2:z=h
  .rw [ay (by rw [c2]),ay (by rw [c2];exact bT)]
  rw [av (λe=>c2 (kx e)),av (λe=>(aT.mp e).elim c2 c)]
end L2
namespace fg
open PySem L2 M11
def NF:List Stmt->Arguments×Expr×Scope×Pos
 | [.Return (some (.Call _ [_,_,.Lambda p b s pos] _ _)) _]=>(p,b,s,pos)
 | _=>(⟨[],[],none,[],[],none,[]⟩,.Constant .none 0 ⟨0,0,0,0⟩,ax qD,⟨0,0,0,0⟩)
abbrev qN:=NF (bV qD)
abbrev zp:=NF (bV u4)
abbrev xX:Str := "least_sizes" ++ ".<locals>." ++ "<lambda>"
abbrev Il:Str := "greatest_empty_sizes" ++ ".<locals>." ++ "<lambda>"
def Jw:aM ["size","known"] ["size","known"] qN.2.2.1:=i5 rfl rfl rfl rfl nofun
def Jx:aM ["size","known"] ["size","known"] zp.2.2.1:=i5 rfl rfl rfl rfl nofun
section
def yW (F:hU K "settled_sizes" "settled_sizes" lZ f fd)(T:Txt mg):bA P w K mg base e_ 2 f fd ["rules","sizes","better"] (gW K xX qN.1 qN.2.1 qN.2.2.1 M11.bl) :=
 sZ F T Jw (λpm fk c' us hl=>match us,hl with | [_,_],_=>rfl) (λ_ _ _ _ _ _=>ir oU (pv 0) (pv 1) (bX _)) (λa b H Q h=>⟨_,rfl,_,rfl,_,_,rfl,rfl,h⟩)
def yX (F:hU K "settled_sizes" "settled_sizes" lZ f fd)(T:Txt mg):bA P w K mg base e_ 2 f fd ["rules","sizes","better"] (gW K Il zp.1 zp.2.1 zp.2.2.1 M11.bg) :=
 sZ F T Jx (λpm fk c' us hl=>match us,hl with | [_,_],_=>rfl) (λ_ _ _ _ _ _=>ir qI (pv 0) (pv 1) (bX _)) (λa b H Q h=>⟨_,rfl,_,rfl,_,_,rfl,rfl,h⟩)
def vW (aa:List aA):G:=λz=>if z∈pJ (hd aa) [] (aa.flatMap (·.2)) then some 0 else none
def pM (K:aY)(T1:Addr):Sp:=λvs H Q _=>∃(R:Addr)(rs:List Addr)(aa:List aA),vs=[.ref R]/\aH K H R (rs.map V.ref)/\bq K H rs aa/\aa.length<=1000/\(∀ru∈aa,ru.2.length<=8)/\Tab T1 qN.2.2.2 xX H /\
 ∀(d:Addr)(kvs:List (aN×V)) (ks:List Str)(g:G)(H':Hp),H d=none->eX T1 H H'->Tab T1 qN.2.2.2 xX H'->H' d=some (.dK kvs)->kvs.map (·.1)=ks.map Sum.inr->(∀z,bh kvs (Sum.inr z)=(g z).map V.int)->dw M11.bl aa (vW aa) g->gM M11.bl aa g->kvs.length<=20000->Q (.ref d) H'
def Gf:aM ["rules"] ["rules"] (ax qD):=i5 rfl rfl rfl rfl nofun
def DW {T1:Addr}(F:xO K "least_sizes" "least_sizes" qD f fd T1)(T:Txt mg)(hB:rN mg base)(GW:aG P w K mg base 1 "words_in" ["rules"] (Ad K))
  (GS:aG P w K mg base 2 "settled_sizes" ["rules","sizes","better"] (gW K xX qN.1 qN.2.1 qN.2.2.1 M11.bl)):bA P w K mg base e_ 3 f fd ["rules"] (pM K T1):=by
 refine F.ok Gf (λvs H Q E h=>?_) (λc A outer s H vs Q E hC hr h=>?_)
 .obtain⟨R,rs,aa,rfl,_⟩:=h;rfl
 obtain⟨R,rs,aa,rfl,hR,cy,bI,h8,hT,q⟩:=h;refine⟨_,au (aW (bp GS hr rfl (ae (pv 0) (ae (a_ (dI rfl) rfl T.vY eV (ae
  (bY ["word"] [] rfl (bK (bp (GW.mono (by decide:1<=2)) hr rfl (ae (pv 0) ak))) (bL rfl rfl) nofun rfl nofun
   (λ_ _ _ _ _=>az (i:=0) (show (["word"]:List Str).Nodup by decide +kernel) rfl (bO rfl)) (λ_ _ _ _ _=>cP)
   (λ_ _ _ _ _=>bS (ae (pv 0) (ae ar ak)))) ak)) (ae (DC (T:=T1) rfl hC hB nofun) ak))))),?_⟩
 dsimp only [pF];refine⟨_,rfl,_,rfl,R,rs,aa,rfl,hR,cy,bI,h8,λD1 H1 f1 s1 e1=>?_⟩;have lw:(pJ (hd aa) [] (aa.flatMap (·.2))).length<=8000:=by
  have h1:=uH (hd aa) (aa.flatMap (·.2)) [];have h2:=iX aa 1000 bI h8;simp only [jw] at h1;omega
 refine⟨D1,rfl,⟨_,aH.of e1⟩,λD2 ot=>xu (aH.of e1) ∅ ot λts H2 s2 e2 p2=>?_⟩;have kp:Paired (λt (kv:aN×V)=>bj K H2 t [kV kv.1,kv.2]) ts ((pJ (hd aa) [] (aa.flatMap (·.2))).map λh=>((Sum.inr h:aN),V.int 0)):=cE p2 λ_ _ z=>z;refine⟨D2,ts,_,rfl,e2,kp,λd hd2=>?_⟩;have k1:=tD (v:=.int 0) (pJ (hd aa) [] (aa.flatMap (·.2))) [] [] rfl;have k2:∀z,bh (cO ((pJ (hd aa) [] (aa.flatMap (·.2))).map λh=>((Sum.inr h:aN),V.int 0)) []) (Sum.inr z)=(vW aa z).map V.int:=λz=>by
  rw [qr];unfold vW
  split <;> rfl
 have lk:=iw (pJ (hd aa) [] (aa.flatMap (·.2))) [];simp only [jw] at lk;generalize cO ((pJ (hd aa) [] (aa.flatMap (·.2))).map λh=>((Sum.inr h:aN),V.int 0)) []=NK at k1 k2;have s3:=(s1.trans s2).trans (ah hd2 (.dK NK));have e3:upd H2 d (.dK NK) d=some (.dK NK):=af;have vX:H d=none:=(s1.trans s2).free hd2;generalize upd H2 d (.dK NK)=H3 at s3 e3;refine⟨hT.same s3,λfl c' fk H4 s4 t4 ffl e4 Uo=>?_⟩;have nT:d≠T1:=λz=>by
  obtain⟨ps,a,_⟩:=hT.same s3;rw [<-z,e3] at a;cases a
 have CC:=s4 d _ nT e3;have RR:∀{a xs},bj K H a xs->bj K H4 a xs:=λ{a xs} h=>by
  obtain⟨ps,b,_⟩:=hT;rcases h with (h | ⟨u,h⟩) | h
  .exact .inl (.inl (s4 _ _ (λz=>by rw [z,b] at h;cases h) (s3 _ _ h)))
  .exact .inl (.inr ⟨u,s4 _ _ (λz=>by rw [z,b] at h;cases h) (s3 _ _ h)⟩)
  exact .inr h
 have RS:∀{a xs},aH K H a xs->aH K H4 a xs:=λ{a xs} h=>by
  obtain⟨ps,b,_⟩:=hT;rcases h with (h | ⟨u,h⟩) | h
  .exact .inl (.inl (s4 _ _ (λz=>by rw [z,b] at h;cases h) (s3 _ _ h)))
  .exact .inl (.inr ⟨u,s4 _ _ (λz=>by rw [z,b] at h;cases h) (s3 _ _ h)⟩)
  exact .inr h
 refine⟨R,rs,aa,d,fl,c',_,fk,NK,_,vW aa,rfl,RS hR,cy.keep λ_ _ z=>RR z,bI,h8,CC,k1,oz _ lF,∅,k2,zr aa _ λz n e=>?_,e4,Uo,λkW NL g' H5 s5 e5 k5 v5 st se V7=>?_⟩
 .unfold vW at e
  split at e
  .cases e;exact mZ _
  cases e
 refine q d kW NL g' H5 vX (λb o n hb=>s5 b o (λz=>?_) (s4 b o n (s3 b o hb))) (t4.HY s5 CC) e5 k5 v5 st se V7;rw [z,vX] at hb;cases hb
def uO (K:aY)(T2:Addr):Sp:=λvs H Q _=>∃(R:Addr)(rs:List Addr)(aa:List aA)(b:Str->Int),vs=[.ref R]/\aH K H R (rs.map V.ref)/\bq K H rs aa/\aa.length<=1000/\(∀ru∈aa,ru.2.length<=8)/\xU aa b/\Tab T2 zp.2.2.2 Il H /\
 ∀(d:Addr)(kvs:List (aN×V)) (ks:List Str)(g:G)(H':Hp),H d=none->eX T2 H H'->Tab T2 zp.2.2.2 Il H'->H' d=some (.dK kvs)->kvs.map (·.1)=ks.map Sum.inr->(∀z,bh kvs (Sum.inr z)=(g z).map V.int)->GJ aa b g->dw M11.bg aa (λ_=>none) g->gM M11.bg aa g->Q (.ref d) H'
def Gi:aM ["rules"] ["rules"] (ax u4):=i5 rfl rfl rfl rfl nofun
def DY {T2:Addr}(F:xO K "greatest_empty_sizes" "greatest_empty_sizes" u4 f fd T2)(hB:rN mg base)
  (GS:aG P w K mg base 2 "settled_sizes" ["rules","sizes","better"] (gW K Il zp.1 zp.2.1 zp.2.2.1 M11.bg)):bA P w K mg base e_ 3 f fd ["rules"] (uO K T2):=by
 refine F.ok Gi (λvs H Q E h=>?_) (λc A outer s H vs Q E hC hr h=>?_)
 .obtain⟨R,rs,aa,b,rfl,_⟩:=h;rfl
 obtain⟨R,rs,aa,b,rfl,hR,cy,bI,h8,WM,hT,q⟩:=h;refine⟨_,au (aW (bp GS hr rfl (ae (pv 0) (ae fw (ae (DC (T:=T2) rfl hC hB nofun) ak))))),?_⟩;refine⟨_,rfl,λd vX=>?_⟩;have s3:=ah vX (.dK []);have e3:upd H d (.dK []) d=some (.dK []):=af;generalize upd H d (.dK [])=H3 at s3 e3;refine⟨hT.same s3,λfl c' fk H4 s4 t4 ffl e4 Uo=>?_⟩;have nT:d≠T2:=λz=>by
  obtain⟨ps,a,_⟩:=hT.same s3;rw [<-z,e3] at a;cases a
 have CC:=s4 d _ nT e3;have RR:∀{a xs},bj K H a xs->bj K H4 a xs:=λ{a xs} h=>by
  obtain⟨ps,b,_⟩:=hT;rcases h with (h | ⟨u,h⟩) | h
  .exact .inl (.inl (s4 _ _ (λz=>by rw [z,b] at h;cases h) (s3 _ _ h)))
  .exact .inl (.inr ⟨u,s4 _ _ (λz=>by rw [z,b] at h;cases h) (s3 _ _ h)⟩)
  exact .inr h
 have RS:∀{a xs},aH K H a xs->aH K H4 a xs:=λ{a xs} h=>by
  obtain⟨ps,b,_⟩:=hT;rcases h with (h | ⟨u,h⟩) | h
  .exact .inl (.inl (s4 _ _ (λz=>by rw [z,b] at h;cases h) (s3 _ _ h)))
  .exact .inl (.inr ⟨u,s4 _ _ (λz=>by rw [z,b] at h;cases h) (s3 _ _ h)⟩)
  exact .inr h
 have j0:GJ aa b (λ_=>none):=λz n e=>nomatch e;refine⟨R,rs,aa,d,fl,c',_,fk,[],[],λ_=>none,rfl,RS hR,cy.keep λ_ _ z=>RR z,bI,h8,CC,rfl,lF,dC _,λ_=>rfl,zC WM _ j0,e4,Uo,λkW NL g' H5 s5 e5 k5 v5 st se V7=>?_⟩;refine q d kW NL g' H5 vX (λb o n hb=>s5 b o (λz=>?_) (s4 b o n (s3 b o hb))) (t4.HY s5 CC) e5 k5 v5 (xb WM st j0) st se;rw [z,vX] at hb;cases hb
end
end fg
namespace M11
open PySem L2
def B3 (b:Str->Bool) (zs:List Str) (i:Nat):List Int:=((List.range i).filter λj=>!(zs[j]?.elim true b)).map λj:Nat=>(j:Int)
def xi (b:Str->Bool) (zs:List Str) (i:Nat){z:Str}(e:zs[i]?=some z):B3 b zs (i+1)=B3 b zs i++(if b z=true then [] else [(i:Int)]):=by
 unfold B3;rw [List.range_succ,lK,bu]
 congr 1
 by_cases h:b z=true
 .rw [ay h];simp [e,h]
 rw [av h];simp [e,h]
def Ho (b:Str->Bool) (zs:List Str) (i:Nat):(B3 b zs i).length<=i:=by
 unfold B3;rw [aC];have:=lL (λj=>!(zs[j]?.elim true b)) (List.range i);rw [uf] at this;exact this
def G6 (b:Str->Bool) (zs:List Str) (j:Nat):Bool:=decide ([]=B3 b zs zs.length) || decide ([(j:Int)]=B3 b zs zs.length)
def Mv (aa:List aA) (names:List Str)(b:Str->Bool)(n:Str) (k j:Nat):Prop:=∃ru z,aa[k]?=some ru/\ru.1=n/\ru.2[j]?=some z/\z∈names/\G6 b ru.2 j=true
end M11
namespace L2
open PySem M11
def i3 (p:Str×Addr):aN×V:=(Sum.inr p.1,.ref p.2)
theorem mM:∀(ps bB:List (aN×V)),((bB++ps).map (·.1)).Nodup->cO ps bB=bB++ps
 | [],bB,_=>by simp [cO]
 | p::r,bB,h=>by
  have n:bh bB p.1=none:=by
   cases e:bh bB p.1 with
   | none=>rfl
   | some v =>
    have hm:=(dU bB p.1).mp (by rw [e];rfl);rw [bu,bz] at h;exact absurd rfl ((jx.mp h).2.2 p.1 hm p.1 bT)
  show cO r (bE bB p.1 p.2)=_;rw [wz p.2 n,mM r (bB++[(p.1,p.2)]) (by rw [gS];exact h),gS];rfl
theorem fN:∀(ps:List (Str×Addr)),(ps.map (·.1)).Nodup->∀p∈ps,bh (ps.map i3) (Sum.inr p.1)=some (.ref p.2)
 | q::r,h,p,hp=>by
  rw [bz] at h ⊢;rcases aT.mp hp with z | z
  .rw [z];exact dM rfl
  rw [dN,fN r (oG.mp h).2 p z];intro e;have e':q.1=p.1:=kx e;exact(oG.mp h).1 (by rw [e'];exact iI z)
def mx (ps:List (Str×Addr)):(ps.map i3).map (·.1)=(ps.map (·.1)).map Sum.inr:=by
 rw [h_,h_];rfl
def rq {K:aY}{H:Hp}{p D:Addr}{zs:List Str}{σ:St}{x:Str}{Qp:Hp->Prop}(hp:aH K H p (zs.map V.str))(hz:zs.length<=10000)(hD:H D=none)
  (q:∀ts (ps:List (Str×Addr)) H2,aD H H2->H2 D=some (.lst (ts.map V.ref))->ps.map (·.1)=zs->Paired (λt (p:Str×Addr)=>bj K H2 t [.str p.1,.ref p.2]) ts ps->(∀p∈ps,H2 p.2=some (.lst [])/\H p.2=none/\p.2≠D)->(ps.map (·.2)).Nodup->Qp H2) :
  ∃W:Nat->Nat->List V->St->Hp->Prop,(∃m,W 0 m [] (eE [x] [] σ) (upd H D (.lst []))) /\
 ∀i m ys σ' H,W i m ys σ' H->((ku K p).stop i H/\Qp H)\/((ku K p).go i H/\∃m',m' < m/\∀x H',(ku K p).nO i H x H'->dX 0 x σ' H' λσ2 H2=>iO σ2 H2 λb H3 =>
  if b=true then rR (fq (fE 0) (fq (MP qv) qv)) σ2 H3 λy H4=>H4 D=some (.lst ys)/\ys.length < sizeLine/\W (i+1) m' (ys++[y]) σ2 (upd H4 D (.lst (ys++[y]))) else W (i+1) m' ys σ2 H3):=by
 refine cb (xs:=zs.map V.str) (λi ys σ2 H2=>∃(ts:List Addr)(ps:List (Str×Addr)),ys=ts.map V.ref/\ts.length=i/\ps.map (·.1)=zs.take i/\Paired (λt (p:Str×Addr)=>bj K H2 t [.str p.1,.ref p.2]) ts ps /\
   (∀p∈ps,H2 p.2=some (.lst [])/\H p.2=none/\p.2≠D)/\(ps.map (·.2)).Nodup/\(∃y0,σ2=[y0])/\aD H H2/\H2 D=some (.lst ys))
  ⟨[],[],rfl,rfl,rfl,.nil,by simp,by simp,⟨none,rfl⟩,ah hD _,af⟩ (λi ys σ2 H2 _ h=>?_) (λi x ys σ2 H2 ex h=>?_) (λys σ2 H2 h=>?_)
 .obtain⟨_,_,_,_,_,_,_,_,_,sm,_⟩:=h;exact sm.seq hp
 .obtain⟨ts,ps,rfl,ht,hm,wX,hl,hn,⟨y0,rfl⟩,sm,hd⟩:=h;rw [bH] at ex;obtain⟨z,ez,rfl⟩:=cf.mp ex;have li:=(bR.mp ez).1;refine goN (zD ?_);refine⟨_,rfl,v9,λl qS=>⟨kc,λt hX=>?_⟩⟩;have Ka:l≠D:=(aq hd qS).symm;have nt:t≠l:=λe=>by rw [e,af] at hX;cases hX
  have NU:H2 t=none:=by rw [aj nt] at hX;exact hX
  have Y1:t≠D:=(aq hd NU).symm;have uQ:aD H2 (upd (upd H2 l (.lst [])) t (.tup [.str z,.ref l])):=(ah qS _).trans (ah hX _);have iD:=uQ _ _ hd;have el:upd (upd H2 l (.lst [])) t (.tup [.str z,.ref l]) l=some (.lst []):=by rw [aj nt.symm,af]
  have et:bj K (upd (upd H2 l (.lst [])) t (.tup [.str z,.ref l])) t [.str z,.ref l]:=bj.of af;generalize upd (upd H2 l (.lst [])) t (.tup [.str z,.ref l])=H4 at uQ iD el et;refine⟨iD,bW (by rw [aC];omega),ts++[t],ps++[(z,l)],by rw [bu];rfl,by rw [bZ,ht];rfl,by rw [bu,hm,di,ez];rfl,?_,?_,?_,⟨_,rfl⟩,?_,af⟩
  .exact fJ (Paired.gA wX λt' h' z=>ba iD (uQ.tup z)) (ba iD et)
  .intro p' lC;rcases cN.mp lC with h | h
   .obtain⟨a1,a2,a3⟩:=hl p' h;exact⟨by rw [aj a3];exact uQ _ _ a1,a2,a3⟩
   rw [cJ.mp h];exact⟨by rw [aj Ka];exact el,sm.free qS,Ka⟩
  .rw [bu];refine jx.mpr ⟨hn,by simp,λa ha b hb e=>?_⟩;rw [nN,cJ] at hb;obtain⟨p',lC,rfl⟩:=cT.mp ha;have:=(hl p' lC).1;rw [e,hb] at this;rw [show H2 l=none from qS] at this;cases this
  intro b o hb;rw [aj (λz=>by rw [z,hD] at hb;cases hb)];exact uQ _ _ (sm b o hb)
 obtain⟨ts,ps,rfl,ht,hm,wX,hl,hn,_,sm,hd⟩:=h;rw [aC,de] at hm;exact q ts ps H2 sm hd hm wX hl hn
def xy {K:aY}{H:Hp}{p D d:Addr}{zs:List Str}{kvs:List (aN×V)}{σ:St}{js:List (Nat×Str)}{Qp:Hp->Prop}(hσ:eE ["place","part"] js σ=[none,none,bG d])(hp:bj K H p (zs.map V.str))(hz:zs.length<=1000)
  (hd:H d=some (.dK kvs))(hD:H D=none)(q:∀H2,aD H H2->H2 D=some (.lst ((B3 (λz=>(bh kvs (Sum.inr z)).isSome) zs zs.length).map V.int))->Qp H2) :
  ∃W:Nat->Nat->List V->St->Hp->Prop,(∃m,W 0 m [] (eE ["place","part"] js σ) (upd H D (.lst []))) /\
 ∀i m ys σ' H,W i m ys σ' H->((rL K p).stop i H/\Qp H)\/((rL K p).go i H/\∃m',m' < m/\∀x H',(rL K p).nO i H x H'->B1 K 2 (jN (dX 0) (jN (dX 1) ES)) x σ' H' λσ2 H2=>tB (z8 (fE 1) (fE 2)) σ2 H2 λb H3 =>
  if b=true then fE 0 σ2 H3 λy H4=>H4 D=some (.lst ys)/\ys.length < sizeLine/\W (i+1) m' (ys++[y]) σ2 (upd H4 D (.lst (ys++[y]))) else W (i+1) m' ys σ2 H3):=by
 refine xA (xs:=zs.map V.str) (λi ys σ2 H2=>ys=(B3 (λz=>(bh kvs (Sum.inr z)).isSome) zs i).map V.int/\(∃y0 y1,σ2=[y0,y1,bG d])/\aD H H2/\H2 D=some (.lst ys))
  ⟨rfl,⟨none,none,hσ⟩,ah hD _,af⟩ (λi ys σ2 H2 _ h=>h.2.2.1.tup hp) (λi x ys σ2 H2 t ex h ht=>?_) (λys σ2 H2 h=>?_)
 .obtain⟨rfl,⟨y0,y1,rfl⟩,sm,hd2⟩:=h;rw [bH] at ex;obtain⟨z,ez,rfl⟩:=cf.mp ex;have li:=(bR.mp ez).1;have uQ:=sm.trans (ah ht (.tup [.int (i:Int),.str z]));have iD:upd H2 t (.tup [.int (i:Int),.str z]) D=some (.lst ((B3 (λz=>(bh kvs (Sum.inr z)).isSome) zs i).map V.int)):=by rw [aj (aq hd2 ht)];exact hd2
  have hv:bj K (upd H2 t (.tup [.int (i:Int),.str z])) t [.int (i:Int),.str z]:=bj.of af;generalize upd H2 t (.tup [.int (i:Int),.str z])=H3 at uQ iD hv;have fl:=Ho (λz=>(bh kvs (Sum.inr z)).isSome) zs i;refine⟨t,_,rfl,hv,rfl,_,_,rfl,_,_,rfl,rfl,?_⟩;refine⟨_,rfl,_,rfl,d,_,rfl,cu.k (k:=Sum.inr z) (uQ _ _ hd),_,rfl,?_⟩;refine c_ (λc=>?_) (λc=>?_)
  .refine⟨_,rfl,iD,bW (by rw [aC];omega),?_,⟨_,_,rfl⟩,?_,af⟩
   .rw [xi _ zs i ez,av (λe=>by rw [e] at c;exact absurd c nofun),bu];rfl
   intro b o hb;rw [aj (λz=>by rw [z,hD] at hb;cases hb)];exact uQ b o hb
  refine⟨?_,⟨_,_,rfl⟩,uQ,iD⟩;rw [xi _ zs i ez,ay,dD];cases hq:(bh kvs (Sum.inr z)).isSome with
  | true=>rfl
  | false=>exact absurd (by rw [hq];rfl) c
 obtain⟨rfl,_,sm,hd2⟩:=h;rw [aC] at hd2;exact q H2 sm hd2
end L2
namespace fg
open PySem L2 M11
section
def vi {l:List Str}(h:l.Nodup):(l.map (Sum.inr:Str->aN)).Nodup:=List.Pairwise.map _ (λa b hab e=>hab (kx e)) h
structure CG (K:aY)(ps:List (Str×Addr))(st:Str->List (Nat×Nat))(H:Hp)(d:Addr):Prop where
 hd:Rd H d (.dK (ps.map i3))
 n1:(ps.map (·.1)).Nodup
 n2:(ps.map (·.2)).Nodup
 lst:∀p∈ps,∃ts,H p.2=some (.lst (ts.map V.ref))/\Paired (λt (e:Nat×Nat)=>bj K H t [.int (e.1:Int),.int (e.2:Int)]) ts (st p.1)
def Rd.same {H H':Hp}{a:Addr}{u:HO}(h:Rd H a u)(s:aD H H'):Rd H' a u:=h.elim (λz=>.inl (s _ _ z)) λ⟨o,z⟩=>.inr ⟨o,s _ _ z⟩
theorem CG.same {ps:List (Str×Addr)}{st:Str->List (Nat×Nat)}{H H':Hp}{d:Addr}(h:CG K ps st H d)(s:aD H H'):CG K ps st H' d :=
 ⟨Rd.same h.hd s,h.n1,h.n2,λp hp=>let ⟨ts,a,b⟩:=h.lst p hp;⟨ts,s _ _ a,Paired.gA b λ_ _ z=>s.tup z⟩⟩
def tX (st:Str->List (Nat×Nat))(n:Str)(e:Nat×Nat):Str->List (Nat×Nat):=λz=>if z=n then st z++[e] else st z
def CG.more {ps:List (Str×Addr)}{st:Str->List (Nat×Nat)}{H:Hp}{d:Addr}(h:CG K ps st H d){p:Str×Addr}(hp:p∈ps){ts:List Addr}{t:Addr}{e:Nat×Nat}(a:H p.2=some (.lst (ts.map V.ref)))
  (b:Paired (λt (e:Nat×Nat)=>bj K H t [.int (e.1:Int),.int (e.2:Int)]) ts (st p.1))(c:bj K H t [.int (e.1:Int),.int (e.2:Int)]) :
  CG K ps (tX st p.1 e) (upd H p.2 (.lst (ts.map V.ref++[.ref t]))) d:=by
 have nd:d≠p.2:=λz=>by
  rcases h.hd with q | ⟨o,q⟩
  .rw [z,a] at q;cases q
  rw [z,a] at q;cases q
 refine⟨?_,h.n1,h.n2,λp' lC=>?_⟩
 .rcases h.hd with q | ⟨o,q⟩
  .exact .inl (by rw [aj nd];exact q)
  exact .inr ⟨o,by rw [aj nd];exact q⟩
 by_cases z:p'=p
 .rw [z];refine⟨ts++[t],by rw [af,bu];rfl,?_⟩;have e1:tX st p.1 e p.1=st p.1++[e]:=ay rfl;rw [e1];exact fJ (Paired.gA b λ_ _ z=>ba a z) (ba a c)
 have n1:p'.1≠p.1:=λq=>z (by
  have w1:=fN ps h.n1 p' lC;have w2:=fN ps h.n1 p hp;rw [q,w2] at w1;injection w1 with w3;injection w3 with w4;exact Prod.ext q w4.symm)
 have n2:p'.2≠p.2:=λq=>by
  obtain⟨i,hi,ei⟩:=oP.mp lC;obtain⟨j,hj,ej⟩:=oP.mp hp;have BV:i=j:=by
   refine(uc (xs:=ps.map (·.2)) (h₀:=by simpa using hi) (h₁:=by simpa using hj) h.n2).mp ?_;rw [nF,nF,ei,ej];exact q
  subst BV;exact z (ei.symm.trans ej)
 obtain⟨Vs,a',b'⟩:=h.lst p' lC;refine⟨Vs,by rw [aj n2];exact a',?_⟩;have e1:tX st p.1 e p'.1=st p'.1:=av n1;rw [e1];exact Paired.gA b' λ_ _ z=>ba a z
def Ag (K:aY):Sp:=λvs H Q _=>∃(R:Addr)(rs:List Addr)(aa:List aA),vs=[.ref R]/\aH K H R (rs.map V.ref)/\bq K H rs aa/\aa.length<=1000/\(∀ru∈aa,ru.2.length<=8) /\
 ∀(d:Addr)(ps:List (Str×Addr))(st:Str->List (Nat×Nat))(bc:List (Str×Nat))(H':Hp),H d=none->aD H H'->H' d=some (.dK (ps.map i3))->CG K ps st H' d->ps.map (·.1)=hd aa->(∀p∈ps,H p.2=none)->vP aa bc->xQ aa aa.length bc ->
  (∀n k j,n∈hd aa->((k,j)∈st n↔Mv aa (hd aa) (λz=>decide (z∈bc.map (·.1))) n k j))->Q (.ref d) H'
def ic:aM ["rules","empty","steps","number","rule","place","part","filled"] ["rules"] (ax yB):=i5 rfl rfl rfl rfl nofun
def DQ (F:hU K "steps_with_like_rows" "steps_with_like_rows" yB f fd)(T:Txt mg)(GE:aG P w K mg base 1 "found_empties" ["rules"] (nV K))(GH:aG P w K mg base 1 "heads_of" ["rules"] (jR K)):bA P w K mg base e_ 2 f fd ["rules"] (Ag K):=by
 refine F.ok ic (λvs H Q E h=>?_) (λdG A outer s H vs Q E hr h=>?_)
 .obtain⟨R,rs,aa,rfl,_⟩:=h;rfl
 obtain⟨R,rs,aa,rfl,hR,cy,bI,h8,q⟩:=h;have hu:=gq hr;refine⟨_,ao (aI (i:=1) ic.nd rfl (Or.inr rfl) (a_ (dI rfl) rfl T.vY eV (ae (bp GE hr rfl (ae (pv 0) ak)) ak)))
  (ao (aI (i:=2) ic.nd rfl (bO rfl) (a_ (dI rfl) rfl T.vY eV (ae
   (bY ["name"] [] rfl (bK (bp GH hr rfl (ae (pv 0) ak))) (bL rfl rfl) nofun rfl nofun
    (λ_ _ _ _ _=>az (i:=0) (show (["name"]:List Str).Nodup by decide +kernel) rfl (bO rfl)) (λ_ _ _ _ _=>cP)
    (λ_ _ _ _ _=>bS (ae (pv 0) (ae (bo ak) ak)))) ak)))
  (ao (cD cU rfl (mj rfl T.E3 (ae (pv 0) ak)) (eJ rfl (aE (az (i:=3) ic.nd rfl (bO rfl)) (aE (az (i:=4) ic.nd rfl (bO rfl)) b_)))
   (ao (ik (iy:=7) ["place","part"] [(1,"empty")] ic.nd rfl rfl rfl (mi rfl T.E3 (ae (aQ cK (pv 4) ar (λ_ _=>rfl)) ak)) (bL rfl rfl) nofun rfl nofun
    (λ_ _ _ _ _=>iq (n:=2) K rfl (aE (az (i:=0) (show (["place","part","empty"]:List Str).Nodup by decide +kernel) rfl (bO rfl)) (aE (az (i:=1) (show (["place","part","empty"]:List Str).Nodup by decide +kernel) rfl (bO rfl)) b_)))
    (λ_ _ _ _ _=>gI (eI (du hu (pv 1) (pv 2)))) (λ_ _ _ _ _=>pv 0))
   (au (cD cU rfl (mi rfl T.E3 (ae (aQ cK (pv 4) ar (λ_ _=>rfl)) ak)) (eJ rfl (aE (az (i:=5) ic.nd rfl (bO rfl)) (aE (az (i:=6) ic.nd rfl (bO rfl)) b_)))
    (au (b9 (PW.pt (gZ (eI (n8 hu (pv 6) (pv 2))) (i9 (bJ (Bo hu) (pv 7) (bS (ae (bo ak) (ae (bo (ae (pv 5) ak)) ak))) rfl))))
     (au (cv (cX f_ iL iM cA (eh hu (pv 2) (aQ cK (pv 4) ar (λ_ _=>rfl)) (λ_ _=>rfl)) (ae (bS (ae (pv 3) (ae (pv 5) ak))) ak)))) aZ)))))
   )
  (au (aW (pv 2))))),?_⟩
 nofun
 have ll:=bM cy;refine⟨_,rfl,R,rs,aa,rfl,hR,cy,bI,h8,λD1 Bg bc H1 f1 s1 e1 w1 emp B5=>?_⟩;have Sj:Paired (λt (kv:aN×V)=>bj K H1 t [kV kv.1,kv.2]) Bg (bc.map λp=>((Sum.inr p.1:aN),V.int (p.2:Int))):=cE w1 λ_ _ z=>z;refine⟨D1,Bg,_,rfl,e1,Sj,λe he=>?_⟩;have ekE:cO (bc.map λp=>((Sum.inr p.1:aN),V.int (p.2:Int))) []=bc.map λp=>((Sum.inr p.1:aN),V.int (p.2:Int)):=mM _ [] (by
  rw [lG,h_];have:=vi emp.nd;rw [h_] at this;exact this)
 rw [ekE];have BE:∀z,(bh (bc.map λp=>((Sum.inr p.1:aN),V.int (p.2:Int))) (Sum.inr z)).isSome=decide (z∈bc.map (·.1)):=λz=>by
  rw [iH,dU,decide_eq_true_iff,h_];have:(bc.map λp:Str×Nat=>(Sum.inr p.1:aN))=(bc.map (·.1)).map Sum.inr:=by rw [h_];rfl
  show _∈(bc.map λp:Str×Nat=>(Sum.inr p.1:aN))↔_;rw [this];exact cR
 generalize (bc.map λp=>((Sum.inr p.1:aN),V.int (p.2:Int)))=kE at BE ⊢;have s2:=s1.trans (ah he (.dK kE));have e2:upd H1 e (.dK kE) e=some (.dK kE):=af;generalize upd H1 e (.dK kE)=H2 at s2 e2;refine⟨_,rfl,R,rs,aa,rfl,s2.seq hR,cy.same s2,bI,λD2 H3 f3 s3 e3=>?_⟩;have Kh:=iw (aa.map (·.1)) [];simp only [jw,aC] at Kh;refine⟨D2,rfl,⟨_,aH.of e3⟩,λD3 Oy=>rq (aH.of e3) ∅ Oy λts ps H4 s4 e4 m4 p4 l4 n4=>?_⟩;have n1:(ps.map (·.1)).Nodup:=by rw [m4];exact oz _ lF
 have Er:Paired (λt (kv:aN×V)=>bj K H4 t [kV kv.1,kv.2]) ts (ps.map i3):=cE p4 λ_ _ z=>z;refine⟨D3,ts,_,rfl,e4,Er,λd rP=>?_⟩;have OJ:cO (ps.map i3) []=ps.map i3:=mM _ [] (by
  rw [lG,mx];exact vi n1)
 rw [OJ];have s5:=((s2.trans s3).trans s4).trans (ah rP (.dK (ps.map i3)));have Bj:=ah rP (.dK (ps.map i3));have e5:upd H4 d (.dK (ps.map i3)) d=some (.dK (ps.map i3)):=af;have ON:=Bj _ _ (s4 _ _ (s3 _ _ e2));have vX:H d=none:=((s2.trans s3).trans s4).free rP;have S5:CG K ps (λ_=>[]) (upd H4 d (.dK (ps.map i3))) d:=⟨.inl e5,n1,n4,λp hp=>⟨[],Bj _ _ (l4 p hp).1,.nil⟩⟩;have Me:∀p∈ps,H p.2=none:=λp hp=>(s2.trans s3).free (l4 p hp).2.1;generalize upd H4 d (.dK (ps.map i3))=H5 at s5 e5 ON S5;clear Bj;have eb:(λz=>(bh kE (Sum.inr z)).isSome)=λz=>decide (z∈bc.map (·.1)):=funext BE;refine⟨_,rfl,R,_,rfl,s5.seq hR,?_⟩
 let zW:zX:=λi σ H6=>∃(st:Str->List (Nat×Nat))(y3 y4 y5 y6 y7:Option V),σ=[bG R,bG e,bG d,y3,y4,y5,y6,y7]/\aD H H6/\H6 e=some (.dK kE)/\H6 d=some (.dK (ps.map i3))/\CG K ps st H6 d /\
  (∀n,(st n).length<=8 * i)/\∀n k j,n∈hd aa->((k,j)∈st n↔k < i/\Mv aa (hd aa) (λz=>decide (z∈bc.map (·.1))) n k j)
 refine jP (xs:=rs.map V.ref) zW
  ⟨λ_=>[],none,none,none,none,none,rfl,s5,ON,e5,S5,by simp,by simp⟩ ?_ ?_ ?_
 .rintro i σ H6 _ ⟨st,y3,y4,y5,y6,y7,rfl,s6,_⟩;exact s6.seq hR
 .rintro i x σ H6 t ex ⟨st,y3,y4,y5,y6,y7,rfl,s6,Lg,Um,S6,l6,c6⟩ ht
  ac_nf0
  rw [bH] at ex;obtain⟨r,er,rfl⟩:=cf.mp ex;obtain⟨ru,pD,p,v1,v2⟩:=cy.get er;have oo:=bQ pD;have Mb:=h8 ru oo;have li:=(bR.mp pD).1;have FD:=ah ht (.tup [.int (i:Int),.ref r]);have Iv:bj K (upd H6 t (.tup [.int (i:Int),.ref r])) t [.int (i:Int),.ref r]:=bj.of af;have s7:=s6.trans FD;have Lf:=FD _ _ Lg;have Xa:=FD _ _ Um;have S7:=S6.same FD;generalize upd H6 t (.tup [.int (i:Int),.ref r])=H7 at Iv s7 Lf Xa S7;refine⟨t,_,rfl,Iv,rfl,_,_,rfl,_,_,rfl,rfl,?_⟩;refine⟨_,rfl,r,_,_,_,rfl,rfl,s7.tup v1,rfl,p,_,rfl,s7.tup v2,λD5 Ma=>xy rfl (s7.tup v2) ∅ Lf Ma λH8 LP e8=>?_⟩;rw [eb] at e8;have s8:=s7.trans LP;have ee8:=LP _ _ Lf;have ed8:=LP _ _ Xa;have S8:=S7.same LP;have Zj:∀p∈ps,p.2≠D5:=λp hp z=>by
   obtain⟨Vs,a,_⟩:=S7.lst p hp;rw [z,Ma] at a;cases a
  obtain⟨pn,wY,x9⟩:∃pn∈ps,pn.1=ru.1:=by
   have:ru.1∈ps.map (·.1):=by rw [m4];exact(fX _ _ _).mpr (.inr (iI oo))
   obtain⟨pn,a,b⟩:=cT.mp this;exact⟨pn,a,b⟩
  refine⟨_,rfl,r,_,_,_,rfl,rfl,s8.tup v1,rfl,p,_,rfl,s8.tup v2,?_⟩
  let HG:zX:=λj σ H9=>∃(st:Str->List (Nat×Nat))(y5 y6:Option V),σ=[bG R,bG e,bG d,some (.int (i:Int)),bG r,y5,y6,bG D5]/\aD H H9/\H9 e=some (.dK kE)/\H9 d=some (.dK (ps.map i3))/\CG K ps st H9 d /\
   H9 D5=some (.lst ((B3 (λz=>decide (z∈bc.map (·.1))) ru.2 ru.2.length).map V.int))/\(∀n,(st n).length<=8 * i+j)/\∀n k j',n∈hd aa->((k,j')∈st n↔(k < i\/(k=i/\j' < j))/\Mv aa (hd aa) (λz=>decide (z∈bc.map (·.1))) n k j')
  refine ow (xs:=ru.2.map V.str) HG
   ⟨st,_,_,rfl,s8,ee8,ed8,S8,e8,λn=>l6 n,λn k j' hn=>by rw [c6 n k j' hn];simp⟩ ?_ ?_ ?_
  .rintro j σ H9 _ ⟨st,y5,y6,rfl,s9,_⟩;exact s9.tup v2
  .rintro j x σ H9 t2 EX ⟨st,y5,y6,rfl,s9,Uj,Ul,S9,e9,l9,c9⟩ hX
   ac_nf0
   rw [bH] at EX;obtain⟨z,ez,rfl⟩:=cf.mp EX;have lj:=(bR.mp ez).1;have wx:=ah hX (.tup [.int (j:Int),.str z]);have EA:bj K (upd H9 t2 (.tup [.int (j:Int),.str z])) t2 [.int (j:Int),.str z]:=bj.of af;have u6:=s9.trans wx;have vE:=wx _ _ Uj;have pE:=wx _ _ Ul;have CD:=wx _ _ e9;have IV:=S9.same wx;generalize upd H9 t2 (.tup [.int (j:Int),.str z])=zY at EA u6 vE pE CD IV;have mem:(bh (ps.map i3) (Sum.inr z)).isSome=true↔z∈hd aa:=by rw [dU,mx,m4];exact cR
   have hV:¬(z∈hd aa/\G6 (λz=>decide (z∈bc.map (·.1))) ru.2 j=true)->∀n k j',n∈hd aa->((k,j')∈st n↔(k < i\/(k=i/\j' < j+1))/\Mv aa (hd aa) (λz=>decide (z∈bc.map (·.1))) n k j'):=λhn n k j' SU=>by
    rw [c9 n k j' SU];constructor
    .rintro⟨h1,h3⟩;exact⟨∅,h3⟩
    rintro⟨h1,h3⟩;refine⟨?_,h3⟩;by_cases c:k=i/\j'=j
    .obtain⟨Aw,z',a1,a2,a3,a4,a5⟩:=h3;rw [c.1,pD] at a1;cases a1;rw [c.2] at a5;rw [c.2,ez] at a3;cases a3;exact absurd ⟨a4,a5⟩ hn
    omega
   have V8:∀n,(st n).length<=8 * i+(j+1):=λn=>by have:=l9 n;omega
   refine⟨t2,_,rfl,EA,rfl,_,_,rfl,_,_,rfl,rfl,?_⟩;refine⟨_,rfl,_,rfl,d,_,rfl,cu.k (k:=Sum.inr z) pE,_,rfl,?_⟩;refine c_ (λc=>?_) (λc=>?_)
   .have hz:=mem.mp c;refine⟨_,rfl,v9,λl1 Wr=>?_⟩;have Gm:=ah Wr (.lst []);have FR:upd zY l1 (.lst []) l1=some (.lst []):=af;have Y6:l1≠D5:=(aq CD Wr).symm;generalize upd zY l1 (.lst [])=Cw at Gm FR;refine⟨_,rfl,FZ,λl2 qS=>?_⟩;have H_:=ah qS (.lst [.int (j:Int)]);have IH:upd Cw l2 (.lst [.int (j:Int)]) l2=some (.lst [.int (j:Int)]):=af;have RL:l2≠D5:=(aq (Gm _ _ CD) qS).symm;generalize upd Cw l2 (.lst [.int (j:Int)])=xN at H_ IH;refine⟨kc,λt3 NU=>?_⟩;have PD:=ah NU (.tup [.ref l1,.ref l2]);have Xm:bj K (upd xN t3 (.tup [.ref l1,.ref l2])) t3 [.ref l1,.ref l2]:=bj.of af;generalize upd xN t3 (.tup [.ref l1,.ref l2])=A8 at PD Xm;have pj:=(Gm.trans H_).trans PD;refine⟨t3,D5,l1,l2,_,[],[(j:Int)],rfl,rfl,Xm,aH.of (pj _ _ CD),aH.of (PD _ _ (H_ _ _ FR)),aH.of (PD _ _ IH),Y6,RL,_,rfl,?_⟩;have Fp:=IV.same pj;have JF:=u6.trans pj;refine c_ (λc2=>?_) (λc2=>?_)
    .obtain⟨Vq,an,bn⟩:=Fp.lst pn wY;have vn:=fN ps n1 pn wY;rw [x9] at vn;have hg:cu A8 d (.str ru.1) (some (.ref pn.2)):=by
      have:=cu.k (k:=Sum.inr ru.1) (pj _ _ pE);rw [vn] at this;exact this
     have ltn:=bM bn;have l9n:=l9 pn.1;refine⟨_,rfl,_,rfl,r,_,_,_,rfl,rfl,JF.tup v1,rfl,d,_,rfl,hg,.inl ⟨rfl,_,aH.of an⟩,_,rfl,_,rfl,kc,λt4 BR=>?_⟩;have yN:=ah BR (.tup [.int (i:Int),.int (j:Int)]);have Xl:bj K (upd A8 t4 (.tup [.int (i:Int),.int (j:Int)])) t4 [.int (i:Int),.int (j:Int)]:=bj.of af;generalize upd A8 t4 (.tup [.int (i:Int),.int (j:Int)])=H14 at yN Xl;have O8:=Fp.same yN;have Hz:=yN _ _ an;have UH:=Paired.gA bn λt' (e':Nat×Nat)(z:bj K A8 t' [.int (e'.1:Int),.int (e'.2:Int)])=>yN.tup z;refine⟨pn.2,_,_,rfl,rfl,Hz,bW (by rw [aC];omega),?_⟩;have U7:=O8.more (e:=(i,j)) wY Hz UH Xl;have ne1:e≠pn.2:=λz=>by have:=yN _ _ (pj _ _ vE);rw [z,Hz] at this;cases this
     have ne2:d≠pn.2:=λz=>by have:=yN _ _ (pj _ _ pE);rw [z,Hz] at this;cases this
     refine⟨tX st pn.1 (i,j),_,_,rfl,λb o hb=>?_,by rw [aj ne1];exact yN _ _ (pj _ _ vE),by rw [aj ne2];exact yN _ _ (pj _ _ pE),U7,by rw [aj (Zj pn wY).symm];exact yN _ _ (pj _ _ CD),λn=>?_,λn k j' SU=>?_⟩
     .rw [aj (λz=>by rw [z,Me pn wY] at hb;cases hb)];exact yN _ _ (JF b o hb)
     .have:=l9 n;unfold tX
      split
      .rw [bZ];simp;omega
      omega
     have hit:Mv aa (hd aa) (λz=>decide (z∈bc.map (·.1))) ru.1 i j:=⟨ru,z,pD,rfl,ez,hz,c2⟩;have IM:=c9 n k j' SU;unfold tX;by_cases cn:n=pn.1
     .rw [ay cn,cN,cJ,IM];constructor
      .rintro(⟨h1,h3⟩ | h1)
       .exact⟨∅,h3⟩
       cases h1;exact⟨∅,by rw [cn,x9];exact hit⟩
      rintro⟨h1,h3⟩;by_cases cc:k=i/\j'=j
      .exact .inr (by rw [cc.1,cc.2])
      exact .inl ⟨∅,h3⟩
     rw [av cn,IM];constructor
     .rintro⟨h1,h3⟩;exact⟨∅,h3⟩
     rintro⟨h1,h3⟩;refine⟨?_,h3⟩;by_cases cc:k=i/\j'=j
     .obtain⟨Aw,z',a1,a2,_⟩:=h3;rw [cc.1,pD] at a1;cases a1;exact absurd (a2.symm.trans x9.symm) cn
     omega
    exact⟨st,_,_,rfl,JF,pj _ _ vE,pj _ _ pE,Fp,pj _ _ CD,V8,hV λ⟨_,h⟩=>c2 h⟩
   exact⟨st,_,_,rfl,u6,vE,pE,IV,CD,V8,hV λ⟨h,_⟩=>c (mem.mpr h)⟩
  rintro σ H9 ⟨st,y5,y6,rfl,s9,Uj,Ul,S9,e9,l9,c9⟩;rw [aC] at l9 c9;refine⟨st,_,_,_,_,_,rfl,s9,Uj,Ul,S9,λn=>?_,λn k j' hn=>?_⟩
  .have:=l9 n;omega
  rw [c9 n k j' hn];constructor
  .rintro⟨h1 | ⟨h1,h2⟩,h3⟩
   .exact⟨∅,h3⟩
   exact⟨∅,h3⟩
  rintro⟨h1,h3⟩;refine⟨?_,h3⟩;by_cases c:k < i
  .exact .inl c
  refine .inr ⟨∅,?_⟩;obtain⟨Aw,z',a1,_,a3,_⟩:=h3;have:k=i:=by omega
  rw [this,pD] at a1;cases a1;exact(bR.mp a3).1
 rintro σ H6 ⟨st,y3,y4,y5,y6,y7,rfl,s6,Lg,Um,S6,l6,c6⟩;rw [aC,ll] at c6;refine⟨_,rfl,q d ps st bc H6 vX s6 Um S6 m4 Me emp B5 λn k j hn=>?_⟩;rw [c6 n k j hn];constructor
 .exact λh=>h.2
 intro h;obtain⟨Aw,_,a1,_⟩:=id h;exact⟨(bR.mp a1).1,h⟩
end
end fg
namespace L2
open PySem
def cu.r {H:Hp}{a:Addr}{kvs:List (aN×V)}{k:aN}(e:Rd H a (.dK kvs)):cu H a (kV k) (bh kvs k):=.inl ⟨kvs,k,e,rfl,rfl⟩
end L2
namespace fg
open PySem L2 M11
section
def Down (aa:List aA) (names:List Str)(st:Str->List (Nat×Nat))(rk:Str->Nat):Prop:=∀n∈names,∀e∈st n,∃ru z,aa[e.1]?=some ru/\ru.2[e.2]?=some z/\z∈names/\rk z < rk n
def HS (K:aY):Sp:=λvs H Q _=>∃(R d:Addr)(rs:List Addr)(aa:List aA)(ps:List (Str×Addr))(st:Str->List (Nat×Nat))(name:Str)(rk:Str->Nat),vs=[.ref R,.ref d,.str name]/\aH K H R (rs.map V.ref)/\bq K H rs aa/\aa.length<=1000 /\
 CG K ps st H d/\ps.length<=1000/\name∈ps.map (·.1)/\Down aa (ps.map (·.1)) st rk/\∀(D:Addr)(H':Hp),H D=none->aD H H'->H' D=some (.lst [])->Q (.ref D) H'
structure CF (K:aY) (names:List Str)(rk:Str->Nat)(name:Str)(H H5:Hp)(D m:Addr)(kJ:List Addr)(jm:List (Str×Addr)) (ms:List Str)(kvs:List (aN×V)):Prop where
 sm:aD H H5
 hD:H5 D=some (.lst (kJ.map V.ref))
 hm:H5 m=some (.dK kvs)
 keys:kvs.map (·.1)=ms.map Sum.inr
 nd:ms.Nodup
 sub:∀x∈ms,x∈names
 wl:jm.length=ms.length+1
 wv:Paired (λt (e:Str×Addr)=>bj K H5 t [.str e.1,.ref e.2]) kJ jm
 we:∀e∈jm,e.1∈names/\rk e.1<=rk name/\∃xs,H5 e.2=some (.lst xs)/\xs.length<=jm.length/\e.2≠D
def CF.same {names:List Str}{rk:Str->Nat}{name:Str}{H H5 H6:Hp}{D m:Addr}{kJ:List Addr}{jm:List (Str×Addr)}{ms:List Str}{kvs:List (aN×V)}(h:CF K names rk name H H5 D m kJ jm ms kvs)(s:aD H5 H6):CF K names rk name H H6 D m kJ jm ms kvs :=
 ⟨h.sm.trans s,s _ _ h.hD,s _ _ h.hm,h.keys,h.nd,h.sub,h.wl,Paired.gA h.wv λ_ _ z=>s.tup z,λe he=>let ⟨a,b,xs,c,d⟩:=h.we e he;⟨a,b,xs,s _ _ c,d⟩⟩
def CF.len {names:List Str}{rk:Str->Nat}{name:Str}{H H5:Hp}{D m:Addr}{kJ:List Addr}{jm:List (Str×Addr)}{ms:List Str}{kvs:List (aN×V)}(h:CF K names rk name H H5 D m kJ jm ms kvs):kJ.length=jm.length/\kvs.length=ms.length/\ms.length<=names.length:=by
 refine⟨bM h.wv,?_,fj _ _ h.nd h.sub⟩;have:=congrArg List.length h.keys;simpa using this
def CF.more {names:List Str}{rk:Str->Nat}{name z:Str}{H H5 H9:Hp}{D m t c:Addr}{kJ:List Addr}{jm:List (Str×Addr)}{ms:List Str}{kvs:List (aN×V)}{xs:List V}(h:CF K names rk name H H5 D m kJ jm ms kvs)(fD:H D=none)(fm:H m=none)
  (hz:z∈names)(hr:rk z<=rk name)(hn:z∉ms)(s:aD (upd H5 m (.dK (bE kvs (Sum.inr z) (.bl true)))) H9)(ht:bj K H9 t [.str z,.ref c])(hc:H9 c=some (.lst xs))(hx:xs.length<=jm.length+1)(nc:c≠D) :
  CF K names rk name H (upd H9 D (.lst (kJ.map V.ref++[.ref t]))) D m (kJ++[t]) (jm++[(z,c)]) (ms++[z]) (bE kvs (Sum.inr z) (.bl true)):=by
 have PN:D≠m:=λe=>by have:=h.hD;rw [e,h.hm] at this;cases this
 have Iz:H9 D=some (.lst (kJ.map V.ref)):=s _ _ (by rw [aj PN];exact h.hD);have hm9:H9 m=some (.dK (bE kvs (Sum.inr z) (.bl true))):=s _ _ af;refine⟨λb o hb=>?_,by rw [af,bu];rfl,by rw [aj PN.symm];exact hm9,?_,?_,?_,?_,?_,?_⟩
 .rw [aj (λe=>by rw [e,fD] at hb;cases hb)];exact s _ _ (by rw [aj (λe=>by rw [e,fm] at hb;cases hb)];exact h.sm b o hb)
 .rw [ij (by rw [h.keys];exact λe=>hn (cR.mp e)),h.keys,bu];rfl
 .refine jx.mpr ⟨h.nd,by simp,λa ha b hb e=>?_⟩;rw [cJ.mp hb] at e;exact hn (e ▸ ha)
 .intro x Su;rcases cN.mp Su with e | e
  .exact h.sub x e
  rw [cJ.mp e];exact hz
 .rw [bZ,bZ,h.wl];rfl
 .exact fJ (Paired.gA h.wv λ_ _ e=>ba Iz (s.tup (gh h.hm e))) (ba Iz ht)
 intro e he;rw [bZ];rcases cN.mp he with e' | e'
 .obtain⟨a,b,ys,c1,d1,n1⟩:=h.we e e';exact⟨a,b,ys,by rw [aj n1];exact s _ _ (by rw [aj (λq=>by rw [q,h.hm] at c1;cases c1)];exact c1),∅,n1⟩
 rw [cJ.mp e'];exact⟨hz,hr,xs,by rw [aj nc];exact hc,hx,nc⟩
def lU:aM ["rules","steps","name","ways","met","at","way","number","place","part"] ["rules","steps","name"] (ax Jz):=i5 rfl rfl rfl rfl nofun
def JU (F:hU K "way_back" "way_back" Jz f fd)(T:Txt mg):bA P w K mg base e_ 1 f fd ["rules","steps","name"] (HS K):=by
 refine F.ok lU (λvs H Q E h=>?_) (λdG A outer s H vs Q E hr h=>?_)
 .obtain⟨R,d,rs,aa,ps,st,name,rk,rfl,_⟩:=h;rfl
 obtain⟨R,d,rs,aa,ps,st,name,rk,rfl,hR,cy,bI,S,N5,EE,To,q⟩:=h;have hu:=gq hr;refine⟨_,ao (aI (i:=3) lU.nd rfl (bO rfl) (bo (ae (bS (ae (pv 2) (ae (bo ak) ak))) ak)))
  (ao (aI (i:=4) lU.nd rfl (bO rfl) fw)
  (ao (aI (i:=5) lU.nd rfl (bO rfl) ar)
  (ao (iR cU (bJ oU (pv 5) (aJ bN rfl T.len fK (ae (pv 3) ak)) (bX _))
   (ao (aI (i:=6) lU.nd rfl (bO rfl) (aQ cK (aQ aL (pv 3) (pv 5) (λ_ _=>rfl)) ar (λ_ _=>rfl)))
   (ao (cD cU rfl (bK (eh hu (pv 1) (aQ cK (aQ aL (pv 3) (pv 5) (λ_ _=>rfl)) ar (λ_ _=>rfl)) (λ_ _=>rfl))) (eJ rfl (aE (az (i:=7) lU.nd rfl (bO rfl)) (aE (az (i:=8) lU.nd rfl (bO rfl)) b_)))
    (ao (aI (i:=9) lU.nd rfl (bO rfl) (aQ cK (aQ cK (aQ aL (pv 0) (pv 7) (λ_ _=>rfl)) ar (λ_ _=>rfl)) (pv 8) (λ_ _=>rfl)))
    (ao (b9 (bJ iS (pv 9) (pv 2) (bX _)) (au d7) aZ)
    (au (b9 (eI (du hu (pv 9) (pv 4)))
     (ao (il hu (pv 4) (pv 9) eP rfl) (au (cv (cX f_ iL iM cA (pv 3) (ae (bS (ae (pv 9) (ae (bf iC (pv 6) (bo (ae (bS (ae (pv 7) (ae (pv 8) ak))) ak))) ak))) ak))))) aZ)))))
   (au (Dx (i:=5) lU.nd rfl (bO rfl) ar Ez)))))
  (au (aW (bo ak)))))),?_⟩
 nofun
 have oX:(ps.map (·.1)).length=ps.length:=aC _;refine⟨_,rfl,v9,λl0 P2=>?_⟩;have s1:=ah P2 (.lst []);have e1:upd H l0 (.lst []) l0=some (.lst []):=af;generalize upd H l0 (.lst [])=H1 at s1 e1;refine⟨kc,λt0 Z_=>?_⟩;have s2:=ah Z_ (.tup [.str name,.ref l0]);have e2:bj K (upd H1 t0 (.tup [.str name,.ref l0])) t0 [.str name,.ref l0]:=bj.of af;generalize upd H1 t0 (.tup [.str name,.ref l0])=H2 at s2 e2;refine⟨FZ,λD hD=>?_⟩;have s3:=ah hD (.lst [.ref t0]);have e3:upd H2 D (.lst [.ref t0]) D=some (.lst ([t0].map V.ref)):=af;have Y7:l0≠D:=aq (s2 _ _ e1) hD;generalize upd H2 D (.lst [.ref t0])=H3 at s3 e3;intro m hm;have s4:=ah hm (.dK []);have e4:upd H3 m (.dK []) m=some (.dK []):=af;generalize upd H3 m (.dK [])=H4 at s4 e4;have fD:H D=none:=(s1.trans s2).free hD;have fm:H m=none:=((s1.trans s2).trans s3).free hm;have W0:CF K (ps.map (·.1)) rk name H H4 D m [t0] [(name,l0)] [] []:=⟨((s1.trans s2).trans s3).trans s4,s4 _ _ e3,e4,rfl,lF,by simp,rfl,.cons ((s3.trans s4).tup e2) .nil,λe he=>by
  rw [cJ.mp he];exact⟨EE,aK _,[],s4 _ _ (s3 _ _ (s2 _ _ e1)),by simp,Y7⟩⟩
 refine⟨λmm σ H5=>∃(kJ:List Addr)(jm:List (Str×Addr)) (ms:List Str)(kvs:List (aN×V)) (at_:Nat)(y6 y7 y8 y9:Option V),σ=[bG R,bG d,some (.str name),bG D,bG m,some (.int (at_:Int)),y6,y7,y8,y9]/\CF K (ps.map (·.1)) rk name H H5 D m kJ jm ms kvs /\
  at_<=jm.length/\mm=1002 - at_,⟨1002,[t0],[(name,l0)],[],[],0,none,none,none,none,rfl,W0,by simp,rfl⟩,?_⟩
 rintro mm σ H5 ⟨kJ,jm,ms,kvs,at_,y6,y7,y8,y9,rfl,W,hat,rfl⟩;obtain⟨lw,lk,lm⟩:=W.len;have ZA:=W.wl;refine⟨_,rfl,_,rfl,D,_,rfl,.inl (aH.of W.hD),_,_,rfl,rfl,_,rfl,?_⟩;refine c_ (λc=>?_) (λc=>?_)
 .have c':=d5 c;rw [aC,lw] at c';have i4:at_ < jm.length:=by omega
  obtain⟨n,l,en⟩:∃n l,jm[at_]?=some (n,l):=⟨(jm[at_]).1,(jm[at_]).2,eG i4⟩;obtain⟨t1,et1,Wg⟩:=Paired.at_ W.wv at_ (n,l) en;have fC:si (kJ.map V.ref) (at_:Int)=some (.ref t1):=dY (by rw [bH,et1];rfl);obtain⟨hn,hrn,xs,hl,hxl,Ka⟩:=W.we (n,l) (bQ en);dsimp only at hn hrn hl Ka;obtain⟨pn,wY,x9⟩:=cT.mp hn;have vn:=fN ps S.n1 pn wY;rw [x9] at vn;obtain⟨Vq,an,bn⟩:=S.lst pn wY;rw [x9] at bn;refine⟨λσ H5=>∃(kJ:List Addr)(jm:List (Str×Addr)) (ms:List Str)(kvs:List (aN×V))(y6 y7 y8 y9:Option V),σ=[bG R,bG d,some (.str name),bG D,bG m,some (.int ((at_+1:Nat):Int)),y6,y7,y8,y9]/\CF K (ps.map (·.1)) rk name H H5 D m kJ jm ms kvs/\at_+1<=jm.length,?_,?_⟩
  .rintro σ H6 ⟨kJ,jm,ms,kvs,y6,y7,y8,y9,rfl,W2,h2⟩;exact⟨1002 - (at_+1),∅,kJ,jm,ms,kvs,at_+1,_,_,_,_,rfl,W2,h2,rfl⟩
  refine⟨_,rfl,_,rfl,D,_,_,_,rfl,rfl,aH.of W.hD,fC,t1,_,_,_,rfl,rfl,Wg,rfl,?_⟩;have hg:cu H5 d (.str n) (some (.ref pn.2)):=by
   have:=cu.r (k:=Sum.inr n) (Rd.same S.hd W.sm);rw [vn] at this;exact this
  refine⟨_,rfl,_,rfl,_,rfl,D,_,_,_,rfl,rfl,aH.of W.hD,fC,t1,_,_,_,rfl,rfl,Wg,rfl,d,_,rfl,hg,pn.2,rfl,⟨_,aH.of (W.sm _ _ an)⟩,?_⟩
  let zW:zX:=λi σ H6=>∃(kJ:List Addr)(jm:List (Str×Addr)) (ms:List Str)(kvs:List (aN×V))(y7 y8 y9:Option V),σ=[bG R,bG d,some (.str name),bG D,bG m,some (.int (at_:Int)),bG l,y7,y8,y9]/\CF K (ps.map (·.1)) rk name H H6 D m kJ jm ms kvs /\
   at_+1<=jm.length/\∃e∈jm,e.2=l
  refine eQ (xs:=Vq.map V.ref) zW ⟨kJ,jm,ms,kvs,_,_,_,rfl,W,i4,(n,l),bQ en,rfl⟩ ?_ ?_ ?_
  .rintro i σ H6 _ ⟨kJ,jm,ms,kvs,y7,y8,y9,rfl,W2,_⟩;exact aH.of (W2.sm _ _ an)
  .rintro i x σ H6 ex ⟨kJ,jm,ms,kvs,y7,y8,y9,rfl,W2,h2,e0,Tn,Uk⟩
   ac_nf0
   rw [bH] at ex;obtain⟨ti,WY,rfl⟩:=cf.mp ex;have lbn:=bM bn;have lti:=(bR.mp WY).1;obtain⟨⟨k,j⟩,W8⟩:∃e,(st n)[i]?=some e:=⟨(st n)[i]'∅,eG ∅⟩;obtain⟨ti',OI,Z8⟩:=Paired.at_ bn i (k,j) W8;rw [WY] at OI;cases OI;obtain⟨ru,z,er,ez,hz,hrk⟩:=To n hn (k,j) (bQ W8);obtain⟨r,ID,p,v1,v2⟩:=Paired.at_ cy k ru er;have atr:si (rs.map V.ref) (k:Int)=some (.ref r):=dY (by rw [bH,ID];rfl);have OZ:si (ru.2.map V.str) (j:Int)=some (.str z):=dY (by rw [bH,ez];rfl);obtain⟨lw2,PU,ZG⟩:=W2.len;have V3:=W2.wl;refine⟨ti,_,rfl,W2.sm.tup Z8,rfl,_,_,rfl,_,_,rfl,rfl,?_⟩;refine⟨_,rfl,_,rfl,R,_,_,_,rfl,rfl,W2.sm.seq hR,atr,r,_,_,_,rfl,rfl,W2.sm.tup v1,rfl,_,rfl,p,_,_,_,rfl,rfl,W2.sm.tup v2,OZ,?_⟩;refine⟨_,rfl,_,rfl,rfl,_,rfl,?_⟩;have nz:z≠name:=λe=>by rw [e] at hrk;omega
   refine c_ (λc=>absurd (d5 c) (λe=>nz (by injection e))) (λ_=>?_);have mem:(bh kvs (Sum.inr z)).isSome=true↔z∈ms:=by rw [dU,W2.keys];exact cR
   refine⟨_,rfl,_,rfl,m,_,rfl,cu.k (k:=Sum.inr z) W2.hm,_,rfl,?_⟩;refine c_ (λc=>?_) (λc=>?_)
   .have nm:z∉ms:=λh=>by rw [mem.mpr h] at c;exact absurd c nofun
    refine⟨_,rfl,_,rfl,m,_,rfl,oF.k (k:=Sum.inr z) W2.hm (bW ∅),?_⟩;obtain⟨_,_,F4,qS,ZY,RL⟩:=W2.we e0 Tn;rw [Uk] at qS RL;have PN:D≠m:=λe=>by have:=W2.hD;rw [e,W2.hm] at this;cases this
    have Y4:l≠m:=λe=>by rw [e,W2.hm] at qS;cases qS
    have K1:upd H6 m (.dK (bE kvs (Sum.inr z) (.bl true))) D=some (.lst (kJ.map V.ref)):=by rw [aj PN];exact W2.hD
    have hlu:upd H6 m (.dK (bE kvs (Sum.inr z) (.bl true))) l=some (.lst F4):=by rw [aj Y4];exact qS
    refine⟨_,rfl,.inl ⟨rfl,_,aH.of K1⟩,_,rfl,_,rfl,_,rfl,_,rfl,kc,λt4 BR=>?_⟩;have VG:=ah BR (.tup [.int (k:Int),.int (j:Int)]);generalize upd (upd H6 m (.dK (bE kvs (Sum.inr z) (.bl true)))) t4 (.tup [.int (k:Int),.int (j:Int)])=H7 at VG;refine⟨FZ,λl4 hl4=>?_⟩;have VF:=ah hl4 (.lst [.ref t4]);have Xk:upd H7 l4 (.lst [.ref t4]) l4=some (.lst [.ref t4]):=af;generalize upd H7 l4 (.lst [.ref t4])=H8 at VF Xk;have Rf:=VG.trans VF;refine⟨l,l4,F4,[.ref t4],rfl,rfl,Rf _ _ hlu,Xk,fits (by simp;omega),λc0 Oq=>?_⟩;have VE:=ah Oq (.lst (F4++[.ref t4]));have Xj:upd H8 c0 (.lst (F4++[.ref t4])) c0=some (.lst (F4++[.ref t4])):=af;have Zd:c0≠D:=(aq (Rf _ _ K1) Oq).symm;generalize upd H8 c0 (.lst (F4++[.ref t4]))=H9 at VE Xj;refine⟨kc,λt5 Ky=>?_⟩;have Rc:=ah Ky (.tup [.str z,.ref c0]);have Xi:bj K (upd H9 t5 (.tup [.str z,.ref c0])) t5 [.str z,.ref c0]:=bj.of af;generalize upd H9 t5 (.tup [.str z,.ref c0])=zY at Rc Xi;have sA:=(Rf.trans VE).trans Rc;refine⟨D,_,_,rfl,rfl,sA _ _ K1,bW (by rw [aC];omega),?_⟩;exact⟨kJ++[t5],jm++[(z,c0)],ms++[z],_,_,_,_,rfl,W2.more fD fm hz ∅ nm sA Xi (Rc _ _ Xj) (by rw [bZ];simp;omega) Zd,by rw [bZ];omega,e0,oO _ Tn,Uk⟩
   exact⟨kJ,jm,ms,kvs,_,_,_,rfl,W2,h2,e0,Tn,Uk⟩
  rintro σ H6 ⟨kJ,jm,ms,kvs,y7,y8,y9,rfl,W2,h2,_⟩;exact⟨_,rfl,_,_,rfl,rfl,kJ,jm,ms,kvs,_,_,_,_,rfl,W2,h2⟩
 refine⟨v9,λD9 Iz=>q D9 _ (W.sm.free Iz) (W.sm.trans (ah Iz _)) af⟩
end
end fg
namespace L2
open PySem
def Cb {K:aY}{H:Hp}{p D:Addr}{ls:List Addr}{σ:St}{x:Str}{Qp:Hp->Prop}(hp:H p=some (.lst (ls.map V.ref)))(hl:∀l∈ls,H l=some (.lst []))(hD:H D=none)(q:∀H2,aD H H2->H2 D=some (.lst [])->Qp H2) :
  ∃W:Nat->Nat->List V->St->Hp->Prop,(∃m,W 0 m [] (eE [x] [] σ) (upd H D (.lst []))) /\
 ∀i m ys σ' H,W i m ys σ' H->((ku K p).stop i H/\Qp H)\/((ku K p).go i H/\∃m',m' < m/\∀x H',(ku K p).nO i H x H'->dX 0 x σ' H' λσ2 H2=>fE 0 σ2 H2 λx H'=>∃k,zS K x H' k/\(λb H3 =>
  if b=true then fE 0 σ2 H3 λy H4=>H4 D=some (.lst ys)/\ys.length < sizeLine/\W (i+1) m' (ys++[y]) σ2 (upd H4 D (.lst (ys++[y]))) else W (i+1) m' ys σ2 H3) k H'):=by
 refine cb (tif:=λσ H Q=>fE 0 σ H λx H'=>∃k,zS K x H' k/\Q k H') (xs:=ls.map V.ref) (λi ys σ2 H5=>ys=[]/\(∃y0,σ2=[y0])/\aD H H5/\H5 D=some (.lst [])) ⟨rfl,⟨none,rfl⟩,ah hD _,af⟩ (λi ys σ2 H5 _ h=>aH.of (h.2.2.1 _ _ hp)) (λi x ys σ2 H5 ex h=>?_) (λys σ2 H5 h=>?_)
 .obtain⟨rfl,⟨y0,rfl⟩,s5,e5⟩:=h;rw [bH] at ex;obtain⟨l,el,rfl⟩:=cf.mp ex;refine goN ?_;refine⟨_,rfl,false,.inl ⟨[],aH.of (s5 _ _ (hl l (bQ el))),rfl⟩,?_⟩;refine eC ?_;exact⟨rfl,⟨_,rfl⟩,s5,e5⟩
 obtain⟨rfl,_,s5,e5⟩:=h;exact q H5 s5 e5
end L2
namespace fg
open PySem L2 M11
section
def Fu (aa:List aA)(rk:Str->Nat):Prop:=∀bc,vP aa bc->xQ aa aa.length bc->∀n k j,Mv aa (hd aa) (λz=>decide (z∈bc.map (·.1))) n k j->∀ru z,aa[k]?=some ru->ru.2[j]?=some z->rk z < rk n
def C_ (K:aY):Sp:=λvs H Q _=>∃(R:Addr)(rs:List Addr)(aa:List aA)(rk:Str->Nat),vs=[.ref R]/\aH K H R (rs.map V.ref)/\bq K H rs aa/\aa.length<=1000/\(∀ru∈aa,ru.2.length<=8)/\Fu aa rk /\
 ∀(D:Addr)(H':Hp),H D=none->aD H H'->H' D=some (.lst [])->Q (.ref D) H'
def yx:aM ["rules","steps","loops"] ["rules"] (ax Di):=i5 rfl rfl rfl rfl nofun
def GX (F:hU K "find_loop" "find_loop" Di f fd)(T:Txt mg)(GS:aG P w K mg base 2 "steps_with_like_rows" ["rules"] (Ag K))(GW:aG P w K mg base 1 "way_back" ["rules","steps","name"] (HS K)):bA P w K mg base e_ 3 f fd ["rules"] (C_ K):=by
 refine F.ok yx (λvs H Q E h=>?_) (λdG A outer s H vs Q E hr h=>?_)
 .obtain⟨R,rs,aa,rk,rfl,_⟩:=h;rfl
 obtain⟨R,rs,aa,rk,rfl,hR,cy,bI,h8,hnl,q⟩:=h;refine⟨_,ao (aI (i:=1) yx.nd rfl (Or.inr rfl) (bp GS hr rfl (ae (pv 0) ak)))
  (ao (ik (iy:=2) ["name"] [(0,"rules"),(1,"steps")] yx.nd rfl rfl rfl (Az (pv 1)) (bL rfl rfl) nofun rfl nofun
   (λ_ _ _ _ _=>az (i:=0) (show (["name","rules","steps"]:List Str).Nodup by decide +kernel) rfl (bO rfl)) (λ_ _ _ _ _=>cP)
   (λ_ _ _ _ _=>bp (GW.mono (by decide:1<=2)) hr rfl (ae (pv 1) (ae (pv 2) (ae (pv 0) ak)))))
  (au (aW (GI rfl rfl T.min rfl T.len (ae (bY ["loop"] [] rfl (bK (pv 2)) (bL rfl rfl) nofun rfl nofun
   (λ_ _ _ _ _=>az (i:=0) (show (["loop"]:List Str).Nodup by decide +kernel) rfl (bO rfl)) (λ_ _ _ _ _=>gI (n5 K (pv 0) (λ_=>rfl))) (λ_ _ _ _ _=>pv 0)) ak) (bo ak))))),?_⟩
 nofun
 refine⟨_,rfl,R,rs,aa,rfl,hR,cy,bI,h8,λd ps st bc H1 fd1 s1 e1 S1 m1 Me emp B5 hits=>?_⟩;have R8:ps.length<=1000:=by
  have h1:=congrArg List.length m1;have h2:=iw (aa.map (·.1)) [];simp only [jw,aC] at h2;rw [aC] at h1;have h3:(hd aa).length=(vG [] (aa.map (·.1))).length:=rfl;omega
 have To:Down aa (ps.map (·.1)) st rk:=λn hn e he=>by
  rw [m1] at hn ⊢;have hit:=(hits n e.1 e.2 hn).mp he;obtain⟨ru,z,er,_,ez,hz,_⟩:=id hit;exact⟨ru,z,er,ez,hz,hnl bc emp B5 n e.1 e.2 hit ru z er ez⟩
 refine⟨_,rfl,d,_,rfl,e1,λo D hD=>?_⟩;have RH:∀p∈ps,p.2≠d:=λp hp z=>by
  obtain⟨ts,a,_⟩:=S1.lst p hp;rw [z,e1] at a;cases a
 have s2:aD H (upd H1 d (.ju o (.dK (ps.map i3)))):=λb u hb=>by
  rw [aj (λz=>by rw [z,fd1] at hb;cases hb)];exact s1 b u hb
 have S2:CG K ps st (upd H1 d (.ju o (.dK (ps.map i3)))) d:=⟨.inr ⟨o,af⟩,S1.n1,S1.n2,λp hp=>by
  obtain⟨ts,a,b⟩:=S1.lst p hp;exact⟨ts,by rw [aj (RH p hp)];exact a,Paired.gA b λ_ _ z=>gh e1 z⟩⟩
 have e2:upd H1 d (.ju o (.dK (ps.map i3))) d=some (.ju o (.dK (ps.map i3))):=af;generalize upd H1 d (.ju o (.dK (ps.map i3)))=H2 at hD s2 S2 e2 ⊢;refine rA (λi ys σ2 H3=>∃ls:List Addr,ys=ls.map V.ref/\ls.length=i/\(∀l∈ls,H3 l=some (.lst [])/\l≠D)/\(∃y0,σ2=[y0,bG R,bG d])/\aD H2 H3/\H3 D=some (.lst ys))
  ⟨[],rfl,rfl,by simp,⟨none,rfl⟩,ah hD _,af⟩ (λi ys σ2 H3 _ h=>?_) (λi kv ys σ2 H3 ex h=>?_) (λys σ2 H3 h=>?_)
 .obtain⟨_,_,_,_,_,sm,_⟩:=h;exact sm _ _ e2
 .obtain⟨ls,rfl,Wq,hl,⟨y0,rfl⟩,sm,iD⟩:=h;rw [bH] at ex;obtain⟨p,ep,rfl⟩:=cf.mp ex;have hp:=bQ ep;have li:=(bR.mp ep).1;refine goN (zD ?_);have s3:=s2.trans sm;refine⟨_,rfl,_,rfl,_,rfl,R,d,rs,aa,ps,st,p.1,rk,rfl,s3.seq hR,cy.same s3,bI,S2.same sm,R8,iI hp,To,λD4 H4 f4 s4 e4=>?_⟩;have CC:=s4 _ _ iD;have VZ:D4≠D:=λz=>by rw [z,iD] at f4;cases f4
  refine⟨CC,bW (by rw [aC];omega),ls++[D4],by rw [bu];rfl,by rw [bZ,Wq];rfl,λl SY=>?_,⟨_,rfl⟩,λb u hb=>?_,af⟩
  .rcases cN.mp SY with h | h
   .obtain⟨a1,a2⟩:=hl l h;exact⟨by rw [aj a2];exact s4 _ _ a1,a2⟩
   rw [cJ.mp h];exact⟨by rw [aj VZ];exact e4,VZ⟩
  rw [aj (λz=>by rw [z,hD] at hb;cases hb)];exact s4 _ _ (sm b u hb)
 obtain⟨ls,rfl,Wq,hl,_,sm,iD⟩:=h;have s3:=s2.trans sm;refine⟨_,rfl,D,rfl,⟨_,aH.of iD⟩,λD5 Ma=>?_⟩;refine Cb iD (λl SY=>(hl l SY).1) Ma λH5 s5 e5=>?_;refine⟨v9,λD6 TU=>⟨D5,rfl,aH.of (ah TU _ _ _ e5),?_⟩⟩;exact q D6 _ ((s3.trans s5).free TU) ((s3.trans s5).trans (ah TU _)) af
end
end fg
namespace L2
open PySem
def z5 {K:aY}{T:Addr}{pos:Pos}{qu:Str}{H H':Hp}{a:Addr}{xs:List V}(s:eX T H H')(t:Tab T pos qu H)(h:bj K H a xs):bj K H' a xs:=by
 obtain⟨ps,b,_⟩:=t;rcases h with (h | ⟨u,h⟩) | h
 .exact .inl (.inl (s _ _ (λz=>by rw [z,b] at h;cases h) h))
 .exact .inl (.inr ⟨u,s _ _ (λz=>by rw [z,b] at h;cases h) h⟩)
 exact .inr h
def As {K:aY}{T:Addr}{pos:Pos}{qu:Str}{H H':Hp}{a:Addr}{xs:List V}(s:eX T H H')(t:Tab T pos qu H)(h:aH K H a xs):aH K H' a xs:=by
 obtain⟨ps,b,_⟩:=t;rcases h with (h | ⟨u,h⟩) | h
 .exact .inl (.inl (s _ _ (λz=>by rw [z,b] at h;cases h) h))
 .exact .inl (.inr ⟨u,s _ _ (λz=>by rw [z,b] at h;cases h) h⟩)
 exact .inr h
def z7 {T T':Addr}{pos pos':Pos}{qu FH:Str}{H H':Hp}(s:eX T H H')(t:Tab T pos qu H)(h:Tab T' pos' FH H)(n:T'≠T):Tab T' pos' FH H':=by
 obtain⟨ps,b,_⟩:=t;obtain⟨Rp,a,o,c⟩:=h;refine⟨Rp,s _ _ n a,o,c.imp id ?_⟩;rintro⟨c',e,g⟩;exact⟨c',e,s _ _ (λz=>by rw [z,b] at g;cases g) g⟩
def rm {K:aY}{H:Hp}{p D:Addr}{zs:List Str}{σ:St}{js:List (Nat×Str)}{cs:List (Option V)}{tif:TT}{te:TE}{Qp:Hp->Prop}(hσ:eE ["name"] js σ=none::cs)(hp:aH K H p (zs.map V.str))(hD:H D=none)
  (ht:∀z∈zs,∀H2 Q,aD H H2->Q false H2->tif (some (.str z)::cs) H2 Q)(q:∀H2,aD H H2->H2 D=some (.lst [])->Qp H2) :
  ∃W:Nat->Nat->List V->St->Hp->Prop,(∃m,W 0 m [] (eE ["name"] js σ) (upd H D (.lst []))) /\
 ∀i m ys σ' H,W i m ys σ' H->((ku K p).stop i H/\Qp H)\/((ku K p).go i H/\∃m',m' < m/\∀x H',(ku K p).nO i H x H'->dX 0 x σ' H' λσ2 H2=>tif σ2 H2 λb H3 =>
  if b=true then te σ2 H3 λy H4=>H4 D=some (.lst ys)/\ys.length < sizeLine/\W (i+1) m' (ys++[y]) σ2 (upd H4 D (.lst (ys++[y]))) else W (i+1) m' ys σ2 H3):=by
 refine cb (xs:=zs.map V.str) (λi ys σ2 H5=>ys=[]/\(∃y0,σ2=y0::cs)/\aD H H5/\H5 D=some (.lst [])) ⟨rfl,⟨none,hσ⟩,ah hD _,af⟩ (λi ys σ2 H5 _ h=>h.2.2.1.seq hp) (λi x ys σ2 H5 ex h=>?_) (λys σ2 H5 h=>?_)
 .obtain⟨rfl,⟨y0,rfl⟩,s5,e5⟩:=h;rw [bH] at ex;obtain⟨z,ez,rfl⟩:=cf.mp ex;refine goN ?_;refine ht z (bQ ez) H5 _ s5 ?_;refine eC ?_;exact⟨rfl,⟨_,rfl⟩,s5,e5⟩
 obtain⟨rfl,_,s5,e5⟩:=h;exact q H5 s5 e5
end L2
namespace fg
open PySem L2 M11
section
structure Good (aa:List aA)(rk:Str->Nat)(b:Str->Int):Prop where
 least:∀g,dw M11.bl aa (vW aa) g->gM M11.bl aa g->∀h∈hd aa,∃n,g h=some n/\n<=60
 met:∀lB ms,aa[0]?=some lB->lB.1∈ms->Fv aa aa.length ms->∀h∈hd aa,h∈ms
 loop:Fu aa rk
 UG:xU aa b
 most:∀h∈hd aa,b h<=60
def kr (T1 T2:Addr)(H H':Hp):Prop:=∀b o,b≠T1->b≠T2->H b=some o->H' b=some o
def qA (K:aY)(T1 T2:Addr):Sp:=λvs H Q _=>∃(R S:Addr)(rs ss:List Addr)(aa str:List aA)(rk:Str->Nat)(b:Str->Int),vs=[.ref R,.ref S]/\aH K H R (rs.map V.ref)/\bq K H rs aa/\aa.length<=1000/\(∀ru∈aa,ru.2.length<=8)/\aa≠[] /\
 aH K H S (ss.map V.ref)/\bq K H ss str/\str.length<=1000/\(∀ru∈str,ru.2.length<=8)/\(str.flatMap (·.2)).Nodup/\Good aa rk b/\Tab T1 qN.2.2.2 xX H/\Tab T2 zp.2.2.2 Il H/\T1≠T2 /\
 ∀H',kr T1 T2 H H'->Tab T1 qN.2.2.2 xX H'->Tab T2 zp.2.2.2 Il H'->Q .dP H'
def gk:aM ["rules","strengths","least","endless","met","unmet","steps","greatest","vast"] ["rules","strengths"] (ax uX):=i5 rfl rfl rfl rfl nofun
def Bq {T1 T2:Addr}{tm:Tok}(F:hU K "refuse_faults" "refuse_faults" uX f fd)(T:Txt mg)(hM:mg "MOST_RULES"=some (.int 60 tm))(GT:aG P w K mg base 1 "refuse_twice" ["strengths"] (Af K))(GL:aG P w K mg base 3 "least_sizes" ["rules"] (pM K T1))
  (GH:aG P w K mg base 1 "heads_of" ["rules"] (jR K))(GM:aG P w K mg base 1 "names_met" ["rules"] (HV K))(GF:aG P w K mg base 3 "find_loop" ["rules"] (C_ K))(GG:aG P w K mg base 3 "greatest_empty_sizes" ["rules"] (uO K T2)) :
  bA P w K mg base e_ 4 f fd ["rules","strengths"] (qA K T1 T2):=by
 refine F.ok gk (λvs H Q E h=>?_) (λdG A outer s H vs Q E hr h=>?_)
 .obtain⟨R,S,rs,ss,aa,str,rk,b,rfl,_⟩:=h;rfl
 obtain⟨R,S,rs,ss,aa,str,rk,b,rfl,hR,cy,bI,h8,vV,hS,pS,Sz,NX,SG,gd,Hk,P_,nT,q⟩:=h;have hu:=gq hr;refine⟨_,ao (b9 (jG (gp (pv 0) (λ_=>rfl))) (au d7) aZ)
  (ao (cv (bp (GT.mono (by decide:1<=3)) hr rfl (ae (pv 1) ak)))
  (ao (aI (i:=2) gk.nd rfl (Or.inr rfl) (bp GL hr rfl (ae (pv 0) ak)))
  (ao (ik (iy:=3) ["name"] [(2,"least")] gk.nd rfl rfl rfl (bK (bp (GH.mono (by decide:1<=3)) hr rfl (ae (pv 0) ak))) (bL rfl rfl) nofun rfl nofun
   (λ_ _ _ _ _=>az (i:=0) (show (["name","least"]:List Str).Nodup by decide +kernel) rfl (bO rfl)) (λ_ _ _ _ _=>gI (eI (du hu (pv 0) (pv 1)))) (λ_ _ _ _ _=>pv 0))
  (ao (b9 (gp (pv 3) (λ_=>rfl)) (au d7) aZ)
  (ao (aI (i:=4) gk.nd rfl (Or.inr rfl) (bp (GM.mono (by decide:1<=3)) hr rfl (ae (pv 0) ak)))
  (ao (ik (iy:=5) ["name"] [(4,"met")] gk.nd rfl rfl rfl (bK (bp (GH.mono (by decide:1<=3)) hr rfl (ae (pv 0) ak))) (bL rfl rfl) nofun rfl nofun
   (λ_ _ _ _ _=>az (i:=0) (show (["name","met"]:List Str).Nodup by decide +kernel) rfl (bO rfl)) (λ_ _ _ _ _=>gI (eI (du hu (pv 0) (pv 1)))) (λ_ _ _ _ _=>pv 0))
  (ao (b9 (gp (pv 5) (λ_=>rfl)) (au d7) aZ)
  (ao (aI (i:=6) gk.nd rfl (bO rfl) (bp GF hr rfl (ae (pv 0) ak)))
  (ao (b9 (gp (pv 6) (λ_=>rfl)) (au d7) aZ)
  (ao (aI (i:=7) gk.nd rfl (Or.inr rfl) (bp GG hr rfl (ae (pv 0) ak)))
  (ao (ik (iy:=8) ["name"] [(2,"least"),(7,"greatest")] gk.nd rfl rfl rfl (bK (bp (GH.mono (by decide:1<=3)) hr rfl (ae (pv 0) ak))) (bL rfl rfl) nofun rfl nofun
   (λ_ _ _ _ _=>az (i:=0) (show (["name","least","greatest"]:List Str).Nodup by decide +kernel) rfl (bO rfl)) (λ_ _ _ _ _=>gI (bJ qI (aJ (Ce rfl) rfl T.max PyProof.Rows.boot_max (ae (eh hu (pv 1) (pv 0) (λ_ _=>rfl)) (ae (DF hu (pv 2) (pv 0) ar ⟨rfl,rfl,rfl,rfl⟩) ak))) (cQ (v:=.int 60) rfl hM ⟨tm,rfl⟩) (bX _))) (λ_ _ _ _ _=>pv 0))
  (au (b9 (gp (pv 8) (λ_=>rfl)) (au d7) aZ))))))))))))),?_⟩
 nofun
 have ll:=bM cy;obtain⟨lB,CB⟩:∃lB,aa[0]?=some lB:=by
  cases aa with
  | nil=>exact absurd rfl vV
  | cons a r=>exact⟨a,rfl⟩
 have eR:(rs.map V.ref).isEmpty=false:=by
  have l0:=(bR.mp CB).1;cases rs with
  | nil=>simp at ll;omega
  | cons a r=>rfl
 refine⟨_,rfl,true,.inl ⟨_,hR,by rw [eR];rfl⟩,?_⟩;refine eC ?_;refine⟨_,rfl,S,ss,str,rfl,hS,pS,Sz,NX,SG,λH1 s1=>?_⟩;have Py:=Hk.same s1;have Yi:=P_.same s1;refine⟨_,rfl,R,rs,aa,rfl,s1.seq hR,cy.same s1,bI,h8,Py,λdl kl ksl gl H2 fl s2 Yk el kkl vl Yl sel _=>?_⟩;have AO:=As s2 Py (s1.seq hR);have rW:=(cy.same s1).keep λ_ _ z=>z5 s2 Py z;have Yh:=z7 s2 Py Yi nT.symm;have hl:=gd.least gl Yl sel;have S02:kr T1 T2 H H2:=λb o n1 _ hb=>s2 b o n1 (s1 b o hb);refine⟨_,rfl,R,rs,aa,rfl,AO,rW,bI,λD3 H3 f3 s3 e3=>⟨D3,rfl,⟨_,aH.of e3⟩,λD4 hD4=>rm rfl (aH.of e3) hD4 (λz hz H' Q' s' hQ=>?_) λH4 s4 e4=>?_⟩⟩
 .obtain⟨n,en,_⟩:=hl z hz;have hg:cu H' dl (.str z) (some (.int n)):=by
   have:=cu.k (k:=Sum.inr z) (s' _ _ (s3 _ _ el));rw [vl,en] at this;exact this
  exact⟨_,rfl,_,rfl,dl,_,rfl,hg,_,rfl,hQ⟩
 refine⟨_,rfl,false,.inl ⟨[],aH.of e4,rfl⟩,?_⟩;refine eC ?_;have JE:=s3.trans s4;refine⟨_,rfl,R,rs,aa,lB,rfl,JE.seq AO,rW.same JE,CB,bI,h8,λdm km ms H5 f5 s5 em ZT Bh _ Zo=>?_⟩;have Rh:=JE.trans s5;refine⟨_,rfl,R,rs,aa,rfl,Rh.seq AO,rW.same Rh,bI,λD6 H6 f6 s6 e6=>⟨D6,rfl,⟨_,aH.of e6⟩,λD7 TR=>rm rfl (aH.of e6) TR (λz hz H' Q' s' hQ=>?_) λH7 s7 e7=>?_⟩⟩
 .have hm:=gd.met lB ms CB Bh Zo z hz;have hv:(bh km (Sum.inr z)).isSome=true:=by rw [dU,ZT];exact cR.mpr hm
  refine⟨_,rfl,_,rfl,dm,_,rfl,cu.k (k:=Sum.inr z) (s' _ _ (s6 _ _ em)),_,rfl,?_⟩;rw [hv];exact hQ
 refine⟨_,rfl,false,.inl ⟨[],aH.of e7,rfl⟩,?_⟩;refine eC ?_;have Rg:=(Rh.trans s6).trans s7;refine⟨_,rfl,R,rs,aa,rk,rfl,Rg.seq AO,rW.same Rg,bI,h8,gd.loop,λD8 H8 f8 s8 e8=>?_⟩;refine⟨_,rfl,false,.inl ⟨[],aH.of e8,rfl⟩,?_⟩;refine eC ?_;have HZ:=Rg.trans s8;have Yj:=Yk.same HZ;have MY:=Yh.same HZ;refine⟨_,rfl,R,rs,aa,b,rfl,HZ.seq AO,rW.same HZ,bI,h8,gd.UG,MY,λdg kg ksg gg H9 f9 s9 Yg eg kkg vg jg _ _=>?_⟩;have hR9:=As s9 MY (HZ.seq AO);have SJ:=(rW.same HZ).keep λ_ _ z=>z5 s9 MY z;have Q4:=z7 s9 MY Yj nT;have W7:=HZ _ _ el;have el9:=s9 _ _ (λz=>by obtain⟨ps,a,_⟩:=MY;rw [<-z,W7] at a;cases a) W7;refine⟨_,rfl,R,rs,aa,rfl,hR9,SJ,bI,λVg zY f10 u6 CD=>⟨Vg,rfl,⟨_,aH.of CD⟩,λD11 TV=>rm rfl (aH.of CD) TV (λz hz H' Q' s' hQ=>?_) λCw Gm FR=>?_⟩⟩
 .obtain⟨n,en,aab⟩:=hl z hz;have Hf:cu H' dl (.str z) (some (.int n)):=by
   have:=cu.k (k:=Sum.inr z) (s' _ _ (u6 _ _ el9));rw [vl,en] at this;exact this
  have W_:=s' _ _ (u6 _ _ eg);obtain⟨v,Z2,hv2⟩:∃v:Int,((gg z).map V.int).getD (.int 0)=.int v/\v<=60:=by
   cases e:gg z with
   | none=>exact⟨0,rfl,nofun⟩
   | some v=>exact⟨v,rfl,Int.le_trans (jg z v e).2.1 (gd.most z hz)⟩
  have Td:cu H' dg (.str z) ((gg z).map V.int):=by
   have:=cu.k (k:=Sum.inr z) W_;rw [vg] at this;exact this
  refine⟨_,rfl,_,rfl,dl,_,rfl,Hf,_,rfl,dg,rfl,.inl ⟨_,.inl W_⟩,_,rfl,_,Td,?_⟩;rw [Z2];refine⟨n,v,rfl,_,_,rfl,rfl,_,rfl,?_⟩;rw [eM (by split <;> omega)]
  exact hQ
 refine⟨_,rfl,false,.inl ⟨[],aH.of FR,rfl⟩,?_⟩;refine eC ?_;have JD:=u6.trans Gm;exact q Cw (λc o n1 n2 hc=>JD c o (s9 c o n2 (HZ c o (S02 c o n1 n2 hc)))) (Q4.same JD) (Yg.same JD)
end
end fg
namespace M11
open PySem L2
abbrev Be:=Str×Str×Nat×Nat
def vR (cz:List Be):List (Str×Str):=cz.map λb=>(b.1,b.2.1)
def mJ (cz:List Be)(n:Str):List Str:=(cz.filter λb=>decide (b.1=n)).map (·.2.1)
def ph (names:List Str)(cz:List Be)(z:Str):List Str:=if z∈names then mJ cz z else [z]
inductive vZ (aa:List aA) (names:List Str)(b:Str->Bool):List Be->Prop
 | nil:vZ aa names b []
 | snoc {cz:List Be}{k j:Nat}{ru:aA}{z w:Str}:vZ aa names b cz->aa[k]?=some ru->ru.2[j]?=some z->j < B2 b ru.2->w∈ph names cz z->(ru.1,w)∉vR cz->vZ aa names b (cz++[(ru.1,w,k,j)])
def zF {cz:List Be}{n w:Str}:w∈mJ cz n↔(n,w)∈vR cz:=by
 unfold mJ vR;rw [cT,cT];constructor
 .rintro⟨b,hb,rfl⟩;obtain⟨h1,h2⟩:=jk.mp hb;exact⟨b,h1,by rw [d5 h2]⟩
 rintro⟨b,hb,e⟩;cases e;exact⟨b,jk.mpr ⟨hb,gC rfl⟩,rfl⟩
def AR (cz:List Be)(b:Be)(n:Str):mJ (cz++[b]) n=mJ cz n++(if b.1=n then [b.2.1] else []):=by
 unfold mJ;rw [lK,bu];by_cases c:b.1=n
 .rw [ay c];simp [c]
 rw [av c];simp [c]
end M11
namespace fg
open PySem L2 M11
def A1:Stmt->List Stmt
 | .ClassDef _ _ _ b _ _ _ _ _ _ _=>b
 | _=>[]
abbrev NA (st:Stmt) (i:Nat):Stmt:=(A1 st).getD i (.Pass ⟨0,0,0,0⟩)
abbrev yJ:Stmt:=NA yH 0
abbrev Dl:Stmt:=NA yH 1
abbrev yD:Stmt:=NA yH 2
abbrev u5:Stmt:=NA Dk 0
section
structure BC (K:aY)(C:Addr):Prop where
 cls:Cy K C
 a1:cV K C "empties"
 a2:cV K C "empty"
 a3:cV K C "begins"
 a4:cV K C "firsts"
structure sk (K:aY)(C:Addr)(H0 H:Hp)(a e d bg:Addr)(kE:List (aN×V))(bc:List (Str×Nat))(ps:List (Str×Addr))(cz:List Be):Prop where
 sm:aD H0 H
 ia:∃dx fs,H a=some (.ins C dx fs)/\fs.lookup ("empty":Str)=some (.ref e)/\fs.lookup ("begins":Str)=some (.ref bg)/\fs.lookup ("firsts":Str)=some (.ref d)/\fs.lookup ("find_begins":Str)=none/\fs.lookup ("words_of_part":Str)=none
 he:H e=some (.dK kE)
 hd:H d=some (.dK (ps.map i3))
 n1:(ps.map (·.1)).Nodup
 n2:(ps.map (·.2)).Nodup
 dk:∀p∈ps,(∃kvs,H p.2=some (.dK kvs)/\kvs.map (·.1)=(mJ cz p.1).map Sum.inr)/\H0 p.2=none/\p.2≠e/\p.2≠d
 lb:∃ts,H bg=some (.lst (ts.map V.ref))/\Paired (λt (b:Be)=>bj K H t [.str b.1,.str b.2.1,.int (b.2.2.1:Int),.int (b.2.2.2:Int)]) ts cz
 fb:H0 bg=none
 em:∃e1 ts,(∃dx fs,H a=some (.ins C dx fs)/\fs.lookup ("empties":Str)=some (.ref e1))/\H e1=some (.lst (ts.map V.ref))/\oC K H ts bc/\e1≠bg
def sk.same {C:Addr}{H0 H H':Hp}{a e d bg:Addr}{kE:List (aN×V)}{bc:List (Str×Nat)}{ps:List (Str×Addr)}{cz:List Be}(h:sk K C H0 H a e d bg kE bc ps cz)(s:aD H H'):sk K C H0 H' a e d bg kE bc ps cz:=by
 refine⟨h.sm.trans s,?_,s _ _ h.he,s _ _ h.hd,h.n1,h.n2,λp hp=>?_,?_,h.fb,?_⟩
 .obtain⟨dx,fs,q,r⟩:=h.ia;exact⟨dx,fs,s _ _ q,r⟩
 .obtain⟨⟨kvs,q,r⟩,t⟩:=h.dk p hp;exact⟨⟨kvs,s _ _ q,r⟩,t⟩
 .obtain⟨ts,q,r⟩:=h.lb;exact⟨ts,s _ _ q,Paired.gA r λ_ _ z=>s.tup z⟩
 obtain⟨e1,ts,⟨dx,fs,q1,q2⟩,q3,q4,q5⟩:=h.em;exact⟨e1,ts,⟨dx,fs,s _ _ q1,q2⟩,s _ _ q3,q4.keep λ_ _ z=>s.tup z,q5⟩
def Aj (K:aY)(C:Addr):Sp:=λvs H Q _=>∃(H0:Hp)(a e d bg:Addr)(kE:List (aN×V))(bc:List (Str×Nat))(ps:List (Str×Addr))(cz:List Be)(z:Str),vs=[.ref a,.str z]/\sk K C H0 H a e d bg kE bc ps cz /\
 ∀(D:Addr)(H':Hp),H D=none->aD H H'->H' D=some (.lst ((ph (ps.map (·.1)) cz z).map V.str))->Q (.ref D) H'
def Gd:aM ["self","part"] ["self","part"] (ax yD):=i5 rfl rfl rfl rfl nofun
def DT {C:Addr}(F:hU K "words_of_part" "BeginTable.words_of_part" yD f fd)(T:Txt mg)(B:BC K C):bA P w K mg base e_ 1 f fd ["self","part"] (Aj K C):=by
 refine F.ok Gd (λvs H Q E h=>?_) (λdG A outer s H vs Q E hr h=>?_)
 .obtain⟨H0,a,e,d,bg,kE,bc,ps,cz,z,rfl,_⟩:=h;rfl
 obtain⟨H0,a,e,d,bg,kE,bc,ps,cz,z,rfl,S,q⟩:=h;have hu:=gq hr;obtain⟨dx,fs,ea,f1,f2,f3,f4,f5⟩:=S.ia;refine⟨_,au (aW (wC (eI (n8 hu (pv 1) (dQ (pv 0) rfl))) (a_ (lg rfl) rfl T.lst g_ (ae (eh hu (dQ (pv 0) rfl) (pv 1) (λ_ _=>rfl)) ak)) (bo (ae (pv 1) ak)))),?_⟩;dsimp only [pF];have mem:(bh (ps.map i3) (Sum.inr z)).isSome=true↔z∈ps.map (·.1):=by rw [dU,mx];exact cR
 refine⟨_,rfl,_,rfl,a,C,dx,fs,_,rfl,ea,B.cls,B.a4,f3,d,_,rfl,cu.k (k:=Sum.inr z) S.hd,_,rfl,?_⟩;refine c_ (λc=>?_) (λc=>?_)
 .have hz:=mem.mp c;obtain⟨p,hp,ep⟩:=cT.mp hz;obtain⟨⟨kvs,hk,kk⟩,_⟩:=S.dk p hp;have vn:=fN ps S.n1 p hp;rw [ep] at vn;have hg:cu H d (.str z) (some (.ref p.2)):=by
   have:=cu.k (k:=Sum.inr z) S.hd;rw [vn] at this;exact this
  refine⟨_,rfl,a,C,dx,fs,_,rfl,ea,B.cls,B.a4,f3,_,rfl,d,_,rfl,hg,p.2,kvs,rfl,hk,λD hD=>?_⟩;refine q D _ hD (ah hD _) ?_;rw [af,keys_str kk,ep];unfold ph;rw [ay hz]
 refine⟨_,rfl,FZ,λD hD=>?_⟩;refine q D _ hD (ah hD _) ?_;rw [af];unfold ph;rw [av (λh=>c (mem.mpr h))];rfl
def sk.more {C:Addr}{H0 H H2:Hp}{a e d bg t:Addr}{kE kvs:List (aN×V)}{bc:List (Str×Nat)}{ps:List (Str×Addr)}{cz:List Be}{p:Str×Addr}{wd:Str}{k j:Nat}{ts:List Addr}(h:sk K C H0 H a e d bg kE bc ps cz)(hp:p∈ps)(hk:H p.2=some (.dK kvs))(kk:kvs.map (·.1)=(mJ cz p.1).map Sum.inr)
  (hn:(p.1,wd)∉vR cz)(hb:H bg=some (.lst (ts.map V.ref)))(L_:Paired (λt (b:Be)=>bj K H t [.str b.1,.str b.2.1,.int (b.2.2.1:Int),.int (b.2.2.2:Int)]) ts cz)
  (s:aD (upd H p.2 (.dK (bE kvs (Sum.inr wd) (.bl true)))) H2)(ht:bj K H2 t [.str p.1,.str wd,.int (k:Int),.int (j:Int)]) :
  sk K C H0 (upd H2 bg (.lst (ts.map V.ref++[.ref t]))) a e d bg kE bc ps (cz++[(p.1,wd,k,j)]):=by
 have PM:bg≠p.2:=λz=>by rw [z,hk] at hb;cases hb
 have Hj:H2 bg=some (.lst (ts.map V.ref)):=s _ _ (by rw [aj PM];exact hb);obtain⟨_,fp,VP,VQ⟩:=h.dk p hp;have up:∀c o,c≠bg->c≠p.2->H c=some o->upd H2 bg (.lst (ts.map V.ref++[.ref t])) c=some o:=λc o n1 n2 q=>by
  rw [aj n1];exact s _ _ (by rw [aj n2];exact q)
 refine⟨λc o hc=>up c o (λz=>by rw [z,h.fb] at hc;cases hc) (λz=>by rw [z,fp] at hc;cases hc) (h.sm c o hc),?_,up _ _ (λz=>by have:=h.he;rw [z,hb] at this;cases this) VP.symm h.he,up _ _ (λz=>by have:=h.hd;rw [z,hb] at this;cases this) VQ.symm h.hd,h.n1,h.n2,λp' lC=>?_,⟨ts++[t],by rw [af,bu];rfl,?_⟩,h.fb,?_⟩
 .obtain⟨dx,fs,q,r⟩:=h.ia;exact⟨dx,fs,up _ _ (λz=>by rw [z,hb] at q;cases q) (λz=>by rw [z,hk] at q;cases q) q,r⟩
 .obtain⟨⟨kW,q,r⟩,t'⟩:=h.dk p' lC;refine⟨?_,t'⟩;by_cases z:p'=p
  .rw [z];refine⟨bE kvs (Sum.inr wd) (.bl true),by rw [aj PM.symm];exact s _ _ af,?_⟩;rw [ij (by rw [kk];exact λq=>hn (zF.mp (cR.mp q))),kk,AR,ay rfl,bu];rfl
  have n1:p'.1≠p.1:=λq'=>z (by
   have w1:=fN ps h.n1 p' lC;have w2:=fN ps h.n1 p hp;rw [q',w2] at w1;injection w1 with w3;injection w3 with w4;exact Prod.ext q' w4.symm)
  have n2:p'.2≠p.2:=λq'=>by
   obtain⟨i,hi,ei⟩:=oP.mp lC;obtain⟨j',hj,ej⟩:=oP.mp hp;have BV:i=j':=by
    refine(uc (xs:=ps.map (·.2)) (h₀:=by simpa using hi) (h₁:=by simpa using hj) h.n2).mp ?_;rw [nF,nF,ei,ej];exact q'
   subst BV;exact z (ei.symm.trans ej)
  refine⟨kW,up _ _ (λz=>by rw [z,hb] at q;cases q) n2 q,?_⟩;rw [r,AR,av (λq'=>n1 q'.symm),dD]
 .exact fJ (Paired.gA L_ λ_ _ z=>ba Hj (s.tup (gh hk z))) (ba Hj ht)
 obtain⟨e1,te,⟨dx,fs,q1,q2⟩,q3,q4,q5⟩:=h.em;exact⟨e1,te,⟨dx,fs,up _ _ (λz=>by rw [z,hb] at q1;cases q1) (λz=>by rw [z,hk] at q1;cases q1) q1,q2⟩,up _ _ q5 (λz=>by rw [z,hk] at q3;cases q3) q3,q4.keep λ_ _ z=>ba Hj (s.tup (gh hk z)),q5⟩
def K4 (l m:List Be)(n:Str):mJ (l++m) n=mJ l n++mJ m n:=by
 unfold mJ;rw [lK,bu]
def F6 {names:List Str}(l m:List Be){z x:Str}(h:x∈ph names l z):x∈ph names (l++m) z:=by
 unfold ph at h ⊢
 split
 .rename_i c
  rw [ay c] at h;rw [K4];exact oO _ h
 rename_i c
 rw [av c] at h;exact h
def K3 (cz:List Be)(n:Str):(mJ cz n).length<=cz.length:=by
 unfold mJ;rw [aC];exact lL _ _
def Lr {n i:Nat}(h:i < n):(cnt n)[i]?=some (.int (i:Int)):=by
 unfold cnt;rw [bH,List.getElem?_range h];rfl
def AZ (n:Nat):(cnt n).length=n:=by unfold cnt;rw [aC,uf]
def Dc (K:aY)(C:Addr):Sp:=λvs H Q _=>∃(H0:Hp)(a e d bg r:Addr)(kE:List (aN×V))(bc:List (Str×Nat))(ps:List (Str×Addr))(cz:List Be) (k:Nat)(ru:aA)(aa:List aA),vs=[.ref a,.int (k:Int),.ref r]/\sk K C H0 H a e d bg kE bc ps cz/\tY K H0 r ru/\aa[k]?=some ru/\ru.2.length<=8 /\
 ru.1∈ps.map (·.1)/\(∀vJ:List Be,vZ aa (ps.map (·.1)) (λz=>(bh kE (Sum.inr z)).isSome) vJ->vJ.length<=900000)/\vZ aa (ps.map (·.1)) (λz=>(bh kE (Sum.inr z)).isSome) cz /\
 ∀(vJ:List Be)(H':Hp),sk K C H0 H' a e d bg kE bc ps vJ->vZ aa (ps.map (·.1)) (λz=>(bh kE (Sum.inr z)).isSome) vJ->cz.length<=vJ.length->(vJ.length=cz.length->vJ=cz/\∀j z,j < B2 (λz=>(bh kE (Sum.inr z)).isSome) ru.2->ru.2[j]?=some z->∀wd∈ph (ps.map (·.1)) cz z,(ru.1,wd)∈vR cz)->Q .dP H'
def uU:aM ["self","number","rule","own","place","word"] ["self","number","rule"] (ax Dl):=i5 rfl rfl rfl rfl nofun
def GY {C fW:Addr}{WT:FuncData}(F:hU K "find_begins" "BeginTable.find_begins" Dl f fd)(T:Txt mg)(B:BC K C)(GP:aG P w K mg base 1 "first_places" ["parts","empty"] (wt K))(FW:bA P w K mg base e_ 1 fW WT ["self","part"] (Aj K C))(MW:Meth K C "words_of_part" fW)(BW:Binds K WT ["self","part"] []) :
  bA P w K mg base e_ 2 f fd ["self","number","rule"] (Dc K C):=by
 refine F.ok uU (λvs H Q E h=>?_) (λdG A outer s H vs Q E hr h=>?_)
 .obtain⟨H0,a,e,d,bg,r,kE,bc,ps,cz,k,ru,aa,rfl,_⟩:=h;rfl
 obtain⟨H0,a,e,d,bg,r,kE,bc,ps,cz,k,ru,aa,rfl,S,⟨p,v1,v2⟩,er,h8,hh,hbd,Tx,q⟩:=h;have hu:=gq hr;refine⟨_,ao (aI (i:=3) uU.nd rfl (bO rfl) (eh hu (dQ (pv 0) rfl) (aQ cK (pv 2) ar (λ_ _=>rfl)) (λ_ _=>rfl)))
  (au (cD cU rfl (bK (bp GP hr rfl (ae (aQ cK (pv 2) ar (λ_ _=>rfl)) (ae (dQ (pv 0) rfl) ak)))) (az (i:=4) uU.nd rfl (bO rfl))
   (au (cD cU rfl (bK (AB (pv 0) B.cls MW FW hr BW .nil qH (ae (aQ cK (aQ cK (pv 2) ar (λ_ _=>rfl)) (pv 4) (λ_ _=>rfl)) ak))) (az (i:=5) uU.nd rfl (bO rfl))
    (au (b9 (eI (du hu (pv 5) (pv 3)))
     (ao (il hu (pv 3) (pv 5) eP rfl)
     (au (cv (cX f_ iL iM cA (dQ (pv 0) rfl) (ae (bS (ae (aQ cK (pv 2) ar (λ_ _=>rfl)) (ae (pv 5) (ae (pv 1) (ae (pv 4) ak))))) ak))))) aZ)))))),?_⟩
 nofun
 obtain⟨pn,wY,x9⟩:=cT.mp hh;have vn:=fN ps S.n1 pn wY;rw [x9] at vn;obtain⟨dx,fs,ea,f1,f2,f3,f4,f5⟩:=S.ia;have hg:cu H d (.str ru.1) (some (.ref pn.2)):=by
  have:=cu.k (k:=Sum.inr ru.1) S.hd;rw [vn] at this;exact this
 refine⟨_,rfl,a,C,dx,fs,_,rfl,ea,B.cls,B.a4,f3,_,rfl,r,_,_,_,rfl,rfl,S.sm.tup v1,rfl,d,_,rfl,hg,?_⟩;refine⟨_,rfl,r,_,_,_,rfl,rfl,S.sm.tup v1,rfl,_,rfl,a,C,dx,fs,_,rfl,ea,B.cls,B.a2,f1,p,e,ru.2,kE,rfl,S.sm.tup v2,∅,S.he,λD5 H5 f6 s5 e5=>⟨D5,rfl,⟨_,aH.of e5⟩,?_⟩⟩;obtain⟨ts0,TB,_⟩:=S.lb;have Zh:D5≠bg:=λz=>by rw [z,TB] at f6;cases f6
 have fle:=EU (λz=>(bh kE (Sum.inr z)).isSome) ru.2;generalize hb:(λz=>(bh kE (Sum.inr z)).isSome)=b at *;generalize hn:B2 b ru.2=n at *
 let zW:zX:=λi σ H6=>∃(dA:List Be)(y4 y5:Option V),σ=[bG a,some (.int (k:Int)),bG r,some (.ref pn.2),y4,y5]/\sk K C H0 H6 a e d bg kE bc ps dA/\H6 D5=some (.lst (cnt n))/\vZ aa (ps.map (·.1)) b dA/\cz.length<=dA.length /\
  (dA.length=cz.length->dA=cz/\∀j z,j < i->ru.2[j]?=some z->∀wd∈ph (ps.map (·.1)) cz z,(ru.1,wd)∈vR cz)
 refine eQ (xs:=cnt n) zW ⟨cz,none,none,rfl,S.same s5,e5,Tx,aK _,λ_=>⟨rfl,λj z hj=>by omega⟩⟩ ?_ ?_ ?_
 .rintro i σ H6 _ ⟨dA,y4,y5,rfl,S2,e6,_⟩;exact aH.of e6
 .intro i x σ H6 ex TL
  ac_nf0
  obtain⟨dA,y4,y5,rfl,S2,e6,UI,l2,c2⟩:=TL;have li:i < n:=by have:=(bR.mp ex).1;rw [AZ] at this;exact this
  rw [Lr li] at ex;cases ex;have lz:i < ru.2.length:=by omega
  obtain⟨z,ez⟩:∃z,ru.2[i]?=some z:=⟨ru.2[i],eG lz⟩;have OZ:si (ru.2.map V.str) (i:Int)=some (.str z):=dY (by rw [bH,ez];rfl);obtain⟨Qs,rZ,OO,g1,g2,g3,g4,g5⟩:=S2.ia;refine goN ?_
  ac_nf
  refine⟨_,rfl,a,Qs,rZ,rfl,OO,g5,_,rfl,r,_,_,_,rfl,rfl,S2.sm.tup v1,rfl,_,rfl,p,_,_,_,rfl,rfl,S2.sm.tup v2,OZ,H0,a,e,d,bg,kE,bc,ps,dA,z,rfl,S2,λD6 H7 f7 s7 e7=>⟨D6,rfl,⟨_,aH.of e7⟩,?_⟩⟩;obtain⟨wj,Hj,_⟩:=S2.lb;have Zi:D6≠bg:=λz=>by rw [z,Hj] at f7;cases f7
  generalize Wa:ph (ps.map (·.1)) dA z=ws at *
  let HG:zX:=λm σ H8=>∃(l:List Be)(y5:Option V),σ=[bG a,some (.int (k:Int)),bG r,some (.ref pn.2),some (.int (i:Int)),y5]/\sk K C H0 H8 a e d bg kE bc ps (dA++l)/\H8 D5=some (.lst (cnt n))/\H8 D6=some (.lst (ws.map V.str))/\vZ aa (ps.map (·.1)) b (dA++l) /\
   (l=[]->∀wd∈ws.take m,(ru.1,wd)∈vR dA)
  refine eQ (xs:=ws.map V.str) HG ⟨[],_,rfl,by rw [dD];exact S2.same s7,s7 _ _ e6,e7,by rw [dD];exact UI,λ_ wd h=>by simp at h⟩ ?_ ?_ ?_
  .rintro m σ H8 _ ⟨l,y5,rfl,S3,e8,e9,_⟩;exact aH.of e9
  .intro m x σ H8 ex TL
   ac_nf0
   obtain⟨l,y5,rfl,S3,e8,e9,OW,c3⟩:=TL;rw [bH] at ex;obtain⟨wd,ew,rfl⟩:=cf.mp ex;obtain⟨⟨kvs,hk,kk⟩,fp,VP,VQ⟩:=S3.dk pn wY;obtain⟨Vr,P9,Ot⟩:=S3.lb;have lim:=hbd _ OW;have ltk:kvs.length<=900000:=by
    have h1:=congrArg List.length kk;rw [aC,aC] at h1;have:=K3 (dA++l) pn.1;omega
   have ltt:=bM Ot;have mem:(bh kvs (Sum.inr wd)).isSome=true↔(ru.1,wd)∈vR (dA++l):=by rw [dU,kk,cR,zF,x9]
   refine goN ?_
   ac_nf
   refine⟨_,rfl,_,rfl,pn.2,_,rfl,cu.k (k:=Sum.inr wd) hk,_,rfl,?_⟩;refine c_ (λc=>?_) (λc=>?_)
   .have nm:(ru.1,wd)∉vR (dA++l):=λh=>by rw [mem.mpr h] at c;exact absurd c nofun
    refine⟨_,rfl,_,rfl,_,_,rfl,oF.k (k:=Sum.inr wd) hk (bW ∅),?_⟩;obtain⟨Xn,FO,Up,k1,k2,k3,k4,k5⟩:=S3.ia;have Ze:a≠pn.2:=λz=>by rw [z,hk] at Up;cases Up
    have PM:bg≠pn.2:=λz=>by rw [z,hk] at P9;cases P9
    have Li:upd H8 pn.2 (.dK (bE kvs (Sum.inr wd) (.bl true))) a=some (.ins C Xn FO):=by rw [aj Ze];exact Up
    have WG:upd H8 pn.2 (.dK (bE kvs (Sum.inr wd) (.bl true))) bg=some (.lst (Vr.map V.ref)):=by rw [aj PM];exact P9
    refine⟨_,rfl,a,C,Xn,FO,_,rfl,Li,B.cls,B.a3,k2,.inl ⟨rfl,_,aH.of WG⟩,_,rfl,r,_,_,_,rfl,rfl,gh hk (S3.sm.tup v1),rfl,_,rfl,_,rfl,_,rfl,Pq,λt4 BR=>?_⟩;have s4:=ah BR (.tup [.str ru.1,.str wd,.int (k:Int),.int (i:Int)]);have e4:bj K (upd (upd H8 pn.2 (.dK (bE kvs (Sum.inr wd) (.bl true)))) t4 (.tup [.str ru.1,.str wd,.int (k:Int),.int (i:Int)])) t4 [.str ru.1,.str wd,.int (k:Int),.int (i:Int)]:=bj.of af;generalize upd (upd H8 pn.2 (.dK (bE kvs (Sum.inr wd) (.bl true)))) t4 (.tup [.str ru.1,.str wd,.int (k:Int),.int (i:Int)])=H9 at s4 e4;refine⟨bg,_,_,rfl,rfl,s4 _ _ WG,bW (by rw [aC];omega),?_⟩;have Y3:(pn.1,wd)∉vR (dA++l):=by rw [x9];exact nm
    have S4:=S3.more (k:=k) (j:=i) wY hk kk Y3 P9 Ot s4 (by rw [x9];exact e4);have Iq:∀D ys,H8 D=some (.lst ys)->D≠bg->upd H9 bg (.lst (Vr.map V.ref++[.ref t4])) D=some (.lst ys):=λD ys hD nb=>by
     rw [aj nb];exact s4 _ _ (by rw [aj (λz=>by rw [z,hk] at hD;cases hD)];exact hD)
    rw [gS,x9] at S4;refine⟨l++[(ru.1,wd,k,i)],_,rfl,S4,Iq _ _ e8 Zh,Iq _ _ e9 Zi,?_,λh=>by simp at h⟩;rw [<-gS];refine .snoc OW er ez (by rw [hn];exact li) (F6 dA l (by rw [Wa];exact bQ ew)) nm
   refine⟨l,_,rfl,S3,e8,e9,OW,λhl x hx=>?_⟩;rw [di,ew] at hx;rcases cN.mp hx with h | h
   .exact c3 hl x h
   rw [um,cJ] at h;subst h;have hm:(ru.1,x)∈vR (dA++l):=mem.mp (by
    cases hq:(bh kvs (Sum.inr x)).isSome with
    | true=>rfl
    | false=>exact absurd (by rw [hq];rfl) c)
   rw [hl,dD] at hm;exact hm
  rintro σ H8 ⟨l,y5,rfl,S3,e8,e9,OW,c3⟩;rw [aC,de] at c3;refine⟨dA++l,_,_,rfl,S3,e8,OW,by rw [bZ];omega,λOc=>?_⟩;rw [bZ] at Oc;have P2:l=[]:=List.length_eq_zero_iff.mp ∅;obtain⟨KY,oq⟩:=c2 ∅;rw [P2,dD];refine⟨KY,λj z' hj Ua wd Wc=>?_⟩;by_cases cj:j < i
  .exact oq j z' cj Ua wd Wc
  have:j=i:=by omega
  subst this;rw [ez] at Ua;cases Ua;have:=c3 P2 wd (by rw [<-Wa,KY];exact Wc);rw [KY] at this;exact this
 rintro σ H6 ⟨dA,y4,y5,rfl,S2,e6,UI,l2,c2⟩;rw [AZ] at c2;exact q dA H6 S2 UI l2 c2
end
end fg
namespace L2
open PySem M11
def xx {K:aY}{H:Hp}{p D:Addr}{zs:List Str}{σ:St}{x:Str}{Qp:Hp->Prop}(hp:aH K H p (zs.map V.str))(hz:zs.length<=10000)(hD:H D=none)
  (q:∀ts (ps:List (Str×Addr)) H2,aD H H2->H2 D=some (.lst (ts.map V.ref))->ps.map (·.1)=zs->Paired (λt (p:Str×Addr)=>bj K H2 t [.str p.1,.ref p.2]) ts ps->(∀p∈ps,H2 p.2=some (.dK [])/\H p.2=none/\p.2≠D)->(ps.map (·.2)).Nodup->Qp H2) :
  ∃W:Nat->Nat->List V->St->Hp->Prop,(∃m,W 0 m [] (eE [x] [] σ) (upd H D (.lst []))) /\
 ∀i m ys σ' H,W i m ys σ' H->((ku K p).stop i H/\Qp H)\/((ku K p).go i H/\∃m',m' < m/\∀x H',(ku K p).nO i H x H'->dX 0 x σ' H' λσ2 H2=>iO σ2 H2 λb H3 =>
  if b=true then rR (fq (fE 0) (fq (C0) qv)) σ2 H3 λy H4=>H4 D=some (.lst ys)/\ys.length < sizeLine/\W (i+1) m' (ys++[y]) σ2 (upd H4 D (.lst (ys++[y]))) else W (i+1) m' ys σ2 H3):=by
 refine cb (xs:=zs.map V.str) (λi ys σ2 H2=>∃(ts:List Addr)(ps:List (Str×Addr)),ys=ts.map V.ref/\ts.length=i/\ps.map (·.1)=zs.take i/\Paired (λt (p:Str×Addr)=>bj K H2 t [.str p.1,.ref p.2]) ts ps /\
   (∀p∈ps,H2 p.2=some (.dK [])/\H p.2=none/\p.2≠D)/\(ps.map (·.2)).Nodup/\(∃y0,σ2=[y0])/\aD H H2/\H2 D=some (.lst ys))
  ⟨[],[],rfl,rfl,rfl,.nil,by simp,by simp,⟨none,rfl⟩,ah hD _,af⟩ (λi ys σ2 H2 _ h=>?_) (λi x ys σ2 H2 ex h=>?_) (λys σ2 H2 h=>?_)
 .obtain⟨_,_,_,_,_,_,_,_,_,sm,_⟩:=h;exact sm.seq hp
 .obtain⟨ts,ps,rfl,ht,hm,wX,hl,hn,⟨y0,rfl⟩,sm,hd⟩:=h;rw [bH] at ex;obtain⟨z,ez,rfl⟩:=cf.mp ex;have li:=(bR.mp ez).1;refine goN (zD ?_);refine⟨_,rfl,λl qS=>⟨kc,λt hX=>?_⟩⟩;have Ka:l≠D:=(aq hd qS).symm;have nt:t≠l:=λe=>by rw [e,af] at hX;cases hX
  have NU:H2 t=none:=by rw [aj nt] at hX;exact hX
  have Y1:t≠D:=(aq hd NU).symm;have uQ:aD H2 (upd (upd H2 l (.dK [])) t (.tup [.str z,.ref l])):=(ah qS _).trans (ah hX _);have iD:=uQ _ _ hd;have el:upd (upd H2 l (.dK [])) t (.tup [.str z,.ref l]) l=some (.dK []):=by rw [aj nt.symm,af]
  have et:bj K (upd (upd H2 l (.dK [])) t (.tup [.str z,.ref l])) t [.str z,.ref l]:=bj.of af;generalize upd (upd H2 l (.dK [])) t (.tup [.str z,.ref l])=H4 at uQ iD el et;refine⟨iD,bW (by rw [aC];omega),ts++[t],ps++[(z,l)],by rw [bu];rfl,by rw [bZ,ht];rfl,by rw [bu,hm,di,ez];rfl,?_,?_,?_,⟨_,rfl⟩,?_,af⟩
  .exact fJ (Paired.gA wX λt' h' z=>ba iD (uQ.tup z)) (ba iD et)
  .intro p' lC;rcases cN.mp lC with h | h
   .obtain⟨a1,a2,a3⟩:=hl p' h;exact⟨by rw [aj a3];exact uQ _ _ a1,a2,a3⟩
   rw [cJ.mp h];exact⟨by rw [aj Ka];exact el,sm.free qS,Ka⟩
  .rw [bu];refine jx.mpr ⟨hn,by simp,λa ha b hb e=>?_⟩;rw [nN,cJ] at hb;obtain⟨p',lC,rfl⟩:=cT.mp ha;have:=(hl p' lC).1;rw [e,hb] at this;rw [show H2 l=none from qS] at this;cases this
  intro b o hb;rw [aj (λz=>by rw [z,hD] at hb;cases hb)];exact uQ _ _ (sm b o hb)
 obtain⟨ts,ps,rfl,ht,hm,wX,hl,hn,_,sm,hd⟩:=h;rw [aC,de] at hm;exact q ts ps H2 sm hd hm wX hl hn
def gi {K:aY}{H:Hp}{D a C dx:Addr}{xs:List V}{fs:List (Str×V)}{o:HO}(hD:H D=some (.ins C dx fs))(h:bj K H a xs):bj K (upd H D o) a xs:=by
 rcases h with (h | ⟨u,h⟩) | h
 .exact .inl (.inl (by rw [aj (λz=>by rw [z,hD] at h;cases h)];exact h))
 .exact .inl (.inr ⟨u,by rw [aj (λz=>by rw [z,hD] at h;cases h)];exact h⟩)
 exact .inr h
def xw {K:aY}{H:Hp}{R D:Addr}{rs:List Addr}{es:List (Str×Nat)}{σ:St}{x1 x2:Str}{Qp:Hp->Prop}(hR:aH K H R (rs.map V.ref))(cy:Paired (λt (e:Str×Nat)=>bj K H t [.str e.1,.int (e.2:Int)]) rs es)(bI:es.length<=1000)(hD:H D=none)
  (q:∀ts H2,aD H H2->H2 D=some (.lst (ts.map V.ref))->Paired (λt h=>bj K H2 t [.str h,.bl true]) ts (es.map (·.1))->Qp H2) :
  ∃W:Nat->Nat->List V->St->Hp->Prop,(∃m,W 0 m [] (eE [x1,x2] [] σ) (upd H D (.lst []))) /\
 ∀i m ys σ' H,W i m ys σ' H->((ku K R).stop i H/\Qp H)\/((ku K R).go i H/\∃m',m' < m/\∀x H',(ku K R).nO i H x H'->B1 K 2 (jN (dX 0) (jN (dX 1) ES)) x σ' H' λσ2 H2=>iO σ2 H2 λb H3 =>
  if b=true then rR (fq (fE 0) (fq (tC (.bl true)) qv)) σ2 H3 λy H4=>H4 D=some (.lst ys)/\ys.length < sizeLine/\W (i+1) m' (ys++[y]) σ2 (upd H4 D (.lst (ys++[y]))) else W (i+1) m' ys σ2 H3):=by
 have ll:=bM cy;refine cb (xs:=rs.map V.ref) (λi ys σ2 H2=>∃ts:List Addr,ys=ts.map V.ref/\ts.length=i/\Paired (λt h=>bj K H2 t [.str h,.bl true]) ts ((es.take i).map (·.1))/\(∃y0 y1,σ2=[y0,y1])/\aD H H2/\H2 D=some (.lst ys))
  ⟨[],rfl,rfl,.nil,⟨none,none,rfl⟩,ah hD _,af⟩ (λi ys σ2 H2 _ h=>?_) (λi x ys σ2 H2 ex h=>?_) (λys σ2 H2 h=>?_)
 .obtain⟨_,_,_,_,_,sm,_⟩:=h;exact sm.seq hR
 .obtain⟨ts,rfl,ht,hp,⟨y0,y1,rfl⟩,sm,hd⟩:=h;rw [bH] at ex;obtain⟨r,er,rfl⟩:=cf.mp ex;have lr:=(bR.mp er).1;obtain⟨ru,e1⟩:∃ru,es[i]?=some ru:=⟨es[i]'∅,eG ∅⟩;obtain⟨r',IE,v1⟩:=Paired.at_ cy i ru e1;rw [er] at IE;cases IE;have li:=(bR.mp e1).1;refine⟨r,_,rfl,sm.tup v1,rfl,_,_,rfl,_,_,rfl,rfl,?_⟩;refine zD ?_;refine⟨_,rfl,kc,λt hX=>⟨?_,bW (by rw [aC];omega),ts++[t],?_,?_,?_,⟨_,_,rfl⟩,?_,af⟩⟩
  .rw [aj (aq hd hX)];exact hd
  .rw [bu];rfl
  .rw [bZ,ht];rfl
  .rw [di,e1,bu];have iD:upd H2 t (.tup [.str ru.1,.bl true]) D=some (.lst (ts.map V.ref)):=by rw [aj (aq hd hX)];exact hd
   exact fJ (Paired.gA hp λt' h' z=>ba iD ((ah hX _).tup z)) (ba iD (bj.of af))
  intro b o hb;rw [aj (λz=>by rw [z,hD] at hb;cases hb)];exact ah hX _ _ _ (sm b o hb)
 obtain⟨ts,rfl,ht,hp,_,sm,hd⟩:=h;rw [aC,ll,de] at hp;exact q ts H2 sm hd hp
end L2
namespace M11
open PySem L2
def vZ.sub {aa:List aA}{names:List Str}{b:Str->Bool}{cz:List Be}(h:vZ aa names b cz):∀q∈vR cz,q.1∈aa.map (·.1)/\q.2∈aa.flatMap (·.2):=by
 induction h with
 | nil=>intro q hq;cases hq
 | @snoc cz k j ru z wd hb er ez _ hw _ ih =>
  intro q hq;unfold vR at hq;rw [bu] at hq;rcases cN.mp hq with hq | hq
  .exact ih q hq
  rw [nN,cJ] at hq;rw [hq];have hm:=bQ er;refine⟨iI hm,?_⟩;unfold ph at hw
  split at hw
  .exact(ih (z,wd) (zF.mp hw)).2
  rw [cJ.mp hw];exact kI.mpr ⟨ru,hm,bQ ez⟩
def vZ.nd {aa:List aA}{names:List Str}{b:Str->Bool}{cz:List Be}(h:vZ aa names b cz):(vR cz).Nodup:=by
 induction h with
 | nil=>exact lF
 | @snoc cz k j ru z wd hb er ez _ hw hn ih =>
  unfold vR;rw [bu];refine jx.mpr ⟨ih,by simp,λx hx y hy e=>?_⟩;rw [nN,cJ] at hy;rw [e,hy] at hx;exact hn hx
theorem wA (m:List Str):∀l:List Str,(l.flatMap λn=>m.map λwd=>(n,wd)).length=l.length * m.length
 | []=>by simp
 | n::l=>by
  rw [List.flatMap_cons,bZ,wA m l,aC,cH,Nat.add_mul];omega
def vZ.len {aa:List aA}{names:List Str}{b:Str->Bool}{cz:List Be}(h:vZ aa names b cz)(hl:aa.length<=100)(h8:∀ru∈aa,ru.2.length<=8):cz.length<=80000:=by
 have h1:=fj (vR cz) ((aa.map (·.1)).flatMap λn=>(aa.flatMap (·.2)).map λwd=>(n,wd)) h.nd λq hq=>by
  obtain⟨a,c⟩:=h.sub q hq;exact kI.mpr ⟨q.1,a,cT.mpr ⟨q.2,c,rfl⟩⟩
 rw [wA] at h1;have h2:=fg.iX aa 100 hl h8;unfold vR at h1;rw [aC,aC] at h1;have h3:aa.length * (aa.flatMap (·.2)).length<=100 * 800:=Nat.mul_le_mul hl h2;omega
def HK (aa:List aA) (names:List Str)(b:Str->Bool) (n:Nat)(cz:List Be):Prop:=∀k ru,k < n->aa[k]?=some ru->∀j z,j < B2 b ru.2->ru.2[j]?=some z->∀wd∈ph names cz z,(ru.1,wd)∈vR cz
end M11
namespace fg
open PySem L2 M11
section
def Ap (K:aY)(C:Addr):Sp:=λvs H Q _=>∃(H0:Hp)(a dx R:Addr)(rs:List Addr)(aa:List aA),vs=[.ref a,.ref R]/\aD H0 H/\H0 a=none/\H a=some (.ins C dx [])/\aH K H0 R (rs.map V.ref)/\bq K H0 rs aa/\aa.length<=100/\(∀ru∈aa,ru.2.length<=8) /\
 ∀(e d bg:Addr)(kE:List (aN×V))(bc:List (Str×Nat))(ps:List (Str×Addr))(cz:List Be)(H':Hp),sk K C H0 H' a e d bg kE bc ps cz->ps.map (·.1)=hd aa->vP aa bc->xQ aa aa.length bc->(∀z,(bh kE (Sum.inr z)).isSome=decide (z∈bc.map (·.1))) ->
  vZ aa (hd aa) (λz=>decide (z∈bc.map (·.1))) cz->HK aa (hd aa) (λz=>decide (z∈bc.map (·.1))) aa.length cz->Q .dP H'
def lY:aM ["self","rules","number","many","rule"] ["self","rules"] (ax yJ):=i5 rfl rfl rfl rfl nofun
def D0 {C fF:Addr}{WV:FuncData}(F:hU K "__init__" "BeginTable.__init__" yJ f fd)(T:Txt mg)(B:BC K C)(GE:aG P w K mg base 1 "found_empties" ["rules"] (nV K))(GH:aG P w K mg base 1 "heads_of" ["rules"] (jR K))
  (FF:bA P w K mg base e_ 2 fF WV ["self","number","rule"] (Dc K C))(MF:Meth K C "find_begins" fF)(BF:Binds K WV ["self","number","rule"] []):bA P w K mg base e_ 3 f fd ["self","rules"] (Ap K C):=by
 refine F.ok lY (λvs H Q E h=>?_) (λdG A outer s H vs Q E hr h=>?_)
 .obtain⟨H0,a,dx,R,rs,aa,rfl,_⟩:=h;rfl
 obtain⟨H0,a,dx,R,rs,aa,rfl,s0,f0,ea,hR,cy,bI,h8,q⟩:=h;refine⟨_,ao (fu (pv 0) (bp (GE.mono (by decide:1<=2)) hr rfl (ae (pv 1) ak)) rfl)
  (ao (fu (pv 0) (a_ (dI rfl) rfl T.vY eV (ae (bY ["name","number"] [] rfl (bK (dQ (pv 0) rfl)) (bL rfl rfl) nofun rfl nofun
   (λ_ _ _ _ _=>iq (n:=2) K rfl (aE (az (i:=0) (show (["name","number"]:List Str).Nodup by decide +kernel) rfl (bO rfl)) (aE (az (i:=1) (show (["name","number"]:List Str).Nodup by decide +kernel) rfl (bO rfl)) b_))) (λ_ _ _ _ _=>cP)
   (λ_ _ _ _ _=>bS (ae (pv 0) (ae eP ak)))) ak)) rfl)
  (ao (fu (pv 0) (bo ak) rfl)
  (ao (fu (pv 0) (a_ (dI rfl) rfl T.vY eV (ae (bY ["name"] [] rfl (bK (bp (GH.mono (by decide:1<=2)) hr rfl (ae (pv 1) ak))) (bL rfl rfl) nofun rfl nofun
   (λ_ _ _ _ _=>az (i:=0) (show (["name"]:List Str).Nodup by decide +kernel) rfl (bO rfl)) (λ_ _ _ _ _=>cP)
   (λ_ _ _ _ _=>bS (ae (pv 0) (ae fw ak)))) ak)) rfl)
  (ao (aI (i:=3) lY.nd rfl (bO rfl) (sV nQ ar))
  (au (iR cU (bJ oU (pv 3) (aJ bN rfl T.len fK (ae (dQ (pv 0) rfl) ak)) (bX _))
   (ao (aI (i:=3) lY.nd rfl (bO rfl) (aJ bN rfl T.len fK (ae (dQ (pv 0) rfl) ak)))
   (au (cD cU rfl (mj rfl T.E3 (ae (pv 1) ak)) (eJ rfl (aE (az (i:=2) lY.nd rfl (bO rfl)) (aE (az (i:=4) lY.nd rfl (bO rfl)) b_)))
    (au (cv (AB (pv 0) B.cls MF FF hr BF .nil qH (ae (pv 2) (ae (pv 4) ak)))))))))))))),?_⟩
 nofun
 have ll:=bM cy;refine⟨_,rfl,R,rs,aa,rfl,s0.seq hR,cy.same s0,∅,h8,λD1 Bg bc H1 f1 s1 e1 w1 emp B5=>?_⟩;have Uq:=s1 _ _ ea;refine⟨_,rfl,a,C,dx,[],rfl,Uq,B.cls,B.a1,(by show 0 < 1000;decide),?_⟩;have e2:upd H1 a (.ins C dx (dq "empties" (.ref D1) [])) D1=some (.lst (Bg.map V.ref)):=by rw [aj (λz=>by rw [z,Uq] at e1;cases e1)];exact e1
 have w2:oC K (upd H1 a (.ins C dx (dq "empties" (.ref D1) []))) Bg bc:=w1.keep λ_ _ z=>gi Uq z;have JH:aD H0 (upd H1 a (.ins C dx (dq "empties" (.ref D1) []))):=λc o hc=>by rw [aj (λz=>by rw [z,f0] at hc;cases hc)];exact s1 _ _ (s0 c o hc)
 have OO:upd H1 a (.ins C dx (dq "empties" (.ref D1) [])) a=some (.ins C dx (dq "empties" (.ref D1) [])):=af;generalize upd H1 a (.ins C dx (dq "empties" (.ref D1) []))=H2 at e2 w2 JH OO;have lets:=emp.len;refine⟨_,rfl,a,C,dx,_,_,rfl,OO,B.cls,B.a1,rfl,D1,rfl,⟨_,aH.of e2⟩,λD2 ot=>xw (aH.of e2) w2 ∅ ot λwj H3 s3 e3 p3=>?_⟩;have kp:Paired (λt (kv:aN×V)=>bj K H3 t [kV kv.1,kv.2]) wj ((bc.map (·.1)).map λh=>((Sum.inr h:aN),V.bl true)):=cE p3 λ_ _ z=>z;refine⟨D2,wj,_,rfl,e3,kp,λe he=>?_⟩;have BE:∀z,(bh (cO ((bc.map (·.1)).map λh=>((Sum.inr h:aN),V.bl true)) []) (Sum.inr z)).isSome=decide (z∈bc.map (·.1)):=λz=>by
  rw [qr];by_cases c:z∈bc.map (·.1)
  .rw [ay c,gC c];rfl
  rw [av c,eM c];rfl
 generalize cO ((bc.map (·.1)).map λh=>((Sum.inr h:aN),V.bl true)) []=kE at BE;have VJ:=(JH.trans s3).trans (ah he (.dK kE));have Li:=ah he (.dK kE) _ _ (s3 _ _ OO);have Qq:upd H3 e (.dK kE) e=some (.dK kE):=af;have JE:aD H2 (upd H3 e (.dK kE)):=s3.trans (ah he (.dK kE));generalize upd H3 e (.dK kE)=H4 at VJ Li Qq JE;have Uy:=JE _ _ e2;have XT:oC K H4 Bg bc:=w2.keep λ_ _ z=>JE.tup z;refine⟨_,rfl,a,C,dx,_,rfl,Li,B.cls,B.a2,(by show 1 < 1000;decide),?_⟩;generalize Ti:dq "empty" (.ref e) (dq "empties" (.ref D1) [])=IA;have ON:upd H4 a (.ins C dx IA) e=some (.dK kE):=by rw [aj (λz=>by rw [z,Li] at Qq;cases Qq)];exact Qq
 have Ri:aD H0 (upd H4 a (.ins C dx IA)):=λc o hc=>by rw [aj (λz=>by rw [z,f0] at hc;cases hc)];exact VJ c o hc
 have Xf:upd H4 a (.ins C dx IA) a=some (.ins C dx IA):=af;have Ux:upd H4 a (.ins C dx IA) D1=some (.lst (Bg.map V.ref)):=by rw [aj (λz=>by rw [z,Li] at Uy;cases Uy)];exact Uy
 have Vn:oC K (upd H4 a (.ins C dx IA)) Bg bc:=XT.keep λ_ _ z=>gi Li z;generalize upd H4 a (.ins C dx IA)=H5 at ON Ri Xf Ux Vn;refine⟨v9,λbg KU=>?_⟩;have fbg:H0 bg=none:=Ri.free KU;have Qr:upd H5 bg (.lst []) bg=some (.lst []):=af;have VI:=Ri.trans (ah KU (.lst []));have Lg:=ah KU (.lst []) _ _ ON;have Mi:=ah KU (.lst []) _ _ Xf;have RV:D1≠bg:=aq Ux KU;have Qt:=ah KU (.lst []) _ _ Ux;have Vm:oC K (upd H5 bg (.lst [])) Bg bc:=Vn.keep λ_ _ z=>(ah KU (.lst [])).tup z;generalize upd H5 bg (.lst [])=H6 at Qr VI Lg Mi Qt Vm;refine⟨_,rfl,a,C,dx,_,rfl,Mi,B.cls,B.a3,(by rw [<-Ti];show 2 < 1000;decide),?_⟩;generalize Wz:dq "begins" (.ref bg) IA=Hm;have Lf:upd H6 a (.ins C dx Hm) e=some (.dK kE):=by rw [aj (λz=>by rw [z,Mi] at Lg;cases Lg)];exact Lg
 have Xd:upd H6 a (.ins C dx Hm) bg=some (.lst []):=by rw [aj (λz=>by rw [z,Mi] at Qr;cases Qr)];exact Qr
 have JG:aD H0 (upd H6 a (.ins C dx Hm)):=λc o hc=>by rw [aj (λz=>by rw [z,f0] at hc;cases hc)];exact VI c o hc
 have Xe:upd H6 a (.ins C dx Hm) a=some (.ins C dx Hm):=af;have Xp:upd H6 a (.ins C dx Hm) D1=some (.lst (Bg.map V.ref)):=by rw [aj (λz=>by rw [z,Mi] at Qt;cases Qt)];exact Qt
 have Vl:oC K (upd H6 a (.ins C dx Hm)) Bg bc:=Vm.keep λ_ _ z=>gi Mi z;generalize upd H6 a (.ins C dx Hm)=H7 at Lf Xd JG Xe Xp Vl;refine⟨_,rfl,R,rs,aa,rfl,JG.seq hR,cy.same JG,∅,λD4 H8 f8 s8 e8=>?_⟩;have Kh:=iw (aa.map (·.1)) [];simp only [jw,aC] at Kh;refine⟨D4,rfl,⟨_,aH.of e8⟩,λD5 Ma=>xx (aH.of e8) ∅ Ma λts ps H9 s9 e9 m9 p9 l9 n9=>?_⟩;have n1:(ps.map (·.1)).Nodup:=by rw [m9];exact oz _ lF
 have Er:Paired (λt (kv:aN×V)=>bj K H9 t [kV kv.1,kv.2]) ts (ps.map i3):=cE p9 λ_ _ z=>z;refine⟨D5,ts,_,rfl,e9,Er,λd rP=>?_⟩;have OJ:cO (ps.map i3) []=ps.map i3:=mM _ [] (by
  rw [lG,mx];exact vi n1)
 rw [OJ];have LP:=s8.trans s9;have sd:=ah rP (.dK (ps.map i3));have yM:=LP.trans sd;have pE:upd H9 d (.dK (ps.map i3)) d=some (.dK (ps.map i3)):=af;have Kg:∀p∈ps,upd H9 d (.dK (ps.map i3)) p.2=some (.dK [])/\p.2≠d:=λp hp=>⟨sd _ _ (l9 p hp).1,λz=>by have:=(l9 p hp).1;rw [z,rP] at this;cases this⟩;generalize upd H9 d (.dK (ps.map i3))=zY at yM pE Kg;have zM:=yM _ _ Xe;have vE:=yM _ _ Lf;have Lh:=yM _ _ Xd;have Rj:=JG.trans yM;have Lp:=yM _ _ Xp;have QQ:oC K zY Bg bc:=Vl.keep λ_ _ z=>yM.tup z;refine⟨_,rfl,a,C,dx,_,rfl,zM,B.cls,B.a4,(by rw [<-Wz,<-Ti];show 3 < 1000;decide),?_⟩;have fp:∀p∈ps,H0 p.2=none/\p.2≠e:=λp hp=>by
  have WN:H8 p.2=none:=(l9 p hp).2.1;refine⟨(JG.trans s8).free WN,λz=>?_⟩;have:=s8 _ _ Lf;rw [<-z,WN] at this;cases this
 have hfs:∃fs,dq "firsts" (.ref d) Hm=fs/\fs.lookup ("empty":Str)=some (.ref e)/\fs.lookup ("begins":Str)=some (.ref bg)/\fs.lookup ("firsts":Str)=some (.ref d)/\fs.lookup ("find_begins":Str)=none/\fs.lookup ("words_of_part":Str)=none/\fs.lookup ("empties":Str)=some (.ref D1):=by
  refine⟨_,rfl,?_⟩;rw [<-Wz,<-Ti];refine⟨?_,?_,?_,?_,?_,?_⟩ <;> rfl
 obtain⟨fs,efs,k1,k2,k3,k4,k5,k6⟩:=hfs;rw [efs];have CJ:sk K C H0 (upd zY a (.ins C dx fs)) a e d bg kE bc ps []:=by
  refine⟨λc o hc=>by rw [aj (λz=>by rw [z,f0] at hc;cases hc)];exact Rj c o hc,⟨dx,fs,af,k1,k2,k3,k4,k5⟩,?_,?_,n1,n9,λp hp=>⟨⟨[],?_,rfl⟩,(fp p hp).1,(fp p hp).2,(Kg p hp).2⟩,⟨[],?_,.nil⟩,fbg,⟨D1,Bg,⟨dx,fs,af,k6⟩,by rw [aj (λz=>by rw [z,zM] at Lp;cases Lp)];exact Lp,QQ.keep λ_ _ z=>gi zM z,RV⟩⟩
  .rw [aj (λz=>by rw [z,zM] at vE;cases vE)];exact vE
  .rw [aj (λz=>by rw [z,zM] at pE;cases pE)];exact pE
  .have:=(Kg p hp).1;rw [aj (λz=>by rw [z,zM] at this;cases this)];exact this
  rw [aj (λz=>by rw [z,zM] at Lh;cases Lh)];exact Lh
 generalize upd zY a (.ins C dx fs)=Cw at CJ;have eb:(λz=>(bh kE (Sum.inr z)).isSome)=λz=>decide (z∈bc.map (·.1)):=funext BE;refine⟨1,rfl,?_⟩;refine⟨λmm σ xN=>∃(cz:List Be) (many:Int)(y2 y4:Option V),σ=[bG a,bG R,y2,some (.int many),y4]/\sk K C H0 xN a e d bg kE bc ps cz/\vZ aa (hd aa) (λz=>decide (z∈bc.map (·.1))) cz/\-1<=many/\many<=cz.length /\
  (many=cz.length->HK aa (hd aa) (λz=>decide (z∈bc.map (·.1))) aa.length cz)/\(mm:Int)=80001 - many,⟨80002,[],-1,none,none,rfl,CJ,.nil,∅,by simp,by simp,∅⟩,?_⟩
 rintro mm σ xN ⟨cz,many,y2,y4,rfl,FU,Lu,b1,b2,cl,em⟩;obtain⟨Qs,rZ,q1,q2,q3,q4,q5,q6⟩:=FU.ia;obtain⟨tb,WH,Hj⟩:=FU.lb;have lb:=bM Hj;have Kl:=Lu.len bI h8;refine⟨_,rfl,_,rfl,a,C,Qs,rZ,_,rfl,q1,B.cls,B.a3,q3,bg,_,rfl,.inl (aH.of WH),_,_,rfl,rfl,_,rfl,?_⟩;refine c_ (λc=>?_) (λc=>?_)
 .have c':=d5 c;rw [aC,lb] at c';refine⟨λσ A8=>∃(dA:List Be)(y2 y4:Option V),σ=[bG a,bG R,y2,some (.int (cz.length:Int)),y4]/\sk K C H0 A8 a e d bg kE bc ps dA/\vZ aa (hd aa) (λz=>decide (z∈bc.map (·.1))) dA/\cz.length<=dA.length /\
   (dA.length=cz.length->dA=cz/\HK aa (hd aa) (λz=>decide (z∈bc.map (·.1))) aa.length cz),?_,?_⟩
  .rintro σ A8 ⟨dA,y2,y4,rfl,Fp,Cp,Sf,E9⟩;have:=Cp.len bI h8;refine⟨(80001 - cz.length:Int).toNat,∅,dA,_,_,_,rfl,Fp,Cp,∅,∅,λz=>?_,∅⟩;obtain⟨Hr,B6⟩:=E9 ∅;rw [Hr];exact B6
  refine⟨_,rfl,a,C,Qs,rZ,_,rfl,q1,B.cls,B.a3,q3,bg,_,rfl,.inl (aH.of WH),?_⟩;rw [aC,lb];refine⟨_,rfl,R,_,rfl,FU.sm.seq hR,?_⟩;refine jP (xs:=rs.map V.ref) (λi σ A8=>∃(dA:List Be)(y2 y4:Option V),σ=[bG a,bG R,y2,some (.int (cz.length:Int)),y4]/\sk K C H0 A8 a e d bg kE bc ps dA/\vZ aa (hd aa) (λz=>decide (z∈bc.map (·.1))) dA/\cz.length<=dA.length /\
   (dA.length=cz.length->dA=cz/\HK aa (hd aa) (λz=>decide (z∈bc.map (·.1))) i cz)) ⟨cz,_,_,rfl,FU,Lu,aK _,λ_=>⟨rfl,λk ru hk=>by omega⟩⟩ ?_ ?_ ?_
  .rintro i σ A8 _ ⟨dA,y2,y4,rfl,Fp,_⟩;exact Fp.sm.seq hR
  .rintro i x σ A8 t ex ⟨dA,y2,y4,rfl,Fp,Cp,Sf,E9⟩ ht
   ac_nf0
   rw [bH] at ex;obtain⟨r,er,rfl⟩:=cf.mp ex;obtain⟨ru,pD,rv⟩:=cy.get er;have oo:=bQ pD;have O8:=Fp.same (ah ht (.tup [.int (i:Int),.ref r]));have NS:bj K (upd A8 t (.tup [.int (i:Int),.ref r])) t [.int (i:Int),.ref r]:=bj.of af;generalize upd A8 t (.tup [.int (i:Int),.ref r])=H14 at O8 NS;obtain⟨dx4,Md,r1,r2,r3,r4,r5,r6⟩:=O8.ia;refine⟨t,_,rfl,NS,rfl,_,_,rfl,_,_,rfl,rfl,?_⟩;refine⟨_,rfl,a,dx4,Md,rfl,r1,r5,_,rfl,_,rfl,H0,a,e,d,bg,r,kE,bc,ps,dA,i,ru,aa,rfl,O8,rv,pD,h8 ru oo,by rw [m9];exact(fX _ _ _).mpr (.inr (iI oo)),?_,?_,?_⟩
   .intro vJ rY;have:=rY.len bI h8;omega
   .rw [m9,eb];exact Cp
   rw [m9,eb];intro UK H15 U7 UJ l15 OV;refine⟨UK,_,_,rfl,U7,UJ,∅,λhl3=>?_⟩;obtain⟨x1,x2⟩:=E9 ∅;obtain⟨x3,x4⟩:=OV ∅;refine⟨x3.trans x1,λk Aw hk Ub j z hj ez wd hw=>?_⟩;by_cases ck:k < i
   .exact x2 k Aw ck Ub j z hj ez wd hw
   have:k=i:=by omega
   subst this;rw [pD] at Ub;cases Ub;rw [<-x1] at hw ⊢;exact x4 j z hj ez wd hw
  rintro σ A8 ⟨dA,y2,y4,rfl,Fp,Cp,Sf,E9⟩;rw [aC,ll] at E9;exact⟨dA,_,_,rfl,Fp,Cp,Sf,E9⟩
 have c':=of_decide_eq_false (pX.mpr c);rw [aC,lb] at c';exact q e d bg kE bc ps cz xN FU m9 emp B5 BE Lu (cl ∅)
end
end fg
namespace L2
open PySem PySem.W
section
variable {X:Cx}{ai:List (Addr×Obj)}{σ:St}{H:Hp}{s:Shared}{a:Addr}{kvs:List (aN×V)}{k:aN}{u:Value}{A:Around}{E:Value->Shared->Prop}
def Ln {z:V}{r:Value}{Q:Value->Shared->Prop}(I:Inv X ai σ H s)(e:H a=some (.dK kvs))(hl:kvs.length < sizeLine)(ry:RelV (kV k) u)(rz:RelV z r)
  (h1:∀v w' s',bh kvs k=some v->Inv X ai σ H s'->RelV v w'->Q w' s')(h2:bh kvs k=none->∀s',Inv X ai σ (upd H a (.dK (bE kvs k z))) s'->Q r s') :
  wpAny (model X.prog X.w) A (call (.builtin "dict.setdefault") [.ref a,u,r]) Q E s:=by
 obtain⟨zl,hd,vs,rel,dd⟩:=xn I.bD e;refine call_meetsIn PySem.F.slot_dict_setdefault dd.typeIs PySem.F.entry_dict_setdefault (PySem.F.args_dict_setdefault_3 _ _ _) (kt_meets_setdefault (aX X.prog X.w) a (kj ry) hd r)
  ⟨vs,dd,by rw [<-rel.length];exact zl,λv hv=>?_,λhn h' FT hs=>?_⟩
 .have rv:=rel.val k;rw [hv] at rv;cases e2:bh kvs k with
  | none=>rw [e2] at rv;cases rv
  | some x=>rw [e2] at rv;exact h1 x v _ e2 (I.tok _) rv
 have Iw:bh kvs k=none:=by
  have rv:=rel.val k;rw [hn] at rv;cases e2:bh kvs k with
  | none=>rfl
  | some x=>rw [e2] at rv;cases rv
 have he:∃q,h'.get? a=some q:=let ⟨q,_,_,hq,_⟩:=FT;⟨q,hq⟩;exact h2 Iw _ (pU I (by rw [e];exact True.intro) hs he (rg (by have:=d8 kvs k z;omega) hd (rel.put k rz) FT))
end
section
variable {X:Cx}{o e f:Expr}{apos gu:Pos}{td ty tx:TE}
def Jp (td ty tx:TE):TE:=λσ H Q=>td σ H λx H1=>∃a,x=.ref a/\QB H1 a/\ty σ H1 λy H2=>tx σ H2 λz H3=>∃kvs k,H3 a=some (.dK kvs)/\y=kV k/\kvs.length < sizeLine /\
 (∀v,bh kvs k=some v->Q v H3)/\(bh kvs k=none->Q z (upd H3 a (.dK (bE kvs k z))))
def DE (ho:PE X o td)(he:PE X e ty)(hf:PE X f tx)(m:M2 X o "setdefault" apos e f gu):PE X (.Call (.Attribute o "setdefault" apos) [e,f] [] gu) (Jp td ty tx):=by
 intro ai s σ H Q I h;refine wpAny_Call_method m.base m.Qe m.line ya PySem.F.slot_dict_setdefault PySem.F.type_dict_setdefault (cx (ho ai s σ H _ I h) λu s1 aV=>?_);obtain⟨x,H1,I1,rx,a,ex,d,q1⟩:=aV;subst ex;obtain rfl:u=Value.ref a:=rx;obtain⟨t1,t2,_⟩:=zx I1 d;refine⟨t1,t2,?_⟩;rw [m.trees];refine ux rfl (uj (nH (cx (he ai s1 σ H1 _ I1 q1) λiv s2 ⟨y,H2,I2,ry,q2⟩ =>
  nH (cx (hf ai s2 σ H2 _ I2 q2) λfv s3 ⟨z,H3,I3,rz,kvs,k,ea,ey,hl,q3,q4⟩=>Calls.spliced_nil ?_))))
 subst ey;exact Ln I3 ea hl ry rz (λv w' s4 l I4 yO=>⟨v,_,I4,yO,q3 v l⟩) λl s4 I4=>⟨z,_,I4,rz,q4 l⟩
end
end L2
namespace fg
open PySem L2 M11
section
def Nb {ps:List (Str×Addr)}(n1:(ps.map (·.1)).Nodup)(n2:(ps.map (·.2)).Nodup){p p':Str×Addr}(hp:p∈ps)(lC:p'∈ps)(z:p'≠p):p'.1≠p.1/\p'.2≠p.2:=by
 refine⟨λq=>z ?_,λq=>z ?_⟩
 .have w1:=fN ps n1 p' lC;have w2:=fN ps n1 p hp;rw [q,w2] at w1;injection w1 with w3;injection w3 with w4;exact Prod.ext q w4.symm
 obtain⟨i,hi,ei⟩:=oP.mp lC;obtain⟨j,hj,ej⟩:=oP.mp hp;have BV:i=j:=by
  refine(uc (xs:=ps.map (·.2)) (h₀:=by simpa using hi) (h₁:=by simpa using hj) n2).mp ?_;rw [nF,nF,ei,ej];exact q
 subst BV;exact ei.symm.trans ej
structure FV (ps:List (Str×Addr))(st:Str->List Int)(H:Hp)(d:Addr):Prop where
 hd:H d=some (.dK (ps.map i3))
 n1:(ps.map (·.1)).Nodup
 n2:(ps.map (·.2)).Nodup
 lst:∀p∈ps,H p.2=some (.lst ((st p.1).map V.int))
def FV.same {ps:List (Str×Addr)}{st:Str->List Int}{H H':Hp}{d:Addr}(h:FV ps st H d)(s:aD H H'):FV ps st H' d:=⟨s _ _ h.hd,h.n1,h.n2,λp hp=>s _ _ (h.lst p hp)⟩
def A5 (st:Str->List Int)(n:Str) (k:Int):Str->List Int:=λz=>if z=n then st z++[k] else st z
def FV.more {ps:List (Str×Addr)}{st:Str->List Int}{H:Hp}{d:Addr}(h:FV ps st H d){p:Str×Addr}(hp:p∈ps) (k:Int):FV ps (A5 st p.1 k) (upd H p.2 (.lst ((st p.1).map V.int++[.int k]))) d:=by
 have a:=h.lst p hp;have nd:d≠p.2:=λz=>by have:=h.hd;rw [z,a] at this;cases this
 refine⟨by rw [aj nd];exact h.hd,h.n1,h.n2,λp' lC=>?_⟩;by_cases z:p'=p
 .rw [z,af];have e1:A5 st p.1 k p.1=st p.1++[k]:=ay rfl;rw [e1,bu];rfl
 obtain⟨a1,a2⟩:=Nb h.n1 h.n2 hp lC z;have e1:A5 st p.1 k p'.1=st p'.1:=av a1;rw [aj a2,e1];exact h.lst p' lC
def C9 (K:aY):Sp:=λvs H Q _=>∃(R:Addr)(rs:List Addr)(aa:List aA),vs=[.ref R]/\aH K H R (rs.map V.ref)/\bq K H rs aa/\aa.length<=1000 /\
 ∀(d:Addr)(ps:List (Str×Addr))(H':Hp),H d=none->aD H H'->FV ps (λn=>nums aa n aa.length) H' d->ps.map (·.1)=hd aa->(∀p∈ps,H p.2=none)->Q (.ref d) H'
def uT:aM ["rules","numbers","number","rule"] ["rules"] (ax Dh):=i5 rfl rfl rfl rfl nofun
def GV (F:hU K "numbers_by_name" "numbers_by_name" Dh f fd)(T:Txt mg)(GH:aG P w K mg base 1 "heads_of" ["rules"] (jR K)):bA P w K mg base e_ 2 f fd ["rules"] (C9 K):=by
 refine F.ok uT (λvs H Q E h=>?_) (λdG A outer s H vs Q E hr h=>?_)
 .obtain⟨R,rs,aa,rfl,_⟩:=h;rfl
 obtain⟨R,rs,aa,rfl,hR,cy,bI,q⟩:=h;have hu:=gq hr;refine⟨_,ao (aI (i:=1) uT.nd rfl (bO rfl) (a_ (dI rfl) rfl T.vY eV (ae
   (bY ["name"] [] rfl (bK (bp GH hr rfl (ae (pv 0) ak))) (bL rfl rfl) nofun rfl nofun
    (λ_ _ _ _ _=>az (i:=0) (show (["name"]:List Str).Nodup by decide +kernel) rfl (bO rfl)) (λ_ _ _ _ _=>cP)
    (λ_ _ _ _ _=>bS (ae (pv 0) (ae (bo ak) ak)))) ak)))
  (ao (cD cU rfl (mj rfl T.E3 (ae (pv 0) ak)) (eJ rfl (aE (az (i:=2) uT.nd rfl (bO rfl)) (aE (az (i:=3) uT.nd rfl (bO rfl)) b_)))
   (au (cv (cX f_ iL iM cA (eh hu (pv 1) (aQ cK (pv 3) ar (λ_ _=>rfl)) (λ_ _=>rfl)) (ae (pv 2) ak)))))
  (au (aW (pv 1)))),?_⟩
 nofun
 have ll:=bM cy;refine⟨_,rfl,R,rs,aa,rfl,hR,cy,bI,λD2 H3 f3 s3 e3=>?_⟩;have Kh:=iw (aa.map (·.1)) [];simp only [jw,aC] at Kh;refine⟨D2,rfl,⟨_,aH.of e3⟩,λD3 Oy=>rq (aH.of e3) ∅ Oy λts ps H4 s4 e4 m4 p4 l4 n4=>?_⟩;have n1:(ps.map (·.1)).Nodup:=by rw [m4];exact oz _ lF
 have Er:Paired (λt (kv:aN×V)=>bj K H4 t [kV kv.1,kv.2]) ts (ps.map i3):=cE p4 λ_ _ z=>z;refine⟨D3,ts,_,rfl,e4,Er,λd rP=>?_⟩;have OJ:cO (ps.map i3) []=ps.map i3:=mM _ [] (by
  rw [lG,mx];exact vi n1)
 rw [OJ];have s5:=(s3.trans s4).trans (ah rP (.dK (ps.map i3)));have Bj:=ah rP (.dK (ps.map i3));have vX:H d=none:=(s3.trans s4).free rP;have S5:FV ps (λn=>nums aa n 0) (upd H4 d (.dK (ps.map i3))) d:=⟨af,n1,n4,λp hp=>Bj _ _ (l4 p hp).1⟩;have Me:∀p∈ps,H p.2=none:=λp hp=>s3.free (l4 p hp).2.1;generalize upd H4 d (.dK (ps.map i3))=H5 at s5 S5;clear Bj;refine⟨_,rfl,R,_,rfl,s5.seq hR,?_⟩
 let zW:zX:=λi σ H6=>∃(y2 y3:Option V),σ=[bG R,bG d,y2,y3]/\aD H H6/\FV ps (λn=>nums aa n i) H6 d
 refine jP (xs:=rs.map V.ref) zW ⟨none,none,rfl,s5,S5⟩ ?_ ?_ ?_
 .rintro i σ H6 _ ⟨y2,y3,rfl,s6,_⟩;exact s6.seq hR
 .rintro i x σ H6 t ex ⟨y2,y3,rfl,s6,S6⟩ ht
  ac_nf0
  rw [bH] at ex;obtain⟨r,er,rfl⟩:=cf.mp ex;obtain⟨ru,pD,p,v1,v2⟩:=cy.get er;have oo:=bQ pD;have li:=(bR.mp pD).1;have FD:=ah ht (.tup [.int (i:Int),.ref r]);have Iv:bj K (upd H6 t (.tup [.int (i:Int),.ref r])) t [.int (i:Int),.ref r]:=bj.of af;have s7:=s6.trans FD;have S7:=S6.same FD;generalize upd H6 t (.tup [.int (i:Int),.ref r])=H7 at Iv s7 S7;obtain⟨pn,wY,x9⟩:∃pn∈ps,pn.1=ru.1:=by
   have:ru.1∈ps.map (·.1):=by rw [m4];exact(fX _ _ _).mpr (.inr (iI oo))
   obtain⟨pn,a,b⟩:=cT.mp this;exact⟨pn,a,b⟩
  have an:=S7.lst pn wY;have vn:=fN ps n1 pn wY;rw [x9] at vn;have hg:cu H7 d (.str ru.1) (some (.ref pn.2)):=by
   have:=cu.k (k:=Sum.inr ru.1) S7.hd;rw [vn] at this;exact this
  have ln:=wI aa pn.1 i;refine⟨t,_,rfl,Iv,rfl,_,_,rfl,_,_,rfl,rfl,?_⟩;refine⟨_,rfl,_,rfl,r,_,_,_,rfl,rfl,s7.tup v1,rfl,d,_,rfl,hg,.inl ⟨rfl,_,aH.of an⟩,_,rfl,pn.2,_,_,rfl,rfl,an,bW (by rw [aC];omega),?_⟩;have S8:=S7.more wY (i:Int);refine⟨_,_,rfl,λb o hb=>by rw [aj (λz=>by rw [z,Me pn wY] at hb;cases hb)];exact s7 b o hb,S8.hd,S8.n1,S8.n2,λp' lC=>?_⟩;have:=S8.lst p' lC;rw [this]
  congr 3
  unfold A5;rw [Bv];by_cases c:p'.1=pn.1
  .rw [ay c,ay];unfold LW;rw [pD,c,x9];simp
  rw [av c,av,dD];unfold LW;rw [pD];intro z;have z2:=d5 z;injection z2 with z3;exact c (by rw [x9];exact z3.symm)
 rintro σ H6 ⟨y2,y3,rfl,s6,S6⟩;rw [aC,ll] at S6;exact⟨_,rfl,q d ps H6 vX s6 S6 m4 Me⟩
def HU (K:aY):Sp:=λvs H Q _=>∃(R:Addr)(rs:List Addr)(aa:List aA),vs=[.ref R]/\aH K H R (rs.map V.ref)/\bq K H rs aa/\aa.length<=1000/\(∀ru∈aa,ru.2.length<=8) /\
 ∀(d:Addr)(H':Hp),H d=none->aD H H'->Q (.ref d) H'
structure CH (H0 H:Hp)(d:Addr)(kvs:List (aN×V)) (n:Nat):Prop where
 hd:H d=some (.dK kvs)
 ln:kvs.length<=n
 lst:∀kv∈kvs,∃a xs,kv.2=.ref a/\H a=some (.lst xs)/\H0 a=none/\xs.length<=n
def CH.same {H0 H H':Hp}{d:Addr}{kvs:List (aN×V)}{n:Nat}(h:CH H0 H d kvs n)(s:aD H H'):CH H0 H' d kvs n:=⟨s _ _ h.hd,h.ln,λkv hk=>let ⟨a,xs,e1,e2,e3,e4⟩:=h.lst kv hk;⟨a,xs,e1,s _ _ e2,e3,e4⟩⟩
def CH.more {H0 H:Hp}{d a:Addr}{kvs:List (aN×V)}{n:Nat}{xs:List V}{y:V}(h:CH H0 H d kvs (n+1))(ha:H a=some (.lst xs))(lx:xs.length<=n)(l2:∀kv∈kvs,∃a xs,kv.2=.ref a/\H a=some (.lst xs)/\H0 a=none/\xs.length<=n):CH H0 (upd H a (.lst (xs++[y]))) d kvs (n+1):=by
 have nd:d≠a:=λz=>by have:=h.hd;rw [z,ha] at this;cases this
 refine⟨by rw [aj nd];exact h.hd,h.ln,λkv hk=>?_⟩;obtain⟨b,ys,e1,e2,e3,e4⟩:=l2 kv hk;by_cases c:b=a
 .exact⟨b,xs++[y],e1,by rw [c,af],e3,by rw [bZ];simp;omega⟩
 exact⟨b,ys,e1,by rw [aj c];exact e2,e3,∅⟩
def Jf {kvs:List (aN×V)}{k:aN}{v:V}(h:bh kvs k=some v):∃kv∈kvs,kv.2=v:=by
 unfold bh at h;obtain⟨kv,e1,e2⟩:=cf.mp h;exact⟨kv,List.mem_of_find?_eq_some e1,e2⟩
def sQ:aM ["rules","standings","number","rule","place","part"] ["rules"] (ax JA):=i5 rfl rfl rfl rfl nofun
def JV (F:hU K "standings_by_part" "standings_by_part" JA f fd)(T:Txt mg):bA P w K mg base e_ 1 f fd ["rules"] (HU K):=by
 refine F.ok sQ (λvs H Q E h=>?_) (λdG A outer s H vs Q E hr h=>?_)
 .obtain⟨R,rs,aa,rfl,_⟩:=h;rfl
 obtain⟨R,rs,aa,rfl,hR,cy,bI,h8,q⟩:=h;have hu:=gq hr;refine⟨_,ao (aI (i:=1) sQ.nd rfl (bO rfl) fw)
  (ao (cD cU rfl (mj rfl T.E3 (ae (pv 0) ak)) (eJ rfl (aE (az (i:=2) sQ.nd rfl (bO rfl)) (aE (az (i:=3) sQ.nd rfl (bO rfl)) b_)))
   (au (cD cU rfl (mi rfl T.E3 (ae (aQ cK (pv 3) ar (λ_ _=>rfl)) ak)) (eJ rfl (aE (az (i:=4) sQ.nd rfl (bO rfl)) (aE (az (i:=5) sQ.nd rfl (bO rfl)) b_)))
    (au (cv (cX f_ iL iM cA (DE (pv 1) (pv 5) (bo ak) ⟨rfl,rfl,rfl,rfl⟩) (ae (bS (ae (pv 2) (ae (pv 4) ak))) ak)))))))
  (au (aW (pv 1)))),?_⟩
 nofun
 have ll:=bM cy;intro d rP;have s1:=ah rP (.dK []);have S1:CH H (upd H d (.dK [])) d [] (8 * 0):=⟨af,aK _,λkv hk=>by cases hk⟩;generalize upd H d (.dK [])=H1 at s1 S1;refine⟨_,rfl,R,_,rfl,s1.seq hR,?_⟩
 let HG:zX:=λi σ H6=>∃(kvs:List (aN×V))(y2 y3 y4 y5:Option V),σ=[bG R,bG d,y2,y3,y4,y5]/\aD H H6/\CH H H6 d kvs (8 * i)
 refine jP (xs:=rs.map V.ref) HG ⟨[],none,none,none,none,rfl,s1,S1⟩ ?_ ?_ ?_
 .rintro i σ H6 _ ⟨kvs,y2,y3,y4,y5,rfl,s6,_⟩;exact s6.seq hR
 .rintro i x σ H6 t ex ⟨kvs,y2,y3,y4,y5,rfl,s6,S6⟩ ht
  ac_nf0
  rw [bH] at ex;obtain⟨r,er,rfl⟩:=cf.mp ex;obtain⟨ru,pD,p,v1,v2⟩:=cy.get er;have oo:=bQ pD;have Mb:=h8 ru oo;have li:=(bR.mp pD).1;have FD:=ah ht (.tup [.int (i:Int),.ref r]);have Iv:bj K (upd H6 t (.tup [.int (i:Int),.ref r])) t [.int (i:Int),.ref r]:=bj.of af;have s7:=s6.trans FD;have S7:=S6.same FD;generalize upd H6 t (.tup [.int (i:Int),.ref r])=H7 at Iv s7 S7;refine⟨t,_,rfl,Iv,rfl,_,_,rfl,_,_,rfl,rfl,?_⟩;refine⟨_,rfl,r,_,_,_,rfl,rfl,s7.tup v1,rfl,p,_,rfl,s7.tup v2,?_⟩
  let Vb:zX:=λj σ H9=>∃(kvs:List (aN×V))(y4 y5:Option V),σ=[bG R,bG d,some (.int (i:Int)),bG r,y4,y5]/\aD H H9/\CH H H9 d kvs (8 * i+j)
  refine ow (xs:=ru.2.map V.str) Vb ⟨kvs,_,_,rfl,s7,S7⟩ ?_ ?_ ?_
  .rintro j σ H9 _ ⟨kvs,y4,y5,rfl,s9,_⟩;exact s9.tup v2
  .rintro j x σ H9 t2 EX ⟨kvs,y4,y5,rfl,s9,S9⟩ hX
   ac_nf0
   rw [bH] at EX;obtain⟨z,ez,rfl⟩:=cf.mp EX;have lj:=(bR.mp ez).1;have wx:=ah hX (.tup [.int (j:Int),.str z]);have EA:bj K (upd H9 t2 (.tup [.int (j:Int),.str z])) t2 [.int (j:Int),.str z]:=bj.of af;have u6:=s9.trans wx;have IV:=S9.same wx;generalize upd H9 t2 (.tup [.int (j:Int),.str z])=zY at EA u6 IV;refine⟨t2,_,rfl,EA,rfl,_,_,rfl,_,_,rfl,rfl,?_⟩;have lk:=IV.ln;refine⟨_,rfl,d,rfl,.inl ⟨kvs,.inl IV.hd⟩,_,rfl,v9,λl hl=>?_⟩;have Gm:=ah hl (.lst []);have FR:upd zY l (.lst []) l=some (.lst []):=af;have fl:H l=none:=u6.free hl;have CJ:=IV.same Gm;have sA:=u6.trans Gm;generalize upd zY l (.lst [])=Cw at Gm FR CJ sA;have fin:∀(a:Addr)(xs:List V)(kW:List (aN×V))(xN:Hp),xN a=some (.lst xs)->H a=none->xs.length<=8 * i+j->CH H xN d kW (8 * i+j+1)->(∀kv∈kW,∃a xs,kv.2=.ref a/\xN a=some (.lst xs)/\H a=none/\xs.length<=8 * i+j)->aD H xN ->
     ∀t4,xN t4=none->xs.length < sizeLine/\∃(kvs:List (aN×V))(y4 y5:Option V),[some (V.ref R),bG d,some (.int (i:Int)),bG r,some (.int (j:Int)),some (.str z)]=[bG R,bG d,some (.int (i:Int)),bG r,y4,y5]/\aD H (upd (upd xN t4 (.tup [.int (i:Int),.int (j:Int)])) a (.lst (xs++[.ref t4])))/\CH H (upd (upd xN t4 (.tup [.int (i:Int),.int (j:Int)])) a (.lst (xs++[.ref t4]))) d kvs (8 * i+(j+1)) :=
    λa xs kW xN ea fa lx FU NH H_ t4 BR=>by
     have yN:=ah BR (.tup [.int (i:Int),.int (j:Int)]);refine⟨bW ∅,kW,_,_,rfl,λb o hb=>by rw [aj (λz=>by rw [z,fa] at hb;cases hb)];exact yN _ _ (H_ b o hb),?_⟩;exact(FU.same yN).more (yN _ _ ea) lx λkv hk=>let ⟨b,ys,e1,e2,e3,e4⟩:=NH kv hk;⟨b,ys,e1,yN _ _ e2,e3,e4⟩
   refine⟨kvs,Sum.inr z,CJ.hd,rfl,bW ∅,λv hv=>?_,λhn=>?_⟩
   .obtain⟨kv,hk,ek⟩:=Jf hv;obtain⟨a,xs,e1,e2,e3,e4⟩:=CJ.lst kv hk;rw [e1] at ek;subst ek;refine⟨.inl ⟨rfl,_,aH.of e2⟩,_,rfl,_,rfl,kc,λt4 BR=>?_⟩;obtain⟨g1,g2⟩:=fin a xs kvs Cw e2 e3 e4 ⟨CJ.hd,∅,λkv hk=>let ⟨b,ys,e1,e2,e3,e4⟩:=CJ.lst kv hk;⟨b,ys,e1,e2,e3,∅⟩⟩ CJ.lst sA t4 BR;exact⟨a,_,_,rfl,rfl,ah BR _ _ _ e2,g1,g2⟩
   have nd:d≠l:=λz=>by have:=CJ.hd;rw [z,FR] at this;cases this
   have IH:upd Cw d (.dK (bE kvs (Sum.inr z) (.ref l))) l=some (.lst []):=by rw [aj nd.symm];exact FR
   have vX:H d=none:=rP;have H_:aD H (upd Cw d (.dK (bE kvs (Sum.inr z) (.ref l)))):=λb o hb=>by rw [aj (λz=>by rw [z,vX] at hb;cases hb)];exact sA b o hb
   have NH:∀kv∈bE kvs (Sum.inr z) (.ref l),∃a xs,kv.2=.ref a/\upd Cw d (.dK (bE kvs (Sum.inr z) (.ref l))) a=some (.lst xs)/\H a=none/\xs.length<=8 * i+j:=λkv hk=>by
    rw [wz _ hn] at hk;rcases cN.mp hk with h | h
    .obtain⟨b,ys,e1,e2,e3,e4⟩:=CJ.lst kv h;exact⟨b,ys,e1,by rw [aj (λz=>by rw [z,CJ.hd] at e2;cases e2)];exact e2,e3,e4⟩
    rw [cJ.mp h];exact⟨l,[],rfl,IH,fl,by simp⟩
   have lp:=d8 kvs (Sum.inr z:aN) (.ref l);have FU:CH H (upd Cw d (.dK (bE kvs (Sum.inr z) (.ref l)))) d (bE kvs (Sum.inr z) (.ref l)) (8 * i+j+1):=⟨af,∅,λkv hk=>let ⟨b,ys,e1,e2,e3,e4⟩:=NH kv hk;⟨b,ys,e1,e2,e3,∅⟩⟩;generalize upd Cw d (.dK (bE kvs (Sum.inr z) (.ref l)))=xN at IH H_ NH FU;refine⟨.inl ⟨rfl,_,aH.of IH⟩,_,rfl,_,rfl,kc,λt4 BR=>?_⟩;obtain⟨g1,g2⟩:=fin l [] _ xN IH fl (by simp) FU NH H_ t4 BR;exact⟨l,_,_,rfl,rfl,ah BR _ _ _ IH,g1,g2⟩
  rintro σ H9 ⟨kvs,y4,y5,rfl,s9,S9⟩;rw [aC] at S9;refine⟨kvs,_,_,_,_,rfl,s9,S9.hd,by have:=S9.ln;omega,λkv hk=>let ⟨b,ys,e1,e2,e3,e4⟩:=S9.lst kv hk;⟨b,ys,e1,e2,e3,∅⟩⟩
 rintro σ H6 ⟨kvs,y2,y3,y4,y5,rfl,s6,S6⟩;exact⟨_,rfl,q d H6 rP s6⟩
end
end fg
namespace L2
open PySem PySem.W PyProof.Rows
section
variable {n:Nat}{lt:Nat->Nat->Bool}{cmp:Nat->Nat->(Bool->Shared->Prop)->Shared->Prop}{s:Shared}
structure HF (n:Nat)(lt:Nat->Nat->Bool):Prop where
 trans:∀a b c,a < n->b < n->c < n->lt b a=false->lt c b=false->lt c a=false
 UW:∀a b,a < n->b < n->lt a b=true->lt b a=false
structure Mt (n:Nat)(p:Array Nat):Prop where
 pm:p.Perm (List.range n).toArray
theorem Mt.size {p:Array Nat}(h:Mt n p):p.size=n:=by
 have:=h.pm.size_eq;simpa using this
def Mt.Iu {p:Array Nat}(h:Mt n p){i:Nat}(hi:i < n):p.getD i 0 < n:=by
 have hs:=h.size;have e:p.getD i 0=p[i]'∅:=by simp [Array.getD,hs,hi]
 rw [e];have:p[i]'∅∈(List.range n).toArray:=h.pm.mem_iff.mp (Array.getElem_mem _);simpa using this
abbrev at_ (p:Array Nat) (i:Nat):Nat:=p.getD i 0
def Lz (lt:Nat->Nat->Bool)(p:Array Nat) (k:Nat):Prop:=∀i j,i<=j->j < k->lt (at_ p j) (at_ p i)=false
def LF (lt:Nat->Nat->Bool)(p:Array Nat) (k:Nat):Prop:=∀i j,i<=j->j < k->lt (at_ p i) (at_ p j)=false
def HF.V_ (o:HF n lt){a:Nat}(h:a < n):lt a a=false:=by
 cases e:lt a a with
 | false=>rfl
 | true=>rw [<-o.UW a a h h e,e]
def Lz.more {p:Array Nat}{m:Nat}(o:HF n lt)(P:Mt n p)(h:Lz lt p m)(hm:1<=m)(hn:m < n)(c:lt (at_ p m) (at_ p (m - 1))=false):Lz lt p (m+1):=by
 intro i j BV hj;by_cases e:j=m
 .subst e;by_cases e2:i=j
  .subst e2;exact o.V_ (P.Iu hn)
  exact o.trans _ (at_ p (j - 1)) _ (P.Iu ∅) (P.Iu ∅) (P.Iu hn) (h i (j - 1) ∅ ∅) c
 exact h i j BV ∅
def LF.more {p:Array Nat}{m:Nat}(o:HF n lt)(P:Mt n p)(h:LF lt p m)(hm:1<=m)(hn:m < n)(c:lt (at_ p (m - 1)) (at_ p m)=false):LF lt p (m+1):=by
 intro i j BV hj;by_cases e:j=m
 .subst e;by_cases e2:i=j
  .subst e2;exact o.V_ (P.Iu hn)
  exact o.trans _ (at_ p (j - 1)) _ (P.Iu hn) (P.Iu ∅) (P.Iu ∅) c (h i (j - 1) ∅ ∅)
 exact h i j BV ∅
end
open PySem PySem.Spec PyProof.Rows
def Inv.NG {X:Cx}{ai:List (Addr×Obj)}{σ:St}{H:Hp}{s:Shared}{h':Heap}{a:Addr}{o:HO}{t':Nat}(I:Inv X ai σ H s)(k:∀b u,b≠X.env.locals->s.heap.get? b=some u->h'.get? b=some u)
  (ns:∀m,s.heap.Ns X.env.locals m->h'.Ns X.env.locals m)(hp:s.heap.get? a=none)(hn:H a=none)(new:bU X.prog X.w (upd H a o) h' a o):Inv X ai σ (upd H a o) { s with heap:=h',toks:=t' }:=by
 have ne:∀b u,s.heap.get? b=some u->b≠a:=λb u q z=>by rw [z,hp] at q;cases q
 refine I.step (g':=s.gens) (d':=s.drawn) (ch:=[]) (λ_ z=>nomatch z) (λb u hb _ _ e _=>k b u hb e) (λb u hb _ _ e _=>⟨u.slots,k b u hb e⟩) (λb u _ e n=>by rw [aj (ne b u e)];exact n)
  (λb u _ e=>?_) (λb xs q=>by rw [aj (aq q hn)];exact q) (λb u xs q=>by rw [aj (aq q hn)];exact q) (λb ps q=>⟨#[],by rw [aj (aq q hn),q];simp⟩) ns (λb u e=>?_) I.bare
 .by_cases hb:b=X.env.locals
  .obtain⟨m,hm,_⟩:=I.loc;obtain⟨o',_,_,He,_⟩:=ns m hm;exact⟨o',by rw [hb];exact He⟩
  exact⟨u,k b u hb e⟩
 by_cases hb:b=a
 .subst hb;rw [af] at e;cases e;exact new
 rw [aj hb] at e;refine(I.bD b u e).hV (λc v hc q=>k c v ?_ q) (λc q=>by rw [aj (aq q hn)];exact q) λc xs q=>by rw [aj (aq q hn)];exact q
 rintro rfl;rcases hc with rfl | hc
 .rw [I.free] at e;cases e
 rw [I.free] at hc;cases hc
def DP {P:Program}{w:World}{H:Hp}{h:Heap}{a:Addr}{o:HO}(x:bU P w H h a o):∃u,h.get? a=some u:=by
 cases o with
 | lst xs=>obtain⟨_,_,_,_,e⟩:=x;exact⟨_,e⟩
 | tup xs=>obtain⟨_,_,_,ob,e,_⟩:=x;exact⟨_,e⟩
 | dK kvs=>obtain⟨_,_,_,_,o,_,_,e,_⟩:=x;exact⟨_,e⟩
 | dT kvs=>obtain⟨_,_,_,_,o,_,_,e,_⟩:=x;exact⟨_,e⟩
 | set S n=>obtain⟨o,_,_,_,e,_⟩:=x;exact⟨_,e⟩
 | ins C dx fs=>obtain⟨_,_,_,e,_⟩:=x;exact⟨_,e⟩
 | own y=>obtain⟨_,e⟩:=x;exact⟨_,e⟩
 | xd fs=>obtain⟨_,⟨_,_,_,e,_⟩,_⟩:=x;exact⟨_,e⟩
 | Ia lo hi=>obtain⟨_,_,_,e⟩:=x;exact⟨_,e⟩
 | ju ob u=>obtain⟨e,_⟩:=x;exact⟨_,e⟩
 | rO ps=>exact⟨_,(show h.get? a=some _ from x)⟩
 | met f y=>exact⟨_,(show h.get? a=some _ from x)⟩
 | ext φ=>obtain⟨_,⟨_,e⟩,_⟩:=x;exact⟨_,e⟩
open PySem PySem.Spec PyProof.Rows PySem.W
section
variable {P:Program}{w:World}{A:Around}{E:Value->Shared->Prop}{s:Shared}
def Eu {f c' c d:Addr}{q:Str}{params:Arguments}{scope:Scope}{cl:List (Str×Addr)}{pm fk:Value}{p1 p2 p3:Pos}{xs xh:Str}{vs:List (aN×Value)}{z:Str}{t:Tok}{u:Value}{oc:Obj}{Q:Value->Shared->Prop}
  (N0:A.depth < recursionLimit)(nl:s.heap.NoLimit)(hf:s.heap.get? f=some (kla_obj "<lambda>" q params (.Subscript (.Name xs p1) (.Name xh p2) p3) scope cl pm c' fk))(hc:s.heap.CodeRec (.ref c') q)
  (hb:∀us:List Value,us.length=1->bindArgs (kla_fn "<lambda>" q params (.Subscript (.Name xs p1) (.Name xh p2) p3) scope cl pm (.ref c') fk) ⟨us,[]⟩=pure ([xh].zip us))
  (hk:scope.kind=.function)(Tu:scope.isCoroutine=false)(KO:scope.isGenerator=false)(SV:∀x∈scope.names,x.2≠.cell)(hh:scope.names.lookup xh=some .local)(hs:scope.names.lookup xs=some .free)
  (oq:cl.lookup xs=some c)(ho:s.heap.get? c=some oc)(xZ:oc.data=.cell (some (.ref d)))(dd:s.heap.DictOf (aX P w) d vs)(hv:valueAt vs (Sum.inr z)=some u)
  (d1:(xs == ("__debug__":Str))=false)(d2:(xh == ("__debug__":Str))=false)(d3:(xs == ("__classdict__":Str))=false)
  (h:∀h' tk,(∀b o,s.heap.get? b=some o->h'.get? b=some o)->Q u { s with heap:=h',toks:=tk }):wpAny (model P w) A (call (.ref f) [.str z t]) Q E s:=by
 refine hZ (kla_callFunE N0 hf rfl Tu KO rfl hc ?_);rw [hb [.str z t] rfl];refine aR (wpAny_newFunctionEnv SV (λx hx=>?_) (λh₁ vU Wi=>⟨nl.fresh _ Wi,?_⟩) hk)
 .have:x=(xh,Value.str z t):=by simpa using hx
  rw [this];exact hh
 show codeAny _ _ (.expr (.Subscript (.Name xs p1) (.Name xh p2) p3) (envX q scope s.heap.objs.size f (.ref c') cl)) _ _;have k1:∀b o,s.heap.get? b=some o->h₁.get? b=some o:=λb o e=>Wi.extBut b o (bx (aS e)) (bC _ e);refine kla_codeExpr (Ab PySem.F.slot_dict_getitem.lookup (λ_ _=>rfl) ?_);refine wpAny_Name (wpAny_loadName_free hk hs oq ⟨oc,k1 _ _ ho,xZ⟩ ?_ d3) d1;refine wpAny_Name (uo hk hh vU (show ([(xh,Value.str z t)]:List (Str×Value)).reverse.lookup xh=some (.str z t) by simp [List.lookup]) ?_) d2;have Xo:h₁.DictOf (aX P w) d vs:=by
  obtain⟨o,es,ep,g,r⟩:=dd;exact⟨o,es,ep,k1 _ _ g,r⟩
 refine⟨Xo.typeIs,wpAny_getItem_of (kj (k:=Sum.inr z) ⟨t,rfl⟩) Xo.mapOf hv ?_⟩;exact h h₁ _ k1
end
section
variable {X:Cx}{params:Arguments}{body:Expr}{scope:Scope}{pos:Pos}{c T:Addr}
abbrev iu (X:Cx)(params:Arguments)(body:Expr)(scope:Scope)(cl:List (Str×Addr))(c':Addr)(fk:Value):Obj:=kla_obj "<lambda>" (X.env.qual ++ "<lambda>") params body scope cl ((X.mg "__name__").getD .none) c' fk
def MQ (X:Cx)(params:Arguments)(body:Expr)(scope:Scope)(pos:Pos)(T:Addr):TE:=λσ H Q=>Tab T pos (X.env.qual ++ "<lambda>") H /\
 ∀f c' fk cl H',HI X.env scope cl->eX T H H'->Tab T pos (X.env.qual ++ "<lambda>") H'->H f=none->H' f=some (oh f (iu X params body scope cl c' fk))->H' c'=some (jr c' (X.env.qual ++ "<lambda>"))->Q (.ref f) H'
def GK (qU:X.env.code=.ref c)(hC:codeHdIn X.K c T=true)(hB:rN X.mg X.base)(mF:∀y,(y,NameKind.free)∈scope.names->X.env.scope.names.lookup y=some .cell)(EI:defaultsOf params X.env=([],[]):=by rfl):PE X (.Lambda params body scope pos) (MQ X params body scope pos T):=by
 intro ai s σ H Q I h;obtain⟨⟨ps,hT,ht,EJ⟩,q⟩:=h;refine kla_eval EI ?_;obtain⟨cl,oq⟩:=vH (env:=X.env) (scope:=scope) λy hy=>I.ok.has y (.inl (mF y hy));have KZ:s.heap.get? T=some (tabObj ps):=(show bU X.prog X.w H s.heap T (.rO ps) from I.bD T _ hT);have hg:=I.mod.glob.keeps I.bk;have C:=codeHd_of_K I.jX hC;obtain⟨bm,ob,b1,b2,b3,b4,b5,b6,b7⟩:=hB;have US:=I.bk _ _ b4;have RP:bm≠T:=λz=>by
  have:=(I.bs _ _ b4).2;rw [z,hT] at this;cases this
 have RM:mainGlobals≠T:=λz=>by
  obtain⟨o,es,ep,e,d,_⟩:=hg;rw [z,KZ] at e;cases e;cases d
 have OA:s.heap.BuiltinsAt X.mg T:=⟨bm,ob,b1,b2,b3,RP,US,b5,b6,b7⟩;have FA:∀b v,H b=some v->b < s.heap.objs.size:=λb v e=>I.bD.lt e;rcases EJ with N_ | ⟨c',hf,jq⟩
 .refine kla_makeFunction oq.eq I.ok.glob hg qU C KZ ht N_ RM OA λc' fk h' tk hx KP i4 EC NT=>?_;have hcr:∃oc,h'.get? c'=some oc:=by
   obtain⟨c2,oc,vs,t,e,xZ,_⟩:=EC;cases e;exact⟨oc,xZ⟩
  have qT:h'.objs.size > s.heap.objs.size:=oK KP i4;have keep:∀b o,b≠T->s.heap.get? b=some o->(h'.push (iu X params body scope cl c' fk)).get? b=some o:=λb o n e=>bC _ (hx b o n e)
  let H':Hp:=upd (upd (upd H T (.rO (ps++#[rawInt pos.line,rawInt pos.col,.ref c']))) c' (jr c' (X.env.qual ++ "<lambda>"))) h'.objs.size (oh h'.objs.size (iu X params body scope cl c' fk))
  have zm:∀b v,H b=some v->b≠c'/\b≠h'.objs.size:=λb v e=>⟨bx (dJ (FA b v e) KP),bx (kA (FA b v e) qT)⟩;have RO:c'≠h'.objs.size:=bx i4;have Nv:=zm T _ hT;have eT:H' T=some (.rO (ps++#[rawInt pos.line,rawInt pos.col,.ref c'])):=by
   show upd (upd (upd H T _) c' _) h'.objs.size _ T=_;rw [aj Nv.2,aj Nv.1,af]
  have ec:H' c'=some (jr c' (X.env.qual ++ "<lambda>")):=by
   show upd (upd (upd H T _) c' _) h'.objs.size _ c'=_;rw [aj RO,af]
  have ef:H' h'.objs.size=some (oh h'.objs.size (iu X params body scope cl c' fk)):=af;have eo:∀b,b≠T->b≠c'->b≠h'.objs.size->H' b=H b:=λb n1 n2 n3=>by
   show upd (upd (upd H T _) c' _) h'.objs.size _ b=_;rw [aj n3,aj n2,aj n1]
  have sT:eX T H H':=λb o n e=>by rw [eo b n (zm b o e).1 (zm b o e).2];exact e
  have I2:Inv X ai σ H' { s with heap:=h'.push (iu X params body scope cl c' fk),toks:=tk }:=by
   refine I.call (g':=s.gens) (t':=tk) (d':=s.drawn) (ch:=[]) ⟨λb o e n _ _=>keep b o (λz=>by rw [z,hT] at n;cases n) e,λb o e n _ _=>⟨o.slots,keep b o (λz=>by rw [z,hT] at n;cases n) e⟩,λb o e n _=>?_,λb o e _=>?_,λb xs e=>?_,λb o u e=>?_,λb Rp e=>?_⟩ (λb v e=>?_) I.bare (λb hb=>nomatch hb)
   .have lb:=aS e;rw [eo b (λz=>by rw [z,hT] at n;cases n) (bx (dJ lb KP)) (bx (kA lb qT))];exact n
   .by_cases z:b=T
    .exact⟨_,by rw [z];exact bC _ NT⟩
    exact⟨o,keep b o z e⟩
   .exact sT b _ (λz=>by rw [z,hT] at e;cases e) e
   .exact sT b _ (λz=>by rw [z,hT] at e;cases e) e
   .by_cases z:b=T
    .subst z;rw [hT] at e;cases e;exact⟨_,eT⟩
    exact⟨#[],by rw [ui];exact sT b _ z e⟩
   by_cases z1:b=h'.objs.size
   .subst z1;rw [ef] at e;cases e;exact pQ (cI _ rfl)
   by_cases z2:b=c'
   .subst z2;rw [ec] at e;cases e;refine xB ?_;obtain⟨c2,oc,vs,t,e',xZ,hd,hv⟩:=EC;cases e';exact⟨_,oc,vs,t,rfl,bC _ xZ,hd,hv⟩
   by_cases z3:b=T
   .subst z3;rw [eT] at e;cases e;exact bC _ NT
   rw [eo b z3 z2 z1] at e;refine(I.bD b v e).hV (λd o BY e'=>?_) (λd e'=>sT d _ (λz=>by rw [z,hT] at e';cases e') e') λd ys e'=>sT d _ (λz=>by rw [z,hT] at e';cases e') e';rcases BY with rfl | BY
   .exact keep d o z3 e'
   exact keep d o (λz=>by rw [z,hT] at BY;cases BY) e'
  have fresh:H h'.objs.size=none:=I.bD.fresh (jy qT);exact⟨.ref h'.objs.size,H',I2,rfl,q _ c' fk cl H' oq sT ⟨_,eT,by rw [qi];exact i7 _ ht,.inr ⟨c',by rw [qi];exact codeAmong_snoc _ ht N_,ec⟩⟩ fresh ef ec⟩
 refine kla_makeFunctionHit oq.eq I.ok.glob hg qU C KZ ht hf OA λfk h' tk hk hsz=>?_;have keep:∀b o,s.heap.get? b=some o->(h'.push (iu X params body scope cl c' fk)).get? b=some o:=λb o e=>bC _ (hk b o e);have fresh:H h'.objs.size=none:=I.bD.fresh hsz;refine⟨.ref h'.objs.size,_,I.laid (a:=h'.objs.size) (o:=oh h'.objs.size (iu X params body scope cl c' fk)) (t':=tk) keep hsz (pQ (cI _ rfl)),rfl,?_⟩;refine q _ c' fk cl _ oq (λb o _ e=>by rw [aj (aq e fresh)];exact e) ⟨ps,by rw [aj (aq hT fresh)];exact hT,ht,.inr ⟨c',hf,by rw [aj (aq jq fresh)];exact jq⟩⟩ fresh af (by rw [aj (aq jq fresh)];exact jq)
end
theorem Ac:∀{zs:List Str}{aO:List Value},aU (zs.map V.str) aO->∀(i:Nat)(v:Value),aO[i]?=some v->∃z t,zs[i]?=some z/\v=.str z t
 | [],[],_,i,v,h=>by simp at h
 | z::r,u::aO,h,i,v,hi=>by
  cases h with
  | cons a b =>
   cases i with
   | zero =>
    cases hi;obtain⟨t,e⟩:=(show ∃t,u=Value.str z t from a);exact⟨z,t,rfl,e⟩
   | succ i=>exact Ac b i v hi
theorem sJ:∀(ps:List (Str×Tok)),aU ((ps.map (·.1)).map V.str) (ps.map λp=>Value.str p.1 p.2)
 | []=>.nil
 | p::r=>.cons ⟨p.2,rfl⟩ (sJ r)
theorem sL:∀{zs:List Str}{aO:List Value},aU (zs.map V.str) aO->∃ps:List (Str×Tok),ps.map (·.1)=zs/\aO=ps.map λp=>Value.str p.1 p.2
 | [],[],_=>⟨[],rfl,rfl⟩
 | z::r,u::aO,h=>by
  cases h with
  | cons a b =>
   obtain⟨t,e⟩:=(show ∃t,u=Value.str z t from a);obtain⟨ps,e1,e2⟩:=sL b;exact⟨(z,t)::ps,by rw [bz,e1],by rw [bz,e2,e]⟩
def yT {α β:Type}{f:α->β}{l m:List β}(h:l.Perm m):∀ps:List α,m=ps.map f->∃qs:List α,l=qs.map f/\qs.Perm ps:=by
 induction h with
 | nil =>
  intro ps e;cases ps with
  | nil=>exact⟨[],rfl,.nil⟩
  | cons p r=>cases e
 | cons x h ih =>
  intro ps e;cases ps with
  | nil=>cases e
  | cons p r =>
   rw [bz] at e;injection e with e1 e2;obtain⟨qs,a,b⟩:=ih r e2;exact⟨p::qs,by rw [bz,a,e1],b.cons p⟩
 | swap x y l =>
  intro ps e
  match ps,e with
  | [],e=>cases e
  | [_],e=>cases e
  | p::p2::r,e =>
   rw [bz,bz] at e;injection e with e1 e2;injection e2 with e3 e4;exact⟨p2::p::r,by rw [bz,bz,e1,e3,e4],.swap p p2 r⟩
 | trans h1 h2 i1 i2 =>
  intro ps e;obtain⟨qs,a,b⟩:=i2 ps e;obtain⟨rs,c,d⟩:=i1 qs a;exact⟨rs,c,d.trans b⟩
def DJ {g:Str->Int}{ps:List (Str×Tok)}{out:List Value}(h:KskOut false ((ps.map (·.1)).map g) (ps.map λp=>Value.str p.1 p.2) out) :
  ∃qs:List (Str×Tok),out=qs.map (λp=>Value.str p.1 p.2)/\(qs.map (·.1)).Perm (ps.map (·.1))/\(qs.map (·.1)).Pairwise λx y=>g x<=g y:=by
 obtain⟨rs,h1,h2,h3⟩:=h;have ez:((ps.map (·.1)).map g).zip (ps.map λp=>Value.str p.1 p.2)=ps.map λp=>(g p.1,Value.str p.1 p.2):=by
  rw [h_,List.zip_map,List.zip_eq_zipWith]
  induction ps with
  | nil=>rfl
  | cons p r ih=>simp_all
 rw [ez] at h1;obtain⟨qs,q1,q2⟩:∃qs:List (Str×Tok),rs=qs.map (λp=>(g p.1,Value.str p.1 p.2))/\qs.Perm ps:=by
  exact yT h1 ps rfl
 subst q1;refine⟨qs,by rw [h2,h_];rfl,q2.map _,?_⟩;rw [List.pairwise_map] at h3 ⊢;exact h3.imp λh=>by simpa using h
section
variable {X:Cx}{i:Nat}{xs xh:Str}{params:Arguments}{scope:Scope}{p pos zo kp p1 p2 p3:Pos}{e:Expr}{ta:TA}{c T:Addr}{k:Nat}
abbrev A3 (xs xh:Str)(p1 p2 p3:Pos):Expr:=.Subscript (.Name xs p1) (.Name xh p2) p3
def Jm (X:Cx) (i:Nat)(zo:Pos)(T:Addr)(ta:TA):TE:=λσ H Q=>ta σ H λvs H1=>Tab T zo (X.env.qual ++ "<lambda>") H1/\∃(a:Addr) (zs:List Str)(d:Addr)(kvs:List (aN×V))(g:Str->Int),vs=[.ref a]/\aH X.K H1 a (zs.map V.str)/\zs.length < 64/\σ[i]?=some (some (.ref d))/\Rd H1 d (.dK kvs) /\
 (∀z∈zs,bh kvs (Sum.inr z)=some (.int (g z)))/\∀(l:Addr) (I0:List Str)(H':Hp),eX T H1 H'->Tab T zo (X.env.qual ++ "<lambda>") H'->H1 l=none->I0.Perm zs->I0.Pairwise (λx y=>g x<=g y)->H' l=some (.lst (I0.map V.str))->Q (.ref l) H'
def DB (hr:dB (k+1) X.A)(qU:X.env.code=.ref c)(hC:codeHdIn X.K c T=true)(hB:rN X.mg X.base)(hg:Gl X "sorted")(hm:X.mg "sorted"=none)(ha:PA X [e] ta)
  (hN:X.N[i]?=some xs)(hx:X.env.scope.names.lookup xs=some .cell)(mF:∀y,(y,NameKind.free)∈scope.names->X.env.scope.names.lookup y=some .cell)
  (hb:∀(q:Str)(cl:List (Str×Addr))(pm fk:Value)(c':Addr)(us:List Value),us.length=1->bindArgs (kla_fn "<lambda>" q params (A3 xs xh p1 p2 p3) scope cl pm (.ref c') fk) ⟨us,[]⟩=pure ([xh].zip us))
  (hk:scope.kind=.function)(Tu:scope.isCoroutine=false)(KO:scope.isGenerator=false)(SV:∀x∈scope.names,x.2≠.cell)(hh:scope.names.lookup xh=some .local)(hs:scope.names.lookup xs=some .free)
  (d1:(xs == ("__debug__":Str))=false:=by decide)(d2:(xh == ("__debug__":Str))=false:=by decide)(d3:(xs == ("__classdict__":Str))=false:=by decide)
  (EI:defaultsOf params X.env=([],[]):=by rfl)
  (he:backTo pos (starEach [e] X.env)=(false,eval e X.env)::backTo pos (starEach [] X.env):=by rfl)(hp:(backTo pos (starEach [e] X.env)).any (·.1)=false:=by rfl) :
  PE X (.Call (.Name "sorted" p) [e] [⟨some "key",.Lambda params (A3 xs xh p1 p2 p3) scope zo,kp⟩] pos) (Jm X i zo T ta):=by
 intro ai s σ H Q I h;refine ka (g8 I hg hm boot_sorted ?_);refine callWith_kw (cx (ha pos ai s σ H _ I h) λus s1 aV=>?_) he hp rfl rfl;obtain⟨vs,H1,I1,r1,Hk,a,zs,d,kvs,g,ev,hq,TZ,hσ,hd,hv,q1⟩:=aV;subst ev;have low:=GK (X:=X) (params:=params) (body:=A3 xs xh p1 p2 p3) (scope:=scope) (pos:=zo) (c:=c) (T:=T) qU hC hB mF EI ai s1 σ H1
  (λfv H2=>∃f c' fk cl,fv=.ref f/\HI X.env scope cl/\eX T H1 H2/\Tab T zo (X.env.qual ++ "<lambda>") H2/\H2 f=some (oh f (iu X params (A3 xs xh p1 p2 p3) scope cl c' fk))/\H2 c'=some (jr c' (X.env.qual ++ "<lambda>"))) I1
  ⟨Hk,λf c' fk cl H' a1 a2 a3 a4 a5 a6=>⟨f,c',fk,cl,rfl,a1,a2,a3,a5,a6⟩⟩
 refine kws_cons (cx low λu2 s2 aV=>?_);obtain⟨fv,H2,I2,r2,f,c',fk,cl,ef,oq,st,P_,hf,jq⟩:=aV;refine kws_nil ?_;subst ef;cases (show u2=Value.ref f from r2);obtain⟨u,rfl,rx⟩:=vals1 r1;cases (show u=Value.ref a from rx);obtain⟨pt,eT,_⟩:=id Hk;have hq2:aH X.K H2 a (zs.map V.str):=by
  rcases hq with (h | ⟨o,h⟩) | h
  .exact .inl (.inl (st _ _ (λz=>by rw [z,eT] at h;cases h) h))
  .exact .inl (.inr ⟨o,st _ _ (λz=>by rw [z,eT] at h;cases h) h⟩)
  exact .inr h
 have hd2:Rd H2 d (.dK kvs):=by
  rcases hd with h | ⟨o,h⟩
  .exact .inl (st _ _ (λz=>by rw [z,eT] at h;cases h) h)
  exact .inr ⟨o,st _ _ (λz=>by rw [z,eT] at h;cases h) h⟩
 obtain⟨aO,rv,pl,hz⟩:=I2.list hq2;obtain⟨pzs,ez,ei⟩:=sL rv;have Nd:=pl.isList;obtain⟨oa,ga,ca,na,da⟩:=id Nd;obtain⟨m,vU,lk⟩:=id I2.loc;have G3:∀b o,H2 b=some o->b≠X.env.locals:=λb o hb z=>by rw [z,I2.free] at hb;cases hb
 have Nl:d≠X.env.locals:=by
  rcases hd2 with h | ⟨o,h⟩
  .exact G3 d _ h
  exact G3 d _ h
 have Y_:a≠X.env.locals:=λz=>by
  obtain⟨o,es,ep,ho,vB,_⟩:=vU;rw [<-z,ga] at ho;cases ho;rw [da] at vB;cases vB
 obtain⟨ud,rd,ZJ⟩:=lk i xs (.ref d) hN hσ (.inr (.inl hx));cases (show ud=Value.ref d from rd);obtain⟨cc,ecc,oc,N8,N7⟩:∃cc,X.env.cells.lookup xs=some cc/\s2.heap.IsCell cc (some (.ref d)):=by
  rcases ZJ with ⟨l,_⟩ | ⟨_,c2,e2,h2⟩
  .have l':X.env.scope.names.lookup xs=some .local:=l;rw [hx] at l';cases l'
  exact⟨c2,e2,h2⟩
 obtain⟨cc',Xb⟩:=oq.all xs (vk hs);have e3:=oq.sub _ _ Xb;rw [ecc] at e3;cases e3;have LU:cc≠X.env.locals:=λz=>by
  obtain⟨o,es,ep,ho,vB,_⟩:=vU;rw [<-z,N8] at ho;cases ho;rw [N7] at vB;cases vB
 obtain⟨gf,_⟩:=I2.bD f _ hf;obtain⟨gc,_⟩:=I2.bD c' _ jq;obtain⟨zl,Wh,rQ,rel,dd⟩:=mQ I2.bD hd2;obtain⟨m0,F0⟩:=I2.fr;refine ksk_sorted (kz:=zs.map g) (f:=.ref f) (b:=false) (vs:=aO) (h₀:=FX.qL s2.heap) (L:=X.env.locals) (m:=m) (news:=(a,oa)::FX.ledger s2.heap X.env.locals a) (FX.K6 vU) (FX.wL Y_ ga) Nd (by rw [aC,<-rv.length,aC]) (by rw [<-rv.length,aC];exact TZ)
  (ksk_s1 _ _) (λx=>ksk_l1 _ _) (λx=>ksk_t1 f x) (λj v kk hj Wt je tk own F N=>?_) λD h' tk out cnt F' N' lt' ko=>?_
 .obtain⟨z,t,Qm,rfl⟩:=Ac rv j v hj;rw [bH,Qm] at Wt;cases Wt;have keep:∀b u,b≠X.env.locals->s2.heap.get? b=some u->je.get? b=some u:=λb u nb hb=>by
   by_cases e:b=a
   .subst e;rw [ga] at hb;cases hb;exact(N (b,oa) (by simp)).1
   exact(N (b,u) (oO _ (cM _ (FX.i_.mpr ⟨nb,e,hb⟩)))).1
  have Z1:=hv z (bQ Qm);obtain⟨w',hw,yO⟩:=hJ.some_of (v:=.int (g z)) (o:=valueAt rQ (Sum.inr z)) (by rw [<-Z1];exact rel.val (Sum.inr z));obtain⟨tw,rfl⟩:=(show ∃t,w'=Value.int (g z) t from yO);have dd2:je.DictOf (aX X.prog X.w) d rQ:=by
   obtain⟨o,es,ep,g1,r⟩:=dd;exact⟨o,es,ep,keep _ _ Nl g1,r⟩
  have gc2:je.CodeRec (.ref c') (X.env.qual ++ "<lambda>"):=by
   obtain⟨c2,YV,Vo,t2,e2,xZ,iD,LX⟩:=gc;cases e2;exact⟨_,YV,Vo,t2,rfl,keep _ _ (G3 c' _ jq) xZ,iD,LX⟩
  have nl:je.NoLimit:=I2.mod.nolimit.keeps λb o e=>keep b o (bx (dJ (aS e) F0.above)) (I2.bk b o e);exact Eu (s:={ s2 with heap:=je,toks:=tk }) (A:=X.A.in1.in1) hr.depth nl (keep _ _ (G3 f _ hf) gf) gc2 (λus hl=>hb _ _ _ _ _ us hl) hk Tu KO SV hh hs Xb (keep _ _ LU N8) N7 dd2 hw d1 d2 d3
   λh3 tk3 V9=>KskEnd.intro (F.kept V9) (N.grown V9) λp hp=>hp
 have keep:∀b u,b≠X.env.locals->s2.heap.get? b=some u->h'.get? b=some u:=λb u nb hb=>by
  by_cases e:b=a
  .subst e;rw [ga] at hb;cases hb;exact(N' (b,oa) (by simp)).1
  exact(N' (b,u) (cM _ (cM _ (FX.i_.mpr ⟨nb,e,hb⟩)))).1
 have hD:s2.heap.get? D=none:=by
  cases e:s2.heap.get? D with
  | none=>rfl
  | some o =>
   exfalso;have nD:D≠X.env.locals:=(N' (D,_) bT).2.1;by_cases ea:D=a
   .have:=lt' (a,oa) bT;rw [ea] at this;exact absurd this (jv _)
   exact absurd (lt' (D,o) (cM _ (FX.i_.mpr ⟨nD,ea,e⟩))) (jv _)
 have fD:H2 D=none:=by
  cases e:H2 D with
  | none=>rfl
  | some u =>
   obtain⟨ob,g⟩:=DP (I2.bD D u e);rw [hD] at g;cases g
 have fD1:H1 D=none:=by
  cases e:H1 D with
  | none=>rfl
  | some u =>
   by_cases z:D=T
   .obtain⟨pt2,eT2,_⟩:=P_;rw [z,eT2] at fD;cases fD
   rw [st _ _ z e] at fD;cases fD
 rw [ei,<-ez] at ko;obtain⟨qs,eo,pe,ps⟩:=DJ ko;rw [ez] at pe;have gD:=(N' (D,_) bT).1;have lq:qs.length=zs.length:=by have:=pe.length_eq;rw [aC] at this;exact this
 have sl:=ah fD (.lst ((qs.map (·.1)).map V.str));refine⟨.ref D,_,I2.NG (t':=tk) keep (λm' hm=>?_) hD fD (show bU X.prog X.w _ _ _ (.lst ((qs.map (·.1)).map V.str)) from ⟨by rw [aC,aC];exact fits ∅,qs.map (λp=>Value.str p.1 p.2),cnt,sJ qs,by rw [<-eo];simpa using gD⟩),rfl,q1 D (qs.map (·.1)) _ (λb o n hb=>sl _ _ (st b o n hb)) ?_ fD1 pe ps af⟩
 .have:=F'.ns;have e:m'=m:=by
   obtain⟨o,es,ep,ho,vB,_,hf⟩:=hm;obtain⟨o2,es2,ep2,Wm,Oi,_,Of⟩:=vU;rw [ho] at Wm;cases Wm;rw [vB] at Oi;cases Oi
   funext x
   rw [<-hf x,<-Of x]
  rw [e];exact this
 obtain⟨Ro,b1,b2,b3⟩:=P_;refine⟨Ro,sl _ _ b1,b2,b3.imp id λaV=>?_⟩;obtain⟨c3,e3,g3⟩:=aV;exact⟨c3,e3,sl _ _ g3⟩
end
open PySem M11
def zO {K:aY}{H:Hp}{p D d:Addr}{zs:List Str}{kvs:List (aN×V)}{g:G}{σ:St}{js:List (Nat×Str)}{Qp:Hp->Prop}(hσ:eE ["part"] js σ=[none,bG d])(hp:bj K H p (zs.map V.str))(hz:zs.length<=1000)
  (hd:Rd H d (.dK kvs))(hv:∀z,bh kvs (Sum.inr z)=(g z).map V.int)(ha:∀z∈zs,(g z).isSome=true)(hD:H D=none)(q:∀H2,aD H H2->H2 D=some (.lst ((zs.map λz=>(g z).getD 0).map V.int))->Qp H2) :
  ∃W:Nat->Nat->List V->St->Hp->Prop,(∃m,W 0 m [] (eE ["part"] js σ) (upd H D (.lst []))) /\
 ∀i m ys σ' H,W i m ys σ' H->((rK K p).stop i H/\Qp H)\/((rK K p).go i H/\∃m',m' < m/\∀x H',(rK K p).nO i H x H'->dX 0 x σ' H' λσ2 H2=>iO σ2 H2 λb H3 =>
  if b=true then z9 (fE 1) (fE 0) σ2 H3 λy H4=>H4 D=some (.lst ys)/\ys.length < sizeLine/\W (i+1) m' (ys++[y]) σ2 (upd H4 D (.lst (ys++[y]))) else W (i+1) m' ys σ2 H3):=by
 refine iZ (xs:=zs.map V.str) (λi ys σ2 H2=>ys=(((zs.take i).map λz=>(g z).getD 0).map V.int)/\(∃y0,σ2=[y0,bG d])/\aD H H2/\H2 D=some (.lst ys))
  ⟨rfl,⟨none,hσ⟩,ah hD _,af⟩ (λi ys σ2 H2 _ h=>h.2.2.1.tup hp) (λi x ys σ2 H2 ex h=>?_) (λys σ2 H2 h=>?_)
 .obtain⟨rfl,⟨y0,rfl⟩,sm,hd2⟩:=h;rw [bH] at ex;obtain⟨z,ez,rfl⟩:=cf.mp ex;have li:=(bR.mp ez).1;obtain⟨n,en⟩:=lM.mp (ha z (bQ ez));have hg:cu H2 d (.str z) (some (.int n)):=by
   have:=cu.r (k:=Sum.inr z) (fg.Rd.same hd sm);rw [hv,en] at this;exact this
  refine goN (zD ?_);refine⟨_,rfl,_,rfl,d,_,rfl,hg,hd2,bW (by rw [aC,aC,fh];omega),?_,⟨_,rfl⟩,?_,af⟩
  .rw [di,ez,bu,bu];show _=_++[V.int ((g z).getD 0)];rw [en];rfl
  intro b o hb;rw [aj (λz=>by rw [z,hD] at hb;cases hb)];exact sm b o hb
 obtain⟨rfl,_,sm,hd2⟩:=h;rw [aC,de] at hd2;exact q H2 sm hd2
end L2
namespace fg
open PySem L2 M11
section
def qz (K:aY):Sp:=λvs H Q _=>∃(d r:Addr)(kvs:List (aN×V))(g:G)(ru:aA),vs=[.ref d,.ref r]/\Rd H d (.dK kvs)/\(∀z,bh kvs (Sum.inr z)=(g z).map V.int)/\tY K H r ru/\ru.2.length<=8/\(∀z∈ru.2,(g z).isSome=true)/\∀H',aD H H'->Q (.int (aP g ru)) H'
def yw:aM ["sizes","rule"] ["sizes","rule"] (ax nX):=i5 rfl rfl rfl rfl nofun
def wG (F:hU K "rule_size" "rule_size" nX f fd)(T:Txt mg):bA P w K mg base e_ 1 f fd ["sizes","rule"] (qz K):=by
 refine F.ok yw (λvs H Q E h=>?_) (λdG A outer s H vs Q E hr h=>?_)
 .obtain⟨d,r,kvs,g,ru,rfl,_⟩:=h;rfl
 obtain⟨d,r,kvs,g,ru,rfl,hd,hv,⟨p,v1,v2⟩,h8,al,q⟩:=h;have hu:=gq hr;refine⟨_,au (aW (bf fP ar (aJ (tQ rfl) rfl T.sum PyProof.Rows.boot_sum (ae (bY ["part"] [(0,"sizes")] rfl (iB (aQ cK (pv 1) ar (λ_ _=>rfl))) (bL rfl rfl) nofun rfl nofun
   (λ_ _ _ _ _=>az (i:=0) (show (["part","sizes"]:List Str).Nodup by decide +kernel) rfl (bO rfl)) (λ_ _ _ _ _=>cP) (λ_ _ _ _ _=>eh hu (pv 1) (pv 0) (λ_ _=>rfl))) ak)))),?_⟩
 dsimp only [pF];refine⟨_,rfl,r,_,_,_,rfl,rfl,v1,rfl,p,rfl,⟨_,v2⟩,λD hD=>zO (g:=g) rfl v2 ∅ hd hv al hD λH2 s2 e2=>?_⟩;refine⟨D,_,rfl,aH.of e2,_,_,rfl,rfl,?_⟩;exact q H2 s2
end
end fg
namespace M11
open PySem
def vP.at_ {aa:List aA}{bc:List (Str×Nat)}(h:vP aa bc):∀(i:Nat)(x:Str) (k:Nat),bc[i]?=some (x,k)->∃gG,aa[k]?=some (x,gG)/\∀p∈gG,p∈(bc.take i).map (·.1):=by
 induction h with
 | nil=>intro i x k e;simp at e
 | @snoc bc k2 ru h e n p ih =>
  intro i x k ei;by_cases hi:i < bc.length
  .rw [sC hi] at ei;obtain⟨gG,a,b⟩:=ih i x k ei;exact⟨gG,a,λq hq=>by rw [yg (jy hi)];exact b q hq⟩
  have li:=(bR.mp ei).1;rw [bZ,qm] at li;have e2:i=bc.length:=by omega
  subst e2;rw [p5 (aK _),Nat.sub_self] at ei;cases ei;exact⟨ru.2,e,λq hq=>by rw [List.take_left'];exact p q hq;rfl⟩
end M11
namespace fg
open PySem L2 M11
section
def rj {H:Hp}{p D d:Addr}{zs:List Str}{kvs:List (aN×V)}{σ:St}{js:List (Nat×Str)}{Qp:Hp->Prop}(hσ:eE ["part"] js σ=[none,bG d])(hp:bj K H p (zs.map V.str))(hz:zs.length<=1000)
  (hd:H d=some (.dK kvs))(ha:∀z∈zs,(Sum.inr z:aN)∈kvs.map (·.1))(hD:H D=none)(q:∀ys H2,ys.length=zs.length->aD H H2->H2 D=some (.lst ys)->Qp H2) :
  ∃W:Nat->Nat->List V->St->Hp->Prop,(∃m,W 0 m [] (eE ["part"] js σ) (upd H D (.lst []))) /\
 ∀i m ys σ' H,W i m ys σ' H->((rK K p).stop i H/\Qp H)\/((rK K p).go i H/\∃m',m' < m/\∀x H',(rK K p).nO i H x H'->dX 0 x σ' H' λσ2 H2=>iO σ2 H2 λb H3 =>
  if b=true then z9 (fE 1) (fE 0) σ2 H3 λy H4=>H4 D=some (.lst ys)/\ys.length < sizeLine/\W (i+1) m' (ys++[y]) σ2 (upd H4 D (.lst (ys++[y]))) else W (i+1) m' ys σ2 H3):=by
 refine iZ (xs:=zs.map V.str) (λi ys σ2 H2=>ys.length=i/\(∃y0,σ2=[y0,bG d])/\aD H H2/\H2 D=some (.lst ys))
  ⟨rfl,⟨none,hσ⟩,ah hD _,af⟩ (λi ys σ2 H2 _ h=>h.2.2.1.tup hp) (λi x ys σ2 H2 ex h=>?_) (λys σ2 H2 h=>?_)
 .obtain⟨rfl,⟨y0,rfl⟩,sm,hd2⟩:=h;rw [bH] at ex;obtain⟨z,ez,rfl⟩:=cf.mp ex;have li:=(bR.mp ez).1;obtain⟨v,ev⟩:=lM.mp ((dU kvs (Sum.inr z)).mpr (ha z (bQ ez)));have hg:cu H2 d (.str z) (some v):=by
   have:=cu.k (k:=Sum.inr z) (sm _ _ hd);rw [ev] at this;exact this
  refine goN (zD ?_);refine⟨_,rfl,_,rfl,d,_,rfl,hg,hd2,bW ∅,by rw [bZ];rfl,⟨_,rfl⟩,?_,af⟩;intro b o hb;rw [aj (λz=>by rw [z,hD] at hb;cases hb)];exact sm b o hb
 obtain⟨e,_,sm,hd2⟩:=h;rw [aC] at e;exact q ys H2 e sm hd2
def sO (K:aY):Sp:=λvs H Q _=>∃(R D:Addr)(rs ts:List Addr)(aa:List aA)(bc:List (Str×Nat)),vs=[.ref R,.ref D]/\aH K H R (rs.map V.ref)/\bq K H rs aa/\aa.length<=1000/\(∀ru∈aa,ru.2.length<=8)/\aH K H D (ts.map V.ref)/\oC K H ts bc/\vP aa bc/\bc.length<=1000 /\
 ∀(d:Addr)(kvs:List (aN×V))(H':Hp),H d=none->aD H H'->H' d=some (.dK kvs)->kvs.map (·.1)=(bc.map (·.1)).map Sum.inr->Q (.ref d) H'
def jT:aM ["rules","empties","trees","name","number"] ["rules","empties"] (ax qE):=i5 rfl rfl rfl rfl nofun
def yZ (F:hU K "empty_by_name" "empty_by_name" qE f fd)(T:Txt mg):bA P w K mg base e_ 1 f fd ["rules","empties"] (sO K):=by
 refine F.ok jT (λvs H Q E h=>?_) (λdG A outer s H vs Q E hr h=>?_)
 .obtain⟨R,D,rs,ts,aa,bc,rfl,_⟩:=h;rfl
 obtain⟨R,D,rs,ts,aa,bc,rfl,hR,cy,bI,h8,hD,WB,Og,WC,q⟩:=h;have hu:=gq hr;refine⟨_,ao (aI (i:=2) jT.nd rfl (Or.inr rfl) fw)
  (ao (cD cU rfl (bK (pv 1)) (iq (n:=2) K rfl (aE (az (i:=3) jT.nd rfl (bO rfl)) (aE (az (i:=4) jT.nd rfl (bO rfl)) b_)))
   (au (il hu (pv 2) (pv 3) (bS (ae (pv 4) (ae (a_ eU rfl T.tup qp (ae (bY ["part"] [(2,"trees")] rfl (iB (aQ cK (aQ aL (pv 0) (pv 4) (λ_ _=>rfl)) ar (λ_ _=>rfl))) (bL rfl rfl) nofun rfl nofun
    (λ_ _ _ _ _=>az (i:=0) (show (["part","trees"]:List Str).Nodup by decide +kernel) rfl (bO rfl)) (λ_ _ _ _ _=>cP) (λ_ _ _ _ _=>eh hu (pv 1) (pv 0) (λ_ _=>rfl))) ak)) ak))) rfl)))
  (au (aW (pv 2)))),?_⟩
 nofun
 refine λd vX=>?_;have s1:=ah vX (.dK []);have e1:upd H d (.dK []) d=some (.dK []):=af;generalize upd H d (.dK [])=H1 at s1 e1;refine goN ?_
 ac_rfl
 have lt:=bM WB;have ll:=bM cy;have nd:=Og.nd
 let zW:zX:=λi σ H3=>∃(kvs:List (aN×V))(y3 y4:Option V),σ=[bG R,bG D,bG d,y3,y4]/\aD H H3/\H3 d=some (.dK kvs)/\kvs.map (·.1)=((bc.take i).map (·.1)).map Sum.inr
 refine⟨_,rfl,D,rfl,⟨_,s1.seq hD⟩,eQ (xs:=ts.map V.ref) zW ⟨[],_,_,rfl,s1,e1,rfl⟩ ?_ ?_ ?_⟩
 .rintro i σ H3 _ ⟨kvs,y3,y4,rfl,s3,_⟩;exact s3.seq hD
 .rintro i x σ H3 ex ⟨kvs,y3,y4,rfl,s3,ed,ek⟩
  ac_nf0
  rw [bH] at ex;obtain⟨t,et,rfl⟩:=cf.mp ex;have li:=(bR.mp et).1;obtain⟨e,ee⟩:∃e,bc[i]?=some e:=⟨bc[i]'∅,eG ∅⟩;obtain⟨t',WZ,vt⟩:=Paired.at_ WB i e ee;rw [et] at WZ;cases WZ;obtain⟨x,k⟩:=e;obtain⟨gG,hk,N5⟩:=Og.at_ i x k ee;obtain⟨r,er,p,v1,v2⟩:=Paired.at_ cy k _ hk;have O1:si (rs.map V.ref) (k:Int)=some (.ref r):=dY (by rw [bH,er];rfl);have Wl:gG.length<=8:=h8 _ (bQ hk);refine⟨t,_,rfl,s3.tup vt,rfl,_,_,rfl,_,_,rfl,rfl,?_⟩;refine⟨_,rfl,_,rfl,_,rfl,R,_,_,_,rfl,rfl,s3.seq hR,O1,r,_,_,_,rfl,rfl,s3.tup v1,rfl,p,rfl,⟨_,s3.tup v2⟩,λD2 ot=>rj (zs:=gG) rfl (s3.tup v2) ∅ ed (λz hz=>by rw [ek];exact cR.mpr (N5 z hz)) ot λys H4 ly s4 e4=>?_⟩;refine⟨D2,ys,rfl,.inl ⟨aH.of e4,λt2 T5=>⟨kc,λEg K9=>?_⟩⟩⟩;have k5:=(ah T5 (.tup ys)).trans (ah K9 (.tup [.int (k:Int),.ref t2]));generalize upd (upd H4 t2 (.tup ys)) Eg (.tup [.int (k:Int),.ref t2])=H5 at k5;have ed5:=k5 _ _ (s4 _ _ ed);have lkv:kvs.length=i:=by
   have:=congrArg List.length ek;rw [aC,aC,aC,fh] at this;omega
  have nx:x∉(bc.take i).map (·.1):=λz=>by
   obtain⟨e2,m2,q2⟩:=cT.mp z;obtain⟨j,hj⟩:=kb m2;rw [List.getElem?_take] at hj
   split at hj
   .rename_i Wu
    have a1:(bc.map (·.1))[j]?=some x:=by rw [bH,hj];exact congrArg some q2
    have a2:(bc.map (·.1))[i]?=some x:=by rw [bH,ee];rfl
    have:=(List.getElem?_inj (by rw [aC];omega) nd).mp (a1.trans a2.symm);omega
   cases hj
  refine⟨_,rfl,_,rfl,d,_,rfl,.inl ⟨kvs,Sum.inr x,ed5,rfl,bW ∅,rfl⟩,?_⟩;refine⟨_,_,_,rfl,λb o hb=>?_,af,?_⟩
  .rw [aj (λz=>by rw [z,vX] at hb;cases hb)];exact k5 _ _ (s4 _ _ (s3 b o hb))
  rw [ij (by rw [ek];exact λz=>nx (cR.mp z)),ek,di,ee,bu,bu];rfl
 rintro σ H3 ⟨kvs,y3,y4,rfl,s3,ed,ek⟩;rw [aC,lt,de] at ek;exact⟨_,rfl,q d kvs H3 vX s3 ed ek⟩
end
end fg
namespace M11
open PySem
def Le (g' g:G):Prop:=∀z n,g z=some n->∃m,g' z=some m/\m<=n
def xj {g:G}{ru:aA}(f:cq bl g ru=true):jt g ru=true/\∀n,g ru.1=some n->aP g ru < n:=by
 unfold cq at f;rw [lH] at f;refine⟨f.1,λn e=>?_⟩;have:=f.2;rw [e] at this;have:(!(some n:Option Int).isSome || bl (aP g ru) n)=true:=this
 simpa [bl] using this
def le_step {g:G}{ru:aA}(f:cq bl g ru=true):Le (dj g ru.1 (aP g ru)) g:=λz n e=>by
 unfold dj;by_cases c:z=ru.1
 .rw [ay c];subst c;exact⟨_,rfl,Int.le_of_lt ((xj f).2 n e)⟩
 rw [av c];exact⟨n,e,mZ _⟩
theorem C2 {g g':G}(h:Le g' g):∀ps:List Str,(∀p∈ps,(g p).isSome=true)->(∀p∈ps,(g' p).isSome=true)/\(ps.map λp=>(g' p).getD 0).sum<=(ps.map λp=>(g p).getD 0).sum
 | [],_=>⟨λp hp=>(by cases hp),mZ _⟩
 | p::r,a=>by
  obtain⟨h1,h2⟩:=C2 h r λq hq=>a q (cM _ hq);obtain⟨n,en⟩:=lM.mp (a p bT);obtain⟨m,em,lm⟩:=h p n en;refine⟨λq hq=>?_,?_⟩
  .rcases aT.mp hq with rfl | hq
   .rw [em];rfl
   exact h1 q hq
  rw [bz,bz,j9,j9,en,em];show m+_<=n+_;omega
def tW {g:G}{ru:aA}:jt g ru=true↔∀p∈ru.2,(g p).isSome=true:=by
 unfold jt;rw [fY]
def size_le {g g':G}{ru:aA}(h:Le g' g)(a:jt g ru=true):jt g' ru=true/\aP g' ru<=aP g ru:=by
 obtain⟨h1,h2⟩:=C2 h ru.2 (tW.mp a);exact⟨tW.mpr h1,by unfold aP;omega⟩
def Mq (aa:List aA) (hs:List Str)(g:G):Prop:=∀h n,g h=some n->h∉hs\/∃ru∈aa,ru.1=h/\jt g ru=true/\aP g ru<=n
def CN {aa:List aA}{hs:List Str}(g:G)(ru:aA)(j:Mq aa hs g)(m:ru∈aa)(f:cq bl g ru=true):Mq aa hs (dj g ru.1 (aP g ru)):=λh n e=>by
 have le:=le_step f;by_cases c:h=ru.1
 .have e2:n=aP g ru:=by
   unfold dj at e;rw [ay c] at e;exact(ib e).symm
  obtain⟨a1,a2⟩:=size_le le (xj f).1;exact .inr ⟨ru,m,c.symm,a1,∅⟩
 have e2:g h=some n:=by
  unfold dj at e;rw [av c] at e;exact e
 rcases j h n e2 with h1 | ⟨LQ,m2,q2,a2,l2⟩
 .exact .inl h1
 obtain⟨b1,b2⟩:=size_le le a2;exact .inr ⟨LQ,m2,q2,b1,∅⟩
def BK {aa:List aA}{hs:List Str}{g0 g:G}(j0:Mq aa hs g0)(st:dw bl aa g0 g)(se:gM bl aa g){h:Str}{n:Int}(hh:h∈hs)(e:g h=some n):∃ru∈aa,ru.1=h/\jt g ru=true/\aP g ru=n:=by
 have j:Mq aa hs g:=dw.keep (J:=Mq aa hs) (λg ru j m f=>CN g ru j m f) st j0;rcases j h n e with z | ⟨ru,m,q,a,l⟩
 .exact absurd hh z
 refine⟨ru,m,q,a,?_⟩;have f:=se ru m;unfold cq at f;rw [a,q,e] at f;have f:(true && (!(some n:Option Int).isSome || bl (aP g ru) n))=false:=f
 have f2:¬aP g ru < n:=by simpa [bl] using f
 omega
theorem AD {g:G}(nn:NN g):∀(ps:List Str)(p:Str) (m:Int),p∈ps->g p=some m->m<=(ps.map λp=>(g p).getD 0).sum
 | q::r,p,m,hp,e=>by
  rw [bz,j9];have h1:=i8 g nn r;rcases aT.mp hp with rfl | hp
  .rw [e];show m<=m+_;omega
  have h2:=AD nn r p m hp e;have h3:0<=(g q).getD 0:=by
   cases eq:g q with
   | none=>exact mZ _
   | some n=>exact nn q n eq
  omega
def Bm {g:G}(nn:NN g){ru:aA}{p:Str}{m:Int}(hp:p∈ru.2)(e:g p=some m):m < aP g ru:=by
 have:=AD nn ru.2 p m hp e;unfold aP;omega
theorem zZ:∀(bF ps bB:List Str),(∀z∈bB,z∉bF)->∀z∈pJ bF bB ps,z∉bF
 | _,[],bB,h=>h
 | bF,p::r,bB,h=>by
  show ∀z∈pJ bF (addW bF bB p) r,z∉bF;refine zZ bF r _ ?_;unfold addW
  split
  .exact h
  rename_i hp
  unfold gw
  split
  .exact h
  intro z hz;rcases cN.mp hz with hz | hz
  .exact h z hz
  rw [cJ.mp hz];exact hp
def uP {g:Str->Int}{zs:List Str}(h:zs.Pairwise λx y=>g x<=g y){i:Nat}{x p:Str}(e:zs[i]?=some x)(hp:p∈zs)(l:g p < g x):p∈zs.take i:=by
 obtain⟨j,ej⟩:=kb hp;obtain⟨li,ei⟩:=bR.mp e;obtain⟨lj,ej2⟩:=bR.mp ej;have Wu:j < i:=by
  rcases Nat.lt_trichotomy j i with h1 | h1 | h1
  .exact h1
  .subst h1;rw [e] at ej;cases ej;omega
  have:=List.pairwise_iff_getElem.mp h i j li lj h1;rw [ei,ej2] at this;omega
 rw [List.mem_iff_getElem?];exact⟨j,by rw [List.getElem?_take,ay Wu];exact ej⟩
end M11
namespace fg
open PySem L2 M11
def QP (aa:List aA):Mq aa (hd aa) (vW aa):=λh n e=>by
 unfold vW at e;by_cases c:h∈pJ (hd aa) [] (aa.flatMap (·.2))
 .exact .inl (zZ _ _ [] (λz hz=>by cases hz) h c)
 rw [av c] at e;cases e
def Y2 (aa:List aA):NN (vW aa):=λh n e=>by
 unfold vW at e;by_cases c:h∈pJ (hd aa) [] (aa.flatMap (·.2))
 .rw [ay c] at e;cases e;exact mZ _
 rw [av c] at e;cases e
def J_ {aa:List aA}{g:G}(st:dw M11.bl aa (vW aa) g):NN g:=dw.keep (J:=NN) (λg ru j m f=>vf j ru) st (Y2 aa)
theorem uI (bF:List Str):∀(ps bB:List Str)(x:Str),(x∈bB\/(x∈ps/\x∉bF))->x∈pJ bF bB ps
 | [],bB,x,h=>by
  rcases h with h | ⟨h,_⟩
  .exact h
  cases h
 | p::r,bB,x,h=>by
  show x∈pJ bF (addW bF bB p) r;apply uI bF r;unfold addW;by_cases c:p∈bF
  .rw [ay c];rcases h with h | ⟨h,n⟩
   .exact .inl h
   rcases aT.mp h with z | z
   .exact absurd (z ▸ c) n
   exact .inr ⟨z,n⟩
  rw [av c];rcases h with h | ⟨h,n⟩
  .exact .inl ((i0 _ _ _).mpr (.inl h))
  rcases aT.mp h with z | z
  .exact .inl ((i0 _ _ _).mpr (.inr z))
  exact .inr ⟨z,n⟩
def Nc:List Stmt->Pos
 | [_,_,_,.For _ (.Call _ _ [⟨_,.Lambda _ _ _ pos,_⟩] _) _ _ _,_]=>pos
 | _=>⟨0,0,0,0⟩
abbrev posB:Pos:=Nc (bV l_)
abbrev FI:Str := "least_by_part" ++ ".<locals>." ++ "<lambda>"
section
def nU (K:aY)(T1 T3:Addr):Sp:=λvs H Q _=>∃(R:Addr)(rs:List Addr)(aa:List aA),vs=[.ref R]/\aH K H R (rs.map V.ref)/\bq K H rs aa/\aa.length < 64/\(∀ru∈aa,ru.2.length<=8)/\(∀g,dw M11.bl aa (vW aa) g->gM M11.bl aa g->∀h∈hd aa,∃n,g h=some n/\n<=60)/\Tab T1 qN.2.2.2 xX H/\Tab T3 posB FI H/\T1≠T3 /\
 ∀(d:Addr)(kvs:List (aN×V))(H':Hp),H d=none->kr T1 T3 H H'->Tab T1 qN.2.2.2 xX H'->Tab T3 posB FI H'->H' d=some (.dK kvs)->(∀z,z∈hd aa->(Sum.inr z:aN)∈kvs.map (·.1))->Q (.ref d) H'
structure LB (K:aY)(rs:List Addr)(aa:List aA)(pR:List (aN×V))(ps:List (Str×Addr))(R dz dn T1 T3:Addr)(H5:Hp):Prop where
 hR:aH K H5 R (rs.map V.ref)
 cy:bq K H5 rs aa
 nm:FV ps (λn=>nums aa n aa.length) H5 dn
 rz:Rd H5 dz (.dK pR)
 t1:Tab T1 qN.2.2.2 xX H5
 t3:Tab T3 posB FI H5
theorem LB.same {rs:List Addr}{aa:List aA}{pR:List (aN×V)}{ps:List (Str×Addr)}{R dz dn T1 T3:Addr}{H5 H6:Hp}(h:LB K rs aa pR ps R dz dn T1 T3 H5)(s:aD H5 H6):LB K rs aa pR ps R dz dn T1 T3 H6 :=
 ⟨s.seq h.hR,h.cy.same s,h.nm.same s,fg.Rd.same h.rz s,h.t1.same s,h.t3.same s⟩
def LB.Ip {rs:List Addr}{aa:List aA}{pR:List (aN×V)}{ps:List (Str×Addr)}{R dz dn T1 T3 d:Addr}{H5 H6:Hp}{kv:List (aN×V)}(h:LB K rs aa pR ps R dz dn T1 T3 H5)(e:H5 d=some (.dK kv))(n1:dn≠d)(n2:dz≠d)(s:eX d H5 H6):LB K rs aa pR ps R dz dn T1 T3 H6:=by
 have tk:∀a xs,bj K H5 a xs->bj K H6 a xs:=λa xs z=>by
  rcases z with (z | ⟨u,z⟩) | z
  .exact .inl (.inl (s _ _ (λy=>by rw [y,e] at z;cases z) z))
  .exact .inl (.inr ⟨u,s _ _ (λy=>by rw [y,e] at z;cases z) z⟩)
  exact .inr z
 have tb:∀{T':Addr}{pos':Pos}{FH:Str},Tab T' pos' FH H5->Tab T' pos' FH H6:=λ{T' pos' FH} ⟨p,a,b,cc⟩=>⟨p,s _ _ (λy=>by rw [y,e] at a;cases a) a,b,cc.imp id λ⟨c',e1,e2⟩=>⟨c',e1,s _ _ (λy=>by rw [y,e] at e2;cases e2) e2⟩⟩;refine⟨?_,h.cy.keep tk,⟨s _ _ n1 h.nm.hd,h.nm.n1,h.nm.n2,λp hp=>s _ _ (λy=>by have a:=h.nm.lst p hp;rw [y,e] at a;cases a) (h.nm.lst p hp)⟩,?_,tb h.t1,tb h.t3⟩
 .rcases h.hR with (z | ⟨u,z⟩) | z
  .exact .inl (.inl (s _ _ (λy=>by rw [y,e] at z;cases z) z))
  .exact .inl (.inr ⟨u,s _ _ (λy=>by rw [y,e] at z;cases z) z⟩)
  exact .inr z
 rcases h.rz with z | ⟨u,z⟩
 .exact .inl (s _ _ n2 z)
 exact .inr ⟨u,s _ _ n2 z⟩
def LB.M4 {rs:List Addr}{aa:List aA}{pR:List (aN×V)}{ps:List (Str×Addr)}{R dz dn T1 T3:Addr}{H5 H6:Hp}(h:LB K rs aa pR ps R dz dn T1 T3 H5)(nT:T1≠T3)(s:eX T3 H5 H6)(t:Tab T3 posB FI H6):LB K rs aa pR ps R dz dn T1 T3 H6:=by
 obtain⟨pt,eT,_⟩:=id h.t3;refine⟨As s h.t3 h.hR,h.cy.keep λ_ _ z=>z5 s h.t3 z,⟨s _ _ (λy=>by have a:=h.nm.hd;rw [y,eT] at a;cases a) h.nm.hd,h.nm.n1,h.nm.n2,λp hp=>s _ _ (λy=>by have a:=h.nm.lst p hp;rw [y,eT] at a;cases a) (h.nm.lst p hp)⟩,?_,z7 s h.t3 h.t1 nT,t⟩;rcases h.rz with z | ⟨u,z⟩
 .exact .inl (s _ _ (λy=>by rw [y,eT] at z;cases z) z)
 exact .inr ⟨u,s _ _ (λy=>by rw [y,eT] at z;cases z) z⟩
theorem om:∀(hs:List Str)(bB:List (aN×V)) (as:List Str),bB.map (·.1)=as.map Sum.inr->(cO (hs.map λh=>((Sum.inr h:aN),V.str h)) bB).map (·.1)=(M11.vG as hs).map Sum.inr
 | [],bB,as,e=>e
 | h::r,bB,as,e=>om r (bE bB (Sum.inr h) (.str h)) (M11.gw as h) (fg.jM e h)
def gN:aM ["rules","numbers","trees","name","least","sizes"] ["rules"] (ax l_):=i5 rfl rfl rfl rfl nofun
def yY {T1 T3:Addr}(F:xO K "least_by_part" "least_by_part" l_ f fd T3)(T:Txt mg)(hB:rN mg base)(hS:mg "sorted"=none)(GH:aG P w K mg base 3 "heads_of" ["rules"] (jR K))(GL:aG P w K mg base 3 "least_sizes" ["rules"] (pM K T1))(GN:aG P w K mg base 3 "numbers_by_name" ["rules"] (C9 K))(GZ:aG P w K mg base 3 "rule_size" ["sizes","rule"] (qz K)):bA P w K mg base e_ 4 f fd ["rules"] (nU K T1 T3):=by
 refine F.ok gN (λvs H Q E h=>?_) (λc A outer s H vs Q E hC hr h=>?_)
 .obtain⟨R,rs,aa,rfl,_⟩:=h;rfl
 obtain⟨R,rs,aa,rfl,hR,cy,bI,h8,EG,Hk,TC,nT,q⟩:=h;have hu:=gq hr;refine⟨_,ao (aI (i:=5) gN.nd rfl (Or.inr rfl) (bp GL hr rfl (ae (pv 0) ak)))
  (ao (aI (i:=1) gN.nd rfl (Or.inr rfl) (bp GN hr rfl (ae (pv 0) ak)))
  (ao (aI (i:=2) gN.nd rfl (Or.inr rfl) (a_ (dI rfl) rfl T.vY eV (ae (bY ["part"] [(1,"numbers")] rfl (Az (pv 5)) (bL rfl rfl) nofun rfl nofun
    (λ_ _ _ _ _=>az (i:=0) (show (["part","numbers"]:List Str).Nodup by decide +kernel) rfl (bO rfl)) (λ_ _ _ _ _=>gI (eI (du hu (pv 0) (pv 1)))) (λ_ _ _ _ _=>bS (ae (pv 0) (ae (pv 0) ak)))) ak)))
  (ao (cD cU rfl (bK (DB (i:=5) (T:=T3) hr rfl hC hB rfl hS (ae (bp GH hr rfl (ae (pv 0) ak)) ak) rfl rfl (λy hy=>by
    rcases aT.mp hy with h | h
    .cases h
    rcases aT.mp h with h | h
    .cases h;rfl
    cases h) (λq cl pm fk c' us hl=>match us,hl with | [_],_=>rfl) rfl rfl rfl nofun rfl rfl)) (az (i:=3) gN.nd rfl (Or.inr rfl))
   (ao (ik (iy:=4) ["number"] [(5,"sizes"),(0,"rules"),(3,"name")] gN.nd rfl rfl rfl (bK (eh hu (pv 1) (pv 3) (λ_ _=>rfl))) (bL rfl rfl) nofun rfl nofun
    (λ_ _ _ _ _=>az (i:=0) (show (["number","sizes","rules","name"]:List Str).Nodup by decide +kernel) rfl (bO rfl)) (λ_ _ _ _ _=>gI (bJ iS (bp GZ hr rfl (ae (pv 1) (ae (aQ (Ex K) (pv 2) (pv 0) (λ_ _=>rfl)) ak))) (eh hu (pv 1) (pv 3) (λ_ _=>rfl)) (bX _))) (λ_ _ _ _ _=>pv 0))
   (au (il hu (pv 2) (pv 3) (bS (ae (aQ aL (pv 4) ar (λ_ _=>rfl)) (ae (a_ eU rfl T.tup qp (ae (bY ["part"] [(2,"trees")] rfl (iB (aQ cK (aQ aL (pv 0) (aQ aL (pv 4) ar (λ_ _=>rfl)) (λ_ _=>rfl)) ar (λ_ _=>rfl))) (bL rfl rfl) nofun rfl nofun
    (λ_ _ _ _ _=>az (i:=0) (show (["part","trees"]:List Str).Nodup by decide +kernel) rfl (bO rfl)) (λ_ _ _ _ _=>cP) (λ_ _ _ _ _=>eh hu (pv 1) (pv 0) (λ_ _=>rfl))) ak)) ak))) rfl))))
  (au (aW (pv 2)))))),?_⟩
 nofun
 refine⟨_,rfl,R,rs,aa,rfl,hR,cy,∅,h8,Hk,λdz pR Im g H1 fz s1 t1 ez kz vz Pz VD lz=>?_⟩;refine goN ?_
 ac_rfl
 have WJ:=As s1 Hk hR;have N3:=cy.keep λ_ _ z=>z5 s1 Hk z;have Vu:=z7 s1 Hk TC (cZ nT);refine⟨_,rfl,R,rs,aa,rfl,WJ,N3,∅,λdn ps H2 fn s2 nm pk pf=>?_⟩;refine goN ?_
 ac_rfl
 have Mf:=s2 _ _ ez;refine⟨_,rfl,dz,pR,rfl,Mf,λo D hD=>?_⟩;have RH:∀p∈ps,p.2≠dz:=λp hp z=>by
  have a:=nm.lst p hp;rw [z,Mf] at a;cases a
 have Za:dn≠dz:=λz=>by rw [z,ez] at fn;cases fn
 have Y0:T1≠dz:=λz=>by
  obtain⟨p,a,_⟩:=t1;rw [z,ez] at a;cases a
 have YZ:T3≠dz:=λz=>by
  obtain⟨p,a,_⟩:=Vu;rw [z,ez] at a;cases a
 have MC:∀{T':Addr}{pos':Pos}{FH:Str},T'≠dz->Tab T' pos' FH H2->Tab T' pos' FH (upd H2 dz (.ju o (.dK pR))):=λ{T' pos' FH} n ⟨p,a,b,cc⟩=>⟨p,by rw [aj n];exact a,b,cc.imp id λ⟨c',e1,e2⟩=>⟨c',e1,by rw [aj (λz=>by rw [z,Mf] at e2;cases e2)];exact e2⟩⟩;have L3:LB K rs aa pR ps R dz dn T1 T3 (upd H2 dz (.ju o (.dK pR))):=by
  refine⟨?_,(N3.same s2).keep λ_ _ z=>gh Mf z,⟨by rw [aj Za];exact nm.hd,nm.n1,nm.n2,λp hp=>by rw [aj (RH p hp)];exact nm.lst p hp⟩,.inr ⟨o,af⟩,MC Y0 (t1.same s2),MC YZ (Vu.same s2)⟩;rcases s2.seq WJ with (h | ⟨u,h⟩) | h
  .exact .inl (.inl (by rw [aj (λz=>by rw [z,Mf] at h;cases h)];exact h))
  .exact .inl (.inr ⟨u,by rw [aj (λz=>by rw [z,Mf] at h;cases h)];exact h⟩)
  exact .inr h
 have e3:upd H2 dz (.ju o (.dK pR)) dz=some (.ju o (.dK pR)):=af;have FE:kr T1 T3 H (upd H2 dz (.ju o (.dK pR))):=λb u n1 n3 hb=>by
  rw [aj (λz=>by rw [z,fz] at hb;cases hb)];exact s2 _ _ (s1 b u n1 hb)
 generalize upd H2 dz (.ju o (.dK pR))=H3 at hD L3 e3 FE ⊢;have ZH:pR.length=Im.length:=by
  have:=congrArg List.length kz;rwa [aC,aC] at this
 refine rA (λi ys σ2 H4=>∃ts:List Addr,ys=ts.map V.ref/\(∃y0,σ2=[y0,bG dn])/\aD H3 H4/\H4 D=some (.lst ys)/\ts.length<=i/\Paired (λt h=>bj K H4 t [.str h,.str h]) ts ((Im.take i).filter λz=>!decide (z∈hd aa)))
  ⟨[],rfl,⟨none,rfl⟩,ah hD _,af,aK _,.nil⟩ (λi ys σ2 H4 _ h=>?_) (λi kv ys σ2 H4 ex h=>?_) (λys σ2 H4 h=>?_)
 .obtain⟨_,_,_,sm,_⟩:=h;exact sm _ _ e3
 .obtain⟨ts,rfl,⟨y0,rfl⟩,sm,e4,PQ,pt⟩:=h;obtain⟨z,Qf,ekz⟩:∃z,Im[i]?=some z/\kv.1=Sum.inr z:=by
   have a1:(pR.map (·.1))[i]?=some kv.1:=by rw [bH,ex];rfl
   rw [kz,bH] at a1;obtain⟨z,a2,a3⟩:=cf.mp a1;exact⟨z,a2,a3.symm⟩
  rw [ekz];have L4:=L3.same sm;have P4:(bh (ps.map i3) (Sum.inr z)).isSome=decide (z∈hd aa):=by
   rw [iH,dU,decide_eq_true_iff,<-pk];rw [h_];constructor
   .intro h;obtain⟨p,hp,e⟩:=cT.mp h;exact cT.mpr ⟨p,hp,kx e⟩
   intro h;obtain⟨p,hp,e⟩:=cT.mp h;exact cT.mpr ⟨p,hp,congrArg Sum.inr e⟩
  refine goN ?_;refine⟨_,rfl,_,rfl,dn,_,rfl,cu.k (k:=Sum.inr z) L4.nm.hd,_,rfl,?_⟩;rw [P4];have OH:((Im.take (i+1)).filter λz=>!decide (z∈hd aa))=((Im.take i).filter λz=>!decide (z∈hd aa))++(if (!decide (z∈hd aa))=true then [z] else []):=by
   rw [di,Qf,lK]
   congr 1
   by_cases c:z∈hd aa <;> simp [c]
  refine c_ (λcc=>?_) (λcc=>?_)
  .refine⟨_,rfl,_,rfl,kc,λt ht=>?_⟩;have k5:=ah ht (.tup [kV (Sum.inr z),kV (Sum.inr z)]);have v5:bj K (upd H4 t (.tup [kV (Sum.inr z),kV (Sum.inr z)])) t [.str z,.str z]:=bj.of af;generalize upd H4 t (.tup [kV (Sum.inr z),kV (Sum.inr z)])=H5 at k5 v5;have li:=(bR.mp ex).1;have e5:=k5 _ _ e4;refine⟨e5,bW (by rw [aC];omega),ts++[t],by rw [bu];rfl,⟨_,rfl⟩,λb u hb=>?_,af,by rw [bZ,qm];omega,?_⟩
   .rw [aj (λz=>by rw [z,hD] at hb;cases hb)];exact k5 _ _ (sm b u hb)
   rw [OH,ay cc];exact fJ (Paired.gA pt λ_ _ z=>ba e5 (k5.tup z)) (ba e5 v5)
  refine⟨ts,rfl,⟨_,rfl⟩,sm,e4,∅,?_⟩;rw [OH,av cc,dD];exact pt
 obtain⟨ts,rfl,_,s4,e4,PQ,pt⟩:=h;rw [ZH,de] at pt;have Wb:∀z,z∉hd aa->(g z).isSome=true->z∈Im.filter λz=>!decide (z∈hd aa):=λz hz gz=>by
  refine jk.mpr ⟨?_,by simpa using hz⟩;have a1:(bh pR (Sum.inr z)).isSome=true:=by rw [vz,nK];exact gz
  rw [dU,kz] at a1;exact cR.mp a1
 have Zz:(Im.filter λz=>!decide (z∈hd aa)).length<=20000:=df (lL _ _) ∅;generalize Im.filter (λz=>!decide (z∈hd aa))=ws at pt Wb Zz;have kp:Paired (λt (kv:aN×V)=>bj K H4 t [kV kv.1,kv.2]) ts (ws.map λh=>((Sum.inr h:aN),V.str h)):=cE pt λ_ _ z=>z;refine⟨D,ts,_,rfl,e4,kp,λdt vB=>?_⟩;have kt:∀z∈ws,(Sum.inr z:aN)∈(cO (ws.map λh=>((Sum.inr h:aN),V.str h)) []).map (·.1):=λz hz=>by
  rw [om ws [] [] rfl];exact cR.mpr ((fX ws [] z).mpr (.inr hz))
 have ZI:(cO (ws.map λh=>((Sum.inr h:aN),V.str h)) []).length<=20000:=by
  have a:=congrArg List.length (om ws [] [] rfl);rw [aC,aC] at a;have:=iw ws [];simp only [jw] at this;omega
 generalize cO (ws.map λh=>((Sum.inr h:aN),V.str h)) []=NJ at kt ZI;have s5:=s4.trans (ah vB (.dK NJ));have e5:upd H4 dt (.dK NJ) dt=some (.dK NJ):=af;have IB:H3 dt=none:=s4.free vB;generalize upd H4 dt (.dK NJ)=H5 at s5 e5;have L5:=L3.same s5;refine goN ?_
 ac_rfl
 refine⟨_,rfl,R,rs,aa,rfl,L5.hR,L5.cy,∅,λDH H6 fH s6 eH=>?_⟩;have L6:=L5.same s6;have Kh:=iw (aa.map (·.1)) [];simp only [jw,aC] at Kh;have gz:∀z∈hd aa,∃n,g z=some n:=λz hz=>by
  obtain⟨n,e,_⟩:=EG g Pz VD z hz;exact⟨n,e⟩
 refine⟨L6.t3,DH,hd aa,dz,pR,λz=>(g z).getD 0,rfl,aH.of eH,by unfold hd;omega,rfl,L6.rz,λz hz=>by obtain⟨n,e⟩:=gz z hz;rw [vz,e];show _=some (V.int ((g z).getD 0));rw [e];rfl,λl I0 H7 s7 Yd fl pe pw el=>?_⟩;have L7:=L6.M4 nT s7 Yd;have RN:dt≠T3:=λz=>by
  obtain⟨p,a,_⟩:=L5.t3;rw [<-z,e5] at a;cases a
 have e7:=s7 _ _ RN (s6 _ _ e5);have VU:dn≠dt:=λz=>by have a:=L3.nm.hd;rw [z,IB] at a;cases a
 have VO:dz≠dt:=λz=>by rw [<-z,e3] at IB;cases IB
 have JG:kr T1 T3 H H7:=λb u n1 n3 hb=>s7 _ _ n3 (s6 _ _ (s5 _ _ (FE b u n1 n3 hb)));have RK:l≠dt:=λz=>by rw [z,s6 _ _ e5] at fl;cases fl
 have nn:=J_ Pz;have hlz:I0.length < 64:=by rw [pe.length_eq];unfold hd;omega
 have O3:∀ru∈aa,∀p∈ru.2,(g p).isSome=true:=λru j7 p hp=>by
  by_cases hh:p∈hd aa
  .obtain⟨n,e⟩:=gz p hh;rw [e];rfl
  have j0:∃n,vW aa p=some n:=⟨0,ay (uI _ _ [] p (.inr ⟨kI.mpr ⟨ru,j7,hp⟩,hh⟩))⟩;have:∃n,g p=some n:=dw.keep (J:=λg=>∃n,g p=some n) (λg ru ⟨n,e⟩ m f=>by obtain⟨k,a,_⟩:=le_step f p n e;exact⟨k,a⟩) Pz j0;obtain⟨n,e⟩:=this;rw [e];rfl
 have ll:=bM cy
 let zW:zX:=λi σ H8=>∃(kvs:List (aN×V))(y3 y4:Option V),σ=[bG R,bG dn,bG dt,y3,y4,bG dz]/\eX dt H7 H8/\H8 dt=some (.dK kvs)/\kvs.length<=20000+i/\(∀z∈ws,(Sum.inr z:aN)∈kvs.map (·.1))/\(∀z∈I0.take i,(Sum.inr z:aN)∈kvs.map (·.1))
 refine⟨l,rfl,⟨_,aH.of el⟩,eQ (xs:=I0.map V.str) zW ⟨NJ,_,_,rfl,λ_ _ _ h=>h,e7,∅,kt,λz hz=>by cases hz⟩ ?_ ?_ ?_⟩
 .rintro i σ H8 _ ⟨kvs,y3,y4,rfl,s8,_⟩;exact aH.of (s8 _ _ RK el)
 .rintro i x σ H8 ex ⟨kvs,y3,y4,rfl,s8,e8,R_,Sg,NI⟩
  ac_nf0
  rw [bH] at ex;obtain⟨z,Qg,rfl⟩:=cf.mp ex;have li:=(bR.mp Qg).1;have hz:z∈hd aa:=pe.mem_iff.mp (bQ Qg);obtain⟨n,Uh⟩:=gz z hz;have L8:=L7.Ip e7 VU VO s8;obtain⟨p,hp,SN⟩:=cT.mp (show z∈ps.map (·.1) by rw [pk];exact hz);refine goN ?_
  ac_rfl
  have hgn:cu H8 dn (.str z) (some (.ref p.2)):=by
   have:=cu.k (k:=Sum.inr z) L8.nm.hd;rw [<-SN,fN ps L8.nm.n1 p hp] at this;rw [SN] at this;exact this
  have P1:=L8.nm.lst p hp;have P1:H8 p.2=some (.lst ((nums aa z aa.length).map V.int)):=by rw [<-SN];exact P1
  have numOf:∀(m:Nat) (v:Int),(nums aa z aa.length)[m]?=some v->∃(j:Nat)(ru:aA),v=(j:Int)/\aa[j]?=some ru/\ru.1=z:=λm v e=>by
   unfold nums at e;rw [bH] at e;obtain⟨j,e1,rfl⟩:=cf.mp e;have hj:=(jk.mp (bQ e1)).2;have hj:(aa[j]?.map (·.1))=some z:=d5 hj;obtain⟨ru,e2,e3⟩:=cf.mp hj;exact⟨j,ru,rfl,e2,e3⟩
  have Y5:=wI aa z aa.length
  let good:Int->Bool:=λv=>match aa[v.toNat]? with | some ru=>decide (aP g ru=n) | none=>false
  have wit:∃v∈nums aa z aa.length,good v=true:=by
   obtain⟨ru,j7,q1,_,q3⟩:=BK (QP aa) Pz VD hz Uh;obtain⟨j,ej⟩:=kb j7;have lj:=(bR.mp ej).1;refine⟨(j:Int),cT.mpr ⟨j,jk.mpr ⟨lE.mpr lj,gC (by rw [ej];exact congrArg some q1)⟩,rfl⟩,?_⟩;show (match aa[(j:Int).toNat]? with | some ru=>decide (aP g ru=n) | none=>false)=true
   rw [lJ,ej];exact gC q3
  refine⟨_,rfl,_,rfl,dn,_,rfl,hgn,p.2,rfl,⟨_,aH.of P1⟩,λD9 Iz=>cb (xs:=(nums aa z aa.length).map V.int) (λm ys σ2 H9=>ys=(((nums aa z aa.length).take m).filter good).map V.int/\(∃y0,σ2=[y0,bG dz,bG R,some (.str z)])/\aD H8 H9/\H9 D9=some (.lst ys))
   ⟨rfl,⟨none,rfl⟩,ah Iz _,af⟩ (λm ys σ2 H9 _ h=>?_) (λm x ys σ2 H9 em h=>?_) (λys σ2 H9 h=>?_)⟩
  .obtain⟨_,_,sm,_⟩:=h;exact aH.of (sm _ _ P1)
  .obtain⟨rfl,⟨y0,rfl⟩,sm,e9⟩:=h;rw [bH] at em;obtain⟨v,ev,rfl⟩:=cf.mp em;have lm:=(bR.mp ev).1;obtain⟨j,ru,rfl,ej,Qm⟩:=numOf m v ev;have L9:=L8.same sm;obtain⟨r,er,rv⟩:=Paired.at_ L9.cy j ru ej;have O1:si (rs.map V.ref) (j:Int)=some (.ref r):=dY (by rw [bH,er];rfl);have gj:good (j:Int)=decide (V.int (aP g ru)=V.int n):=by
    show (match aa[(j:Int).toNat]? with | some ru=>decide (aP g ru=n) | none=>false)=_
    rw [lJ,ej];show decide (aP g ru=n)=_;by_cases c:aP g ru=n
    .rw [gC c,gC (congrArg V.int c)]
    rw [eM c,eM (λy=>c (by injection y))]
   refine goN ?_;refine⟨_,rfl,_,rfl,_,rfl,R,_,_,_,rfl,rfl,L9.hR,O1,dz,r,pR,g,ru,rfl,L9.rz,vz,rv,h8 ru (bQ ej),O3 ru (bQ ej),λzY u6=>?_⟩;have hgz:cu zY dz (.str z) (some (.int n)):=by
    have:=cu.r (k:=Sum.inr z) (L9.same u6).rz;rw [vz,Uh] at this;exact this
   refine⟨_,rfl,_,rfl,dz,_,rfl,hgz,rfl,_,rfl,?_⟩;rw [<-gj];have OH:((nums aa z aa.length).take (m+1)).filter good=((nums aa z aa.length).take m).filter good++(if good (j:Int)=true then [(j:Int)] else []):=by
    rw [di,ev,lK]
    congr 1
    show List.filter good [(j:Int)]=_;by_cases c:good (j:Int)=true
    .rw [ay c,nE,ay c,List.filter_nil]
    rw [av c,nE,av c,List.filter_nil]
   have lf:(((nums aa z aa.length).take m).filter good).length<=1000:=df (lL _ _) (by rw [fh];omega);refine c_ (λcc=>?_) (λcc=>?_)
   .refine⟨_,rfl,u6 _ _ e9,bW (by rw [aC];omega),by rw [OH,ay cc,bu];rfl,⟨_,rfl⟩,λb u hb=>?_,af⟩;rw [aj (λz=>by rw [z,Iz] at hb;cases hb)];exact u6 _ _ (sm b u hb)
   exact⟨by rw [OH,av cc,dD],⟨_,rfl⟩,sm.trans u6,u6 _ _ e9⟩
  obtain⟨rfl,_,s9,e9⟩:=h;rw [aC,de] at e9;refine goN ?_
  ac_rfl
  have L9:=L8.same s9;cases hf:(nums aa z aa.length).filter good with
  | nil =>
   obtain⟨v,hv,gv⟩:=wit;have:v∈(nums aa z aa.length).filter good:=jk.mpr ⟨hv,gv⟩;rw [hf] at this;cases this
  | cons v0 vr =>
   rw [hf] at e9;have hm0:v0∈(nums aa z aa.length).filter good:=by rw [hf];exact bT
   obtain⟨hm1,P5⟩:=jk.mp hm0;obtain⟨m0,em0⟩:=kb hm1;obtain⟨j,ru,rfl,ej,Qm⟩:=numOf m0 v0 em0;have hsz:aP g ru=n:=by
    have P5:(match aa[(j:Int).toNat]? with | some ru=>decide (aP g ru=n) | none=>false)=true:=P5
    rw [lJ,ej] at P5;exact d5 P5
   have j7:=bQ ej;obtain⟨r,er,pp,v1,v2⟩:=Paired.at_ L9.cy j ru ej;have O1:si (rs.map V.ref) (j:Int)=some (.ref r):=dY (by rw [bH,er];rfl);have gP:si (V.int (j:Int)::vr.map V.int) 0=some (.int (j:Int)):=dY (j:=0) rfl;have e9:H9 D9=some (.lst (V.int (j:Int)::vr.map V.int)):=e9;have e89:=s9 _ _ e8;have r8:=h8 ru j7;have Sk:∀p∈ru.2,(Sum.inr p:aN)∈kvs.map (·.1):=λy hy=>by
    obtain⟨my,ey⟩:=lM.mp (O3 ru j7 y hy);by_cases hh:y∈hd aa
    .refine NI y (uP pw Qg (pe.mem_iff.mpr hh) ?_);show (g y).getD 0 < (g z).getD 0;rw [ey,Uh];show my < n;rw [<-hsz];exact Bm nn hy ey
    exact Sg y (Wb y hh (by rw [ey];rfl))
   refine⟨_,rfl,D9,_,_,_,rfl,rfl,aH.of e9,gP,_,rfl,_,rfl,D9,_,_,_,rfl,rfl,aH.of e9,gP,R,_,_,_,rfl,rfl,L9.hR,O1,r,_,_,_,rfl,rfl,v1,rfl,pp,rfl,⟨_,v2⟩,λVg TY=>rj (zs:=ru.2) rfl v2 ∅ e89 Sk TY λys zY ly u6 CD=>?_⟩;refine⟨Vg,ys,rfl,.inl ⟨aH.of CD,λt2 T5=>⟨kc,λEg K9=>?_⟩⟩⟩;have PX:=(ah T5 (.tup ys)).trans (ah K9 (.tup [.int (j:Int),.ref t2]));generalize upd (upd zY t2 (.tup ys)) Eg (.tup [.int (j:Int),.ref t2])=Cw at PX;have M8:=(s9.trans u6).trans PX;have FR:=M8 _ _ e8;refine⟨_,rfl,_,rfl,dt,_,rfl,.inl ⟨kvs,Sum.inr z,FR,rfl,bW ∅,rfl⟩,?_⟩;have Er:∀y:aN,(y∈kvs.map (·.1)\/y=Sum.inr z)->y∈(bE kvs (Sum.inr z) (.ref Eg)).map (·.1):=λy hy=>by
    by_cases hk:(Sum.inr z:aN)∈kvs.map (·.1)
    .rw [yS hk];rcases hy with hy | rfl
     .exact hy
     exact hk
    rw [ij hk];rcases hy with hy | rfl
    .exact oO _ hy
    exact fZ _ bT
   have ZF:(bE kvs (Sum.inr z) (.ref Eg)).length<=kvs.length+1:=by
    have a:=congrArg List.length (Eq.refl ((bE kvs (Sum.inr z) (.ref Eg)).map (·.1)));by_cases hk:(Sum.inr z:aN)∈kvs.map (·.1)
    .have b:=congrArg List.length (yS (v:=.ref Eg) hk);rw [aC,aC] at b;omega
    have b:=congrArg List.length (ij (v:=.ref Eg) hk);rw [aC,bZ,aC,qm] at b;omega
   refine⟨_,_,_,rfl,λb u nb hb=>?_,af,∅,λy hy=>Er _ (.inl (Sg y hy)),λy hy=>?_⟩
   .rw [aj nb];exact M8 _ _ (s8 b u nb hb)
   rw [di,Qg] at hy;rcases cN.mp hy with hy | hy
   .exact Er _ (.inl (NI y hy))
   exact Er _ (.inr (by rw [cJ.mp (show y∈[z] from hy)]))
 rintro σ H8 ⟨kvs,y3,y4,rfl,s8,e8,R_,Sg,NI⟩;rw [aC,de] at NI;have L8:=L7.Ip e7 VU VO s8;refine⟨_,rfl,q dt kvs H8 ?_ (λb u n1 n3 hb=>?_) L8.t1 L8.t3 e8 λz hz=>NI z (pe.mem_iff.mpr hz)⟩
 .cases c:H dt with
  | none=>rfl
  | some u =>
   by_cases h1:dt=T1
   .obtain⟨pp,a,_⟩:=L3.t1;rw [<-h1,IB] at a;cases a
   rw [FE dt u h1 RN c] at IB;cases IB
 refine s8 _ _ (λz=>?_) (JG b u n1 n3 hb);rw [z] at hb;rw [FE dt u (λy=>n1 (z.trans y)) RN hb] at IB;cases IB
end
end fg
namespace L2
open PySem PySem.Spec PyProof.Rows
section
variable {prog:Program}{w:World}{A:Around}{E:Value->Shared->Prop}
def uK {h h':Heap}{ks:List aN}{a:Addr}(p:(tupleKind (aX prog w)).is h ks a)(k:∀b o,o.cls=.type "tuple" -> h.get? b=some o->h'.get? b=some o):(tupleKind (aX prog w)).is h' ks a :=
 let ⟨o,aO,n,h1,h2,h3,h4⟩:=p;⟨o,aO,n,k a o h2 h1,h2,h3,h4⟩
def vF {h h':Heap}{d:Addr}{xs:List (List aN×Addr×Value)}(hd:h.DictOfH (tupleKind (aX prog w)) d xs)(kd:∀o,h.get? d=some o->h'.get? d=some o)(k:∀b o,o.cls=.type "tuple" -> h.get? b=some o->h'.get? b=some o) :
  h'.DictOfH (tupleKind (aX prog w)) d xs :=
 let ⟨o,es,ep,q,c,dd,e,is,n⟩:=hd;⟨o,es,ep,kd o q,c,dd,e,λx hx=>uK (is x hx) k,n⟩
def j4 (prog:Program)(w:World)(h:Heap)(u:Value)(kv:List aN×Addr×Value):Prop :=
 ∃t n o,u=.ref t/\(tupleKind (aX prog w)).is h kv.1 kv.2.1/\h.get? t=some o/\o.cls=.type "tuple" /\ o.data=.seq #[.ref kv.2.1,kv.2.2] n
def j4.keep {h h':Heap}{u:Value}{kv:List aN×Addr×Value}(p:j4 prog w h u kv)(k:∀b o,o.cls=.type "tuple" -> h.get? b=some o->h'.get? b=some o):j4 prog w h' u kv :=
 let ⟨t,n,o,a,b,c,d,e⟩:=p;⟨t,n,o,a,uK b k,k t o d c,d,e⟩
def AV (more xs:List (List aN×Addr×Value)):List (List aN×Addr×Value):=more.foldl (λa p=>storedH a p.1 p.2.1 p.2.2) xs
def Hs {R:Result->Shared->Prop}{d it l:Addr}{items:Array Value}(hh:A.handled=none)(hu:A.units+1 < cLine):∀(more:List (List aN×Addr×Value)) (i:Nat)(s:Shared)(kvs:List (List aN×Addr×Value)) (j:Int)(tk:Tok),items.size=i+more.length ->
  s.heap.DictOfH (tupleKind (aX prog w)) d kvs->s.heap.IsListIter it l i->s.heap.IsList l items->(∀m kv,more[m]?=some kv->∃u,items[i+m]?=some u/\j4 prog w s.heap u kv)->kvs.length+more.length<=sizeLine ->
  (∀h' t',h'.DictOfH (tupleKind (aX prog w)) d (AV more kvs)->(∀b o,b≠d->b≠it->s.heap.get? b=some o->h'.get? b=some o)->R (.ok (.ret .none)) { s with heap:=h',toks:=t' }) ->
  codeAny (model prog w) A (.builtin "dict.update.loop" ⟨[.ref d,.ref it,.int j tk,.none],[]⟩) R s:=by
 intro more
 induction more with
 | nil =>
  intro i s kvs j tk hi hd hit hl hp hz hR;refine nq jY ?_;rw [qh d_ _];unfold Builtin.«dict.update.loop»;have hs:items[i]?=none:=Array.getElem?_eq_none (by rw [hi];exact aK _);refine aB (uw hh hit hl hs λh1 eb=>?_);have nd:d≠it:=λz=>by
   obtain⟨o,_,_,q,_,c,_⟩:=hd;obtain⟨o',q',_,c'⟩:=hit;rw [z,q'] at q;cases q;rw [c'] at c;cases c
  have nt:∀b o,o.cls=.type "tuple" -> s.heap.get? b=some o->b≠it:=λb o c q z=>by
   obtain⟨o',q',c',_⟩:=hit;rw [z,q'] at q;cases q;rw [c'] at c;exact absurd c nofun
  show wpAny _ _ (Builtin.Dict.addKeywords d [] >>= _) _ _ _;exact aB (aR (aR (hR h1 s.toks (vF hd (λo q=>eb d o nd q) λb o c q=>eb b o (nt b o c q) q) λb o n1 n2 q=>eb b o n2 q)))
 | cons kv more ih =>
  intro i s kvs j tk hi hd hit hl hp hz hR;refine nq jY ?_;rw [qh d_ _];unfold Builtin.«dict.update.loop»;obtain⟨u,Z5,t,n,o,rfl,hk,ho,hc,vB⟩:=hp 0 kv rfl;refine aB (wpAny_pyNext_list_item hit hl Z5 λh1 Sm sb=>?_);have nd:d≠it:=λz=>by
   obtain⟨o,_,_,q,_,c,_⟩:=hd;obtain⟨o',q',_,c'⟩:=hit;rw [z,q'] at q;cases q;rw [c'] at c;cases c
  have n2:∀b o,(o.cls=.type "tuple" \/ o.cls=.type "list")->s.heap.get? b=some o->b≠d/\b≠it:=by
   intro b o c q;constructor
   .intro z;obtain⟨o',q',c'⟩:=hd.typeIs;rw [z,q'] at q;cases q;rw [c'] at c;rcases c with c | c <;> exact absurd c nofun
   intro z;obtain⟨o',q',c',_⟩:=hit;rw [z,q'] at q;cases q;rw [c'] at c;rcases c with c | c <;> exact absurd c nofun
  have nt:∀b o,o.cls=.type "tuple" -> s.heap.get? b=some o->b≠d/\b≠it:=λb o c q=>n2 b o (.inl c) q;have nl:l≠d/\l≠it:=by
   obtain⟨o,q,c,_⟩:=hl;exact n2 l o (.inr c) q
  have Si:∀b o,o.cls=.type "tuple" -> s.heap.get? b=some o->h1.get? b=some o:=λb o c q=>(sb.2 b (nt b o c q).2).trans q;have N9:h1.get? t=some o:=Si t o hc ho;have Tr:h1.DictOfH (tupleKind (aX prog w)) d kvs:=vF hd (λo q=>(sb.2 d nd).trans q) Si;refine aB (gR (aB (wpAny_tryCatch ?_)));unfold Builtin.Dict.pairItems;refine aB (ky (T := "tuple") ⟨o,N9,hc⟩ ?_);rw [ay nofun];refine aB (p6 N9 vB (aR ?_));show wpAny _ _ (holding [.ref kv.2.1,kv.2.2] (dictSet d (.ref kv.2.1) kv.2.2)) _ _ _;rw [cH] at hz hi;refine gR (wpAny_dictSet_heap (s:={ s with heap:=h1 }) (nI hu) (uK hk Si) Tr (λh2 hd2 M6=>?_) ∅);have kk:∀b o,b≠d->b≠it->s.heap.get? b=some o->h2.get? b=some o:=λb o n1 n2 q=>(M6.2 b n1).trans ((sb.2 b n2).trans q);have ln:(storedH kvs kv.1 kv.2.1 kv.2.2).length<=kvs.length+1:=by
   unfold storedH
   split
   .simp
   simp
  refine aR ⟨m_ d_ _,ih (i+1) _ _ _ _ ∅ hd2 (Sm.at λo q=>(M6.2 it (cZ nd)).trans q) (hl.at λo q=>kk l o nl.1 nl.2 q) (λm Sh e=>?_) ∅ λh3 t3 iD k3=>?_⟩
  .obtain⟨u',e1,e2⟩:=hp (m+1) Sh e;exact⟨u',by rw [<-e1];congr 1;omega,e2.keep λb o c q=>kk b o (nt b o c q).1 (nt b o c q).2 q⟩
  exact hR h3 t3 iD λb o n1 n2 q=>k3 b o n1 n2 (kk b o n1 n2 q)
def pG {s:Shared}{l:Addr}{items:Array Value}{n:Nat}{more:List (List aN×Addr×Value)}{Q:Value->Shared->Prop}(hh:A.handled=none)(hu:A.units+2 < cLine)(hx:s.heap.get? l=some { cls:=.type "list",data:=.seq items n })
  (hi:items.size=more.length)(hp:∀(m:Nat) kv,more[m]?=some kv->∃u,items[m]?=some u/\j4 prog w s.heap u kv)(hz:more.length<=sizeLine)
  (h:∀h' t',h'.DictOfH (tupleKind (aX prog w)) s.heap.objs.size (AV more [])->(∀b o,s.heap.get? b=some o->h'.get? b=some o)->Q (.ref s.heap.objs.size) { s with heap:=h',toks:=t' }) :
  wpAny (model prog w) A (call (.type "dict") [.ref l]) Q E s:=by
 refine callType_codes (Q₁:=λobj s₁=>obj=.ref s.heap.objs.size/\s₁={ s with heap:=s.heap.push { cls:=.type "dict",data:=.dict #[] } }) F.kt_called_dict (F.kt_typeCall_dict_1 _) F.entry_dict_init (kt_code_dict_new _ ⟨rfl,rfl⟩) ?_;rintro obj s₁ ⟨rfl,rfl⟩;have zg:(s.heap.push { cls:=.type "dict",data:=.dict #[] }).DictOfH (tupleKind (aX prog w)) s.heap.objs.size []:=Heap.DictOfH.new s.heap;have l0:=bC { cls:=.type "dict",data:=.dict #[] } hx;refine⟨zg.typeIs,F.args_dict_init_2 _ _,?_⟩;unfold Builtin.«dict.__init__» Builtin.Dict.selfAndRest;refine aB (aB (wpAny_notOrdered_dict zg.typeIs (aR ?_)));show wpAny _ _ (Builtin.Dict.updateFrom "dict.__init__" s.heap.objs.size (.ref l) [] .none) _ _ _;unfold Builtin.Dict.updateFrom;refine aB (ky (T := "list") ⟨_,l0,rfl⟩ ?_);rw [ay yr];refine aB (oj l0 hh λh1 t1 k1=>?_);refine aB (wpAny_rule ?_);have l1:=k1 _ _ l0;refine aB (j_ ⟨_,l1,rfl,_,rfl⟩ ?_);have k2:∀b o,s.heap.get? b=some o->(h1.push { cls:=.type "list_iterator",data:=.fields #[.ref l,.int 0 0] }).get? b=some o:=λb o q=>bC _ (k1 _ _ (bC _ q));refine aR ⟨m_ d_ _,Hs (A:=A.in1) (l:=l) (items:=items) (show A.in1.handled=none from hh) (show A.in1.units+1 < cLine by rw [Around.in1_units];omega) more 0 _ [] _ _ (by rw [hi,kC]) ?_ ⟨_,cI _ rfl,rfl,rfl⟩ ⟨_,k2 _ _ hx,rfl,n,rfl⟩ (λm kv e=>?_) (by simpa using hz) λh' t' hd k3=>?_⟩
 .exact vF zg (λo q=>bC _ (k1 _ _ q)) λb o _ q=>bC _ (k1 _ _ q)
 .obtain⟨u,e1,e2⟩:=hp m kv e;exact⟨u,by rw [kC];exact e1,e2.keep λb o _ q=>k2 b o q⟩
 refine⟨rfl,h h' t' hd λb o q=>k3 b o (bx (aS q)) ?_ (k2 b o q)⟩;have:=aS (k1 _ _ (bC { cls:=.type "dict",data:=.dict #[] } q));exact bx this
end
def mP (kvs bB:List (List aN×V)):List (List aN×V):=kvs.foldl (λa p=>bE a p.1 p.2) bB
theorem tM {H:Hp}:∀{kvs:List (List aN×V)}{vs:List (List aN×Addr×Value)}{bB:List (List aN×V)}{Fg:List (List aN×Addr×Value)},KT H kvs vs->KT H bB Fg->KT H (mP kvs bB) (AV vs Fg)
 | _,_,_,_,.nil,h=>h
 | _,_,_,_,.cons (a:=p) (b:=q) r t,h=>by
  obtain⟨e,hb,rv⟩:=r;show KT H (mP _ (bE _ p.1 p.2)) (AV _ (storedH _ q.1 q.2.1 q.2.2));rw [<-e];exact tM t (h.put p.1 hb rv)
theorem tN:∀(kvs bB:List (List aN×V)),(mP kvs bB).length<=bB.length+kvs.length
 | [],bB=>by simp [mP]
 | p::r,bB=>by
  have:=tN r (bE bB p.1 p.2);have:=d8 bB p.1 p.2;show (mP r (bE bB p.1 p.2)).length<=_;rw [cH];omega
section
variable {X:Cx}{ai:List (Addr×Obj)}{σ:St}{H:Hp}{s:Shared}
abbrev Ms (K:aY)(H:Hp)(t:Addr)(kv:List aN×V):Prop:=∃b,bj K H t [.ref b,kv.2]/\H b=some (.tup (kv.1.map kV))
theorem sW (I:Inv X ai σ H s):∀{ts:List Addr}{kvs:List (List aN×V)}{aO:List Value},Paired (Ms X.K H) ts kvs->aU (ts.map V.ref) aO ->
  ∃vs:List (List aN×Addr×Value),KT H kvs vs/\Paired (λu kv=>j4 X.prog X.w s.heap u kv) aO vs
 | [],_,_,.nil,r=>by
  rw [iz] at r;cases r;exact⟨[],.nil,.nil⟩
 | t::ts,kv::kvs,_,.cons h p,r=>by
  rw [bz] at r;cases r with
  | cons r1 r2 =>
   obtain⟨vs,e1,e2⟩:=sW I p r2;obtain⟨b,h0,hb⟩:=h;obtain⟨aO,rv,⟨o,h1,h2,n,h3⟩,_⟩:=I.tuple h0;obtain⟨u1,u2,rfl,q1,q2⟩:=vals2 rv;cases (show u1=Value.ref b from q1);exact⟨(kv.1,b,u2)::vs,.cons ⟨rfl,hb,q2⟩ e1,.cons ⟨t,n,o,r1,kX I.bD hb,h1,h2,h3⟩ e2⟩
def xE (hc:X.calm=true)(hu:X.A.units+2 < cLine):dZ X (.type "dict") (λxs H Q=>∃a ts kvs,xs=[.ref a]/\H a=some (.lst (ts.map V.ref))/\Paired (Ms X.K H) ts kvs/\∀d,H d=none->Q (.ref d) (upd H d (.dT (mP kvs [])))):=by
 intro ai s σ H xs us Q I r h;obtain⟨a,ts,kvs,rfl,e,p,q⟩:=h;obtain⟨u,rfl,rx⟩:=vals1 r;cases (show u=Value.ref a from rx);obtain⟨z,aO,n,rv,ho⟩:=(show bU X.prog X.w H s.heap a (.lst _) from I.bD a _ e);obtain⟨vs,r1,r2⟩:=sW I p rv;have l1:=bM r2;have l2:=bM r1;have l3:=bM p;rw [aC] at z;refine pG (I.ok.hd hc) hu ho (by simpa using l1) (λm kv em=>?_) ∅ λh' t' hd kk=>?_
 .obtain⟨u,e1,e2⟩:=Paired.at_ r2 m kv em;exact⟨u,by simpa using e1,e2⟩
 have fr:=I.bD.fresh (aK s.heap.objs.size);have new:bU X.prog X.w (upd H s.heap.objs.size (.dT (mP kvs []))) h' s.heap.objs.size (.dT (mP kvs [])):=by
  obtain⟨o,es,ep,hq,h2,h3,h4,_,h5⟩:=hd;refine⟨?_,?_,_,(tM r1 .nil).keeps λc ys ec=>?_,o,es,ep,hq,h2,h3,h4,h5⟩
  .have:=tN kvs [];simp at this;omega
  .have:=I.big;exact iJ.mpr (iF this)
  rw [aj (aq ec fr)];exact ec
 exact⟨.ref s.heap.objs.size,_,I.laid (t':=t') kk (aK _) new,rfl,q _ fr⟩
end
open PySem M11
def Cc {K:aY}{H:Hp}{bg D:Addr}{ts:List Addr}{cz:List Be}{σ:St}{x1 x2 x3 x4:Str}{Qp:Hp->Prop}(hb:aH K H bg (ts.map V.ref))(L_:Paired (λt (b:Be)=>bj K H t [.str b.1,.str b.2.1,.int (b.2.2.1:Int),.int (b.2.2.2:Int)]) ts cz)(bI:cz.length<=900000)(hD:H D=none)
  (q:∀us H2,aD H H2->H2 D=some (.lst (us.map V.ref))->Paired (λu (b:Be)=>∃v,Ms K H2 u ([Sum.inr b.1,Sum.inr b.2.1],.ref v)) us cz->Qp H2) :
  ∃W:Nat->Nat->List V->St->Hp->Prop,(∃m,W 0 m [] (eE [x1,x2,x3,x4] [] σ) (upd H D (.lst []))) /\
 ∀i m ys σ' H,W i m ys σ' H->((ku K bg).stop i H/\Qp H)\/((ku K bg).go i H/\∃m',m' < m/\∀x H',(ku K bg).nO i H x H'->B1 K 4 (jN (dX 0) (jN (dX 1) (jN (dX 2) (jN (dX 3) ES)))) x σ' H' λσ2 H2=>iO σ2 H2 λb H3 =>
  if b=true then rR (fq (rR (fq (fE 0) (fq (fE 1) qv))) (fq (rR (fq (fE 2) (fq (fE 3) qv))) qv)) σ2 H3 λy H4=>H4 D=some (.lst ys)/\ys.length < sizeLine/\W (i+1) m' (ys++[y]) σ2 (upd H4 D (.lst (ys++[y]))) else W (i+1) m' ys σ2 H3):=by
 have ll:=bM L_;refine cb (xs:=ts.map V.ref) (λi ys σ2 H2=>∃us:List Addr,ys=us.map V.ref/\us.length=i/\Paired (λu (b:Be)=>∃v,Ms K H2 u ([Sum.inr b.1,Sum.inr b.2.1],.ref v)) us (cz.take i)/\(∃y0 y1 y2 y3,σ2=[y0,y1,y2,y3])/\aD H H2/\H2 D=some (.lst ys))
  ⟨[],rfl,rfl,.nil,⟨none,none,none,none,rfl⟩,ah hD _,af⟩ (λi ys σ2 H2 _ h=>?_) (λi x ys σ2 H2 ex h=>?_) (λys σ2 H2 h=>?_)
 .obtain⟨_,_,_,_,_,sm,_⟩:=h;exact sm.seq hb
 .obtain⟨us,rfl,hu,hp,⟨y0,y1,y2,y3,rfl⟩,sm,hd⟩:=h;rw [bH] at ex;obtain⟨r,er,rfl⟩:=cf.mp ex;have lr:=(bR.mp er).1;obtain⟨b,e1⟩:∃b,cz[i]?=some b:=⟨cz[i]'∅,eG ∅⟩;obtain⟨r',IE,v1⟩:=Paired.at_ L_ i b e1;rw [er] at IE;cases IE;have li:=(bR.mp e1).1;refine⟨r,_,rfl,sm.tup v1,rfl,_,_,rfl,_,_,rfl,_,_,rfl,_,_,rfl,rfl,?_⟩;refine zD ?_;refine⟨_,rfl,_,rfl,kc,λk hk=>⟨_,rfl,_,rfl,kc,λv hv=>⟨kc,λu We=>?_⟩⟩⟩;have s3:=(ah hk (.tup [V.str b.1,V.str b.2.1])).trans ((ah hv (.tup [V.int (b.2.2.1:Int),V.int (b.2.2.2:Int)])).trans (ah We (.tup [.ref k,.ref v])));have ek:=((ah hv (.tup [V.int (b.2.2.1:Int),V.int (b.2.2.2:Int)])).trans (ah We (.tup [.ref k,.ref v]))) k _ af;have eu:bj K (upd (upd (upd H2 k (.tup [V.str b.1,V.str b.2.1])) v (.tup [V.int (b.2.2.1:Int),V.int (b.2.2.2:Int)])) u (.tup [.ref k,.ref v])) u [.ref k,.ref v]:=bj.of af;generalize upd (upd (upd H2 k (.tup [V.str b.1,V.str b.2.1])) v (.tup [V.int (b.2.2.1:Int),V.int (b.2.2.2:Int)])) u (.tup [.ref k,.ref v])=H4 at s3 ek eu;have CC:=s3 _ _ hd;refine⟨CC,bW (by rw [aC];omega),us++[u],by rw [bu];rfl,by rw [bZ,hu];rfl,?_,⟨_,_,_,_,rfl⟩,?_,af⟩
  .rw [di,e1];have kD:k≠D:=λz=>by rw [z,CC] at ek;cases ek
   refine fJ (Paired.gA hp λu' b' aV=>?_) ⟨v,k,ba CC eu,by rw [aj kD];exact ek⟩;obtain⟨v',bb,p1,p2⟩:=aV;exact⟨v',bb,ba CC (s3.tup p1),by rw [aj (λz=>by rw [z,hd] at p2;cases p2)];exact s3 _ _ p2⟩
  intro c o hc;rw [aj (λz=>by rw [z,hD] at hc;cases hc)];exact s3 _ _ (sm c o hc)
 obtain⟨us,rfl,hu,hp,_,sm,hd⟩:=h;rw [aC,ll,de] at hp;exact q us H2 sm hd hp
theorem Dy {K:aY}{H:Hp}:∀{us:List Addr}{cz:List Be},Paired (λu (b:Be)=>∃v,Ms K H u ([Sum.inr b.1,Sum.inr b.2.1],.ref v)) us cz->∃kvs,Paired (Ms K H) us kvs
 | _,_,.nil=>⟨[],.nil⟩
 | _,_,.cons ⟨v,h⟩ t=>let ⟨kvs,p⟩:=Dy t;⟨_::kvs,.cons h p⟩
end L2
namespace fg
open PySem L2 M11
def Tab.s2 {T T1 T2:Addr}{p p1 p2:Pos}{q q1 q2:Str}{H H':Hp}(h:Tab T p q H)(s:kr T1 T2 H H')(t1:Tab T1 p1 q1 H)(t2:Tab T2 p2 q2 H)(n1:T≠T1)(n2:T≠T2):Tab T p q H':=by
 obtain⟨ps,a,b,c⟩:=h;obtain⟨Ro,b1,_⟩:=t1;obtain⟨Yx,b2,_⟩:=t2;refine⟨ps,s _ _ n1 n2 a,b,c.imp id ?_⟩;rintro⟨c',e,g⟩;exact⟨c',e,s _ _ (λz=>by rw [z,b1] at g;cases g) (λz=>by rw [z,b2] at g;cases g) g⟩
def jB {T a C dx:Addr}{pos:Pos}{qu:Str}{H:Hp}{fs:List (Str×V)}{o:HO}(h:Tab T pos qu H)(ha:H a=some (.ins C dx fs)):Tab T pos qu (upd H a o):=by
 obtain⟨ps,p,r,c⟩:=h;refine⟨ps,by rw [aj (λz=>by rw [z,ha] at p;cases p)];exact p,r,c.imp id ?_⟩;rintro⟨c',e,g⟩;exact⟨c',e,by rw [aj (λz=>by rw [z,ha] at g;cases g)];exact g⟩
def Kp (H H':Hp):Prop:=∀b o,H b=some o->(∀ps,o≠.rO ps)->H' b=some o
def Kp.trans {H H1 H2:Hp}(a:Kp H H1)(b:Kp H1 H2):Kp H H2:=λc o h n=>b c o (a c o h n) n
def Kp.of {H H':Hp}(s:aD H H'):Kp H H':=λb o h _=>s b o h
def Kp.of2 {T1 T2:Addr}{p1 p2:Pos}{q1 q2:Str}{H H':Hp}(s:kr T1 T2 H H')(t1:Tab T1 p1 q1 H)(t2:Tab T2 p2 q2 H):Kp H H':=λc o hc hn=>by
 obtain⟨Ro,b1,_⟩:=t1;obtain⟨Yx,b2,_⟩:=t2;exact s c o (λz=>by rw [z,b1] at hc;cases hc;exact hn _ rfl) (λz=>by rw [z,b2] at hc;cases hc;exact hn _ rfl) hc
section
theorem Kp.lst {H H':Hp}(k:Kp H H'){a:Addr}{xs:List V}(h:H a=some (.lst xs)):H' a=some (.lst xs):=k a _ h (λ_ z=>by cases z)
def Kp.tup {H H':Hp}(k:Kp H H'){a:Addr}{xs:List V}(h:bj K H a xs):bj K H' a xs:=by
 rcases h with (h | ⟨u,h⟩) | h
 .exact .inl (.inl (k _ _ h (λ_ z=>by cases z)))
 .exact .inl (.inr ⟨u,k _ _ h (λ_ z=>by cases z)⟩)
 exact .inr h
def Kp.seq {H H':Hp}(k:Kp H H'){a:Addr}{xs:List V}(h:aH K H a xs):aH K H' a xs:=by
 rcases h with (h | ⟨u,h⟩) | h
 .exact .inl (.inl (k _ _ h (λ_ z=>by cases z)))
 .exact .inl (.inr ⟨u,k _ _ h (λ_ z=>by cases z)⟩)
 exact .inr h
theorem Kp.aa {H H':Hp}(k:Kp H H'){rs:List Addr}{aa:List aA}(h:bq K H rs aa):bq K H' rs aa:=h.keep λ_ _ z=>k.tup z
abbrev yF:Stmt:=NA Yq 0
structure LC (K:aY)(C:Addr):Prop where
 cls:Cy K C
 a1:cV K C "rules"
 a2:cV K C "empty"
 a3:cV K C "least"
 a4:cV K C "hollow"
 a5:cV K C "beginnings"
structure CK (C3 T1 T3:Addr)(H0 H:Hp)(a dx:Addr)(fs:List (Str×V)):Prop where
 sm:kr T1 T3 H0 H
 ia:H a=some (.ins C3 dx fs)
 fa:H0 a=none
 t1:Tab T1 qN.2.2.2 xX H
 t3:Tab T3 posB FI H
 o1:Tab T1 qN.2.2.2 xX H0
 o3:Tab T3 posB FI H0
def CK.kp {C3 T1 T3 a dx:Addr}{H0 H:Hp}{fs:List (Str×V)}(h:CK C3 T1 T3 H0 H a dx fs):Kp H0 H:=Kp.of2 h.sm h.o1 h.o3
def CK.set {C3 T1 T3 a dx:Addr}{H0 H:Hp}{fs:List (Str×V)}(h:CK C3 T1 T3 H0 H a dx fs)(FP:List (Str×V)):CK C3 T1 T3 H0 (upd H a (.ins C3 dx FP)) a dx FP :=
 ⟨λb o n1 n3 hb=>by rw [aj (λz=>by rw [z,h.fa] at hb;cases hb)];exact h.sm b o n1 n3 hb,af,h.fa,jB h.t1 h.ia,jB h.t3 h.ia,h.o1,h.o3⟩
def CK.next {C3 T1 T3 a dx:Addr}{H0 H H':Hp}{fs:List (Str×V)}(h:CK C3 T1 T3 H0 H a dx fs)(s:aD H H'):CK C3 T1 T3 H0 H' a dx fs :=
 ⟨λb o n1 n3 hb=>s _ _ (h.sm b o n1 n3 hb),s _ _ h.ia,h.fa,h.t1.same s,h.t3.same s,h.o1,h.o3⟩
def CK.Nq {C3 T1 T3 a dx:Addr}{H0 H H':Hp}{fs:List (Str×V)}(h:CK C3 T1 T3 H0 H a dx fs)(s:kr T1 T3 H H')(t1:Tab T1 qN.2.2.2 xX H')(t3:Tab T3 posB FI H'):CK C3 T1 T3 H0 H' a dx fs :=
 ⟨λb o n1 n3 hb=>s _ _ n1 n3 (h.sm b o n1 n3 hb),Kp.of2 s h.t1 h.t3 _ _ h.ia (λ_ z=>by cases z),h.fa,t1,t3,h.o1,h.o3⟩
def Am (K:aY)(C C3 T1 T3:Addr):Sp:=λvs H Q _=>∃(H0 Hb:Hp)(a dx R x e d bg:Addr)(rs:List Addr)(aa:List aA)(kE:List (aN×V))(bc:List (Str×Nat))(ps:List (Str×Addr))(cz:List Be),vs=[.ref a,.ref R,.ref x]/\aD H0 H/\H0 a=none/\H a=some (.ins C3 dx [])/\aH K H0 R (rs.map V.ref)/\bq K H0 rs aa /\
 aa.length < 64/\(∀ru∈aa,ru.2.length<=8)/\(∀g,dw M11.bl aa (vW aa) g->gM M11.bl aa g->∀h∈hd aa,∃n,g h=some n/\n<=60)/\sk K C Hb H0 x e d bg kE bc ps cz/\vP aa bc/\cz.length<=80000/\Tab T1 qN.2.2.2 xX H0/\Tab T3 posB FI H0/\T1≠T3 /\
 ∀H',kr T1 T3 H0 H'->Tab T1 qN.2.2.2 xX H'->Tab T3 posB FI H'->Q .dP H'
def Gg:aM ["self","rules","begin_table"] ["self","rules","begin_table"] (ax yF):=i5 rfl rfl rfl rfl nofun
def DV {C C3 T1 T3:Addr}(F:hU K "__init__" "LeastTrees.__init__" yF f fd)(T:Txt mg)(B:BC K C)(L:LC K C3)(GL:aG P w K mg base 4 "least_by_part" ["rules"] (nU K T1 T3))(GE:aG P w K mg base 4 "empty_by_name" ["rules","empties"] (sO K)) :
  bA P w K mg base e_ 5 f fd ["self","rules","begin_table"] (Am K C C3 T1 T3):=by
 refine F.ok Gg (λvs H Q E h=>?_) (λdG A outer s H vs Q E hr h=>?_)
 .obtain⟨H0,Hb,a,dx,R,x,e,d,bg,rs,aa,kE,bc,ps,cz,rfl,_⟩:=h;rfl
 obtain⟨H0,Hb,a,dx,R,x,e,d,bg,rs,aa,kE,bc,ps,cz,rfl,s0,f0,ea,hR,cy,bI,h8,EG,S,emp,Kl,t1,t3,nT,q⟩:=h;have hu:=oK (Nat.add_le_add_left (by decide:2<=64) _) hr.units;refine⟨_,ao (fu (pv 0) (pv 1) rfl)
  (ao (fu (pv 0) (dQ (pv 2) rfl) rfl)
  (ao (fu (pv 0) (bp GL hr rfl (ae (pv 1) ak)) rfl)
  (ao (fu (pv 0) (bp GE hr rfl (ae (pv 1) (ae (dQ (pv 2) rfl) ak))) rfl)
  (au (fu (pv 0) (a_ (xE rfl hu) rfl T.vY eV (ae (bY ["name","word","number","place"] [] rfl (bK (dQ (pv 2) rfl)) (bL rfl rfl) nofun rfl nofun
   (λ_ _ _ _ _=>iq (n:=4) K rfl (aE (az (i:=0) (show (["name","word","number","place"]:List Str).Nodup by decide +kernel) rfl (bO rfl)) (aE (az (i:=1) (show (["name","word","number","place"]:List Str).Nodup by decide +kernel) rfl (bO rfl)) (aE (az (i:=2) (show (["name","word","number","place"]:List Str).Nodup by decide +kernel) rfl (bO rfl)) (aE (az (i:=3) (show (["name","word","number","place"]:List Str).Nodup by decide +kernel) rfl (bO rfl)) b_))))) (λ_ _ _ _ _=>cP)
   (λ_ _ _ _ _=>bS (ae (bS (ae (pv 0) (ae (pv 1) ak))) (ae (bS (ae (pv 2) (ae (pv 3) ak))) ak)))) ak)) rfl))))),?_⟩
 nofun
 have S0:CK C3 T1 T3 H0 H a dx []:=⟨λb o _ _ hb=>s0 b o hb,ea,f0,t1.same s0,t3.same s0,t1,t3⟩;obtain⟨e1,te,⟨Mn,Mc,Qh,ZL⟩,ee1,evb,_⟩:=S.em;obtain⟨aal,aag,OG,l1,l2,_⟩:=S.ia;rw [Qh] at OG;cases OG;obtain⟨tb,ebg,L_⟩:=S.lb;have lets:=emp.len;refine⟨_,rfl,_,rfl,a,C3,dx,[],rfl,S0.ia,L.cls,L.a1,(by show 0 < 1000;decide),?_⟩;have S1:=S0.set (dq "rules" (.ref R) []);generalize P6:dq "rules" (.ref R) []=Qd at S1;generalize upd H a (.ins C3 dx Qd)=H1 at S1;have x1:H1 x=some (.ins C Mn Mc):=S1.kp _ _ Qh (λ_ z=>by cases z);refine⟨_,rfl,x,C,Mn,Mc,_,rfl,x1,B.cls,B.a2,l1,_,rfl,a,C3,dx,Qd,rfl,S1.ia,L.cls,L.a2,(by rw [<-P6];show 1 < 1000;decide),?_⟩;have S2:=S1.set (dq "empty" (.ref e) Qd);generalize Of:dq "empty" (.ref e) Qd=rZ at S2;generalize upd H1 a (.ins C3 dx rZ)=H2 at S2;refine⟨_,rfl,R,rs,aa,rfl,S2.kp.seq hR,S2.kp.aa cy,bI,h8,EG,S2.t1,S2.t3,nT,λdl kl H3 fdl s3 xV Ye edl kdl=>?_⟩;have S3:=S2.Nq s3 xV Ye;refine⟨_,rfl,a,C3,dx,rZ,rfl,S3.ia,L.cls,L.a3,(by rw [<-Of,<-P6];show 2 < 1000;decide),?_⟩;have S4:=S3.set (dq "least" (.ref dl) rZ);generalize WA:dq "least" (.ref dl) rZ=Md at S4;generalize upd H3 a (.ins C3 dx Md)=H4 at S4;have x4:H4 x=some (.ins C Mn Mc):=S4.kp _ _ Qh (λ_ z=>by cases z);refine⟨_,rfl,_,rfl,x,C,Mn,Mc,_,rfl,x4,B.cls,B.a1,ZL,R,e1,rs,te,aa,bc,rfl,S4.kp.seq hR,S4.kp.aa cy,∅,h8,aH.of (S4.kp.lst ee1),evb.keep λ_ _ z=>S4.kp.tup z,emp,∅,λdh kh H5 fdh s5 edh kdh=>?_⟩;have S5:=S4.next s5;refine⟨_,rfl,a,C3,dx,Md,rfl,S5.ia,L.cls,L.a4,(by rw [<-WA,<-Of,<-P6];show 3 < 1000;decide),?_⟩;have S6:=S5.set (dq "hollow" (.ref dh) Md);generalize hf6:dq "hollow" (.ref dh) Md=x8 at S6;generalize upd H5 a (.ins C3 dx x8)=H6 at S6;have x6:H6 x=some (.ins C Mn Mc):=S6.kp _ _ Qh (λ_ z=>by cases z);have b6:=S6.kp.lst ebg;have v6:Paired (λt (b:Be)=>bj K H6 t [.str b.1,.str b.2.1,.int (b.2.2.1:Int),.int (b.2.2.2:Int)]) tb cz:=Paired.gA L_ λ_ _ z=>S6.kp.tup z;refine⟨_,rfl,x,C,Mn,Mc,_,rfl,x6,B.cls,B.a3,l2,bg,rfl,⟨_,aH.of b6⟩,λD7 TR=>Cc (aH.of b6) v6 ∅ TR λus H7 s7 e7 p7=>?_⟩;obtain⟨kvs,pk⟩:=Dy p7;refine⟨D7,us,kvs,rfl,e7,pk,λdb vC=>?_⟩;have S8:=(S6.next s7).next (ah vC (.dT (mP kvs [])));refine⟨_,rfl,a,C3,dx,x8,rfl,S8.ia,L.cls,L.a5,(by rw [<-hf6,<-WA,<-Of,<-P6];show 4 < 1000;decide),?_⟩;have S9:=S8.set (dq "beginnings" (.ref db) x8);exact q _ S9.sm S9.t1 S9.t3
structure Fy (K:aY)(x qual:Str)(st:Stmt)(f:Addr)(fd:FuncData):Prop where
 ex:∃(oc:Value)(od:Option Addr)(kV doc pm:Value)(an:Option Addr)(dG ct:Value)(vS:Array (Option Value))(T:Addr)(o:Obj) (n:Nat),
  fd=PySem.W.fnOf x qual (cW st) (bV st) (ax st) (.ref T) kV doc pm an dG ct/\K.lookup f=some ⟨oc,od,.func fd,vS⟩/\PySem.W.codeIn K dG qual=true/\K.lookup T=some o/\o.data=.seq #[.none] n
 kp:PySem.W.keepIn K (.ref f)=true
def Fy.ok {x qual:Str}{st:Stmt}{f:Addr}{fd:FuncData}{N ps:List Str}{k:Nat}{sp:Sp}(F:Fy K x qual st f fd)(S:aM N ps (ax st))(len:∀vs H Q E,sp vs H Q E->vs.length=ps.length)
  (g9:∀(dG:Value)(A:Around)(outer:List Env)(s:Shared)(H:Hp)(vs:List V)(Q:VK)(E:XK),dB k (A.deeper (PyProof.Rows.envOfC qual (ax st) s.heap.objs.size f dG))->sp vs H Q E ->
   ∃t,xK (gK e_ P w K mg base N qual (ax st) f dG A outer s H E).Bw (bV st) t/\t { nx:=λ_ H'=>Q .dP H',rt:=Q } (start N vs) H):bA P w K mg base e_ (k+1) f fd ps sp:=by
 obtain⟨oc,od,kV,doc,pm,an,dG,ct,vS,T,o,n,rfl,lk,rX,_⟩:=F.ex;refine AU lk rX S len λA outer s H vs Q E hr px=>?_;obtain⟨t,h,q⟩:=g9 dG A outer s H vs Q E hr px;exact⟨t,h.Bw,q⟩
def EL {f:Addr}{fd:FuncData}(F:Fy K "__init__" "Grammar.__init__" u5 f fd):Binds K fd ["self","rules","strengths"] []:=by
 obtain⟨oc,od,kV,doc,pm,an,dG,ct,vS,T,o,n,rfl,lk,rX,lT,dT⟩:=F.ex;intro s us KI hl
 match us,hl with
 | [u1,u2,u3],_=>exact BindsTo.of_defaults rfl (KI T o lT) dT rfl rfl
structure GC (K:aY)(C:Addr):Prop where
 cls:Cy K C
 a1:cV K C "rules"
 a2:cV K C "strengths"
 a3:cV K C "begin_table"
 a4:cV K C "standings"
 a5:cV K C "small_trees"
def StrIn (K:aY)(H:Hp)(sv:V)(ss:List Addr)(str:List aA):Prop:=(sv=.dP/\ss=[]/\str=[])\/∃S,sv=.ref S/\aH K H S (ss.map V.ref)/\bq K H ss str
def XQ (H0 H:Hp)(Cg g:Addr)(rs ss:List Addr)(bt:Addr):Prop:=∃gx fs R2 S2,H g=some (.ins Cg gx fs)/\fs.lookup ("rules":Str)=some (.ref R2)/\fs.lookup ("strengths":Str)=some (.ref S2)/\fs.lookup ("begin_table":Str)=some (.ref bt)/\fs.lookup ("start":Str)=none /\
 H R2=some (.lst (rs.map V.ref))/\H S2=some (.lst (ss.map V.ref))/\H0 R2=none/\H0 S2=none
def pb (T1 T2 T3:Addr)(H H':Hp):Prop:=∀b o,b≠T1->b≠T2->b≠T3->H b=some o->H' b=some o
structure zT (T1 T2 T3:Addr)(H:Hp):Prop where
 t1:Tab T1 qN.2.2.2 xX H
 t2:Tab T2 zp.2.2.2 Il H
 t3:Tab T3 posB FI H
 Ii:T1≠T2
 Ih:T1≠T3
 Ig:T2≠T3
theorem zT.same {T1 T2 T3:Addr}{H H':Hp}(h:zT T1 T2 T3 H)(s:aD H H'):zT T1 T2 T3 H':=⟨h.t1.same s,h.t2.same s,h.t3.same s,h.Ii,h.Ih,h.Ig⟩
def zT.CY {T1 T2 T3 a C dx:Addr}{H:Hp}{fs:List (Str×V)}{o:HO}(h:zT T1 T2 T3 H)(ha:H a=some (.ins C dx fs)):zT T1 T2 T3 (upd H a o):=⟨jB h.t1 ha,jB h.t2 ha,jB h.t3 ha,h.Ii,h.Ih,h.Ig⟩
def An (K:aY)(Cg C T1 T2 T3:Addr):Sp:=λvs H Q _=>∃(H0:Hp)(g gx R:Addr)(sv:V)(rs ss:List Addr)(aa str:List aA)(rk:Str->Nat)(b:Str->Int),vs=[.ref g,.ref R,sv]/\aD H0 H/\H0 g=none/\H g=some (.ins Cg gx [])/\aH K H0 R (rs.map V.ref)/\bq K H0 rs aa/\aa.length < 64/\(∀ru∈aa,ru.2.length<=8)/\aa≠[] /\
 StrIn K H0 sv ss str/\str.length<=1000/\(∀ru∈str,ru.2.length<=8)/\(str.flatMap (·.2)).Nodup/\Good aa rk b/\zT T1 T2 T3 H0 /\
 ∀(bt:Addr)(H':Hp),pb T1 T2 T3 H0 H'->zT T1 T2 T3 H'->XQ H0 H' Cg g rs ss bt->Q .dP H'
def sk.CY {C:Addr}{H0 H:Hp}{a e d bg:Addr}{kE:List (aN×V)}{bc:List (Str×Nat)}{ps:List (Str×Addr)}{cz:List Be}{g Cg gx:Addr}{fs FP:List (Str×V)}(h:sk K C H0 H a e d bg kE bc ps cz)(hg:H0 g=some (.ins Cg gx fs))(na:a≠g) :
  sk K C (upd H0 g (.ins Cg gx FP)) (upd H g (.ins Cg gx FP)) a e d bg kE bc ps cz:=by
 have Hf:=h.sm _ _ hg;have up:∀c o,c≠g->H c=some o->upd H g (.ins Cg gx FP) c=some o:=λc o n q=>by rw [aj n];exact q
 refine⟨λc o hc=>?_,?_,up _ _ (λz=>by have:=h.he;rw [z,Hf] at this;cases this) h.he,up _ _ (λz=>by have:=h.hd;rw [z,Hf] at this;cases this) h.hd,h.n1,h.n2,λp hp=>?_,?_,?_,?_⟩
 .by_cases z:c=g
  .rw [z,af] at hc ⊢;exact hc
  rw [aj z] at hc ⊢;exact h.sm _ _ hc
 .obtain⟨dx,fs,q,r⟩:=h.ia;exact⟨dx,fs,up _ _ na q,r⟩
 .obtain⟨⟨kvs,q,r⟩,t1,t2⟩:=h.dk p hp;exact⟨⟨kvs,up _ _ (λz=>by rw [z,Hf] at q;cases q) q,r⟩,by rw [aj (λz=>by rw [z,hg] at t1;cases t1)];exact t1,t2⟩
 .obtain⟨ts,q,r⟩:=h.lb;exact⟨ts,up _ _ (λz=>by rw [z,Hf] at q;cases q) q,Paired.gA r λ_ _ z=>gi Hf z⟩
 .have t1:=h.fb;rw [aj (λz=>by rw [z,hg] at t1;cases t1)];exact t1
 obtain⟨e1,ts,⟨dx,fs,q1,q2⟩,q3,q4,q5⟩:=h.em;exact⟨e1,ts,⟨dx,fs,up _ _ na q1,q2⟩,up _ _ (λz=>by rw [z,Hf] at q3;cases q3) q3,q4.keep λ_ _ z=>gi Hf z,q5⟩
def Gj:aM ["self","rules","strengths"] ["self","rules","strengths"] (ax u5):=i5 rfl rfl rfl rfl nofun
def DZ {Cg C C3 T1 T2 T3 fB fL:Addr}{WW WU:FuncData}(F:Fy K "__init__" "Grammar.__init__" u5 f fd)(T:Txt mg)(G:GC K Cg)(GR:aG P w K mg base 6 "refuse_faults" ["rules","strengths"] (qA K T1 T2))(GS:aG P w K mg base 6 "standings_by_part" ["rules"] (HU K))
  (FB:bA P w K mg base e_ 5 fB WW ["self","rules"] (Ap K C))(MB:Mk K C fB)(BB:Binds K WW ["self","rules"] [])(mB:mg "BeginTable"=some (.ref C))
  (FL:bA P w K mg base e_ 5 fL WU ["self","rules","begin_table"] (Am K C C3 T1 T3))(ML:Mk K C3 fL)(BL:Binds K WU ["self","rules","begin_table"] [])(mL:mg "LeastTrees"=some (.ref C3)):bA P w K mg base e_ 7 f fd ["self","rules","strengths"] (An K Cg C T1 T2 T3):=by
 refine F.ok Gj (λvs H Q E h=>?_) (λdG A outer s H vs Q E hr h=>?_)
 .obtain⟨H0,g,gx,R,sv,rs,ss,aa,str,rk,b,rfl,_⟩:=h;rfl
 obtain⟨H0,g,gx,R,sv,rs,ss,aa,str,rk,b,rfl,s0,f0,eg,hR,cy,bI,h8,vV,mD,Sz,NX,SG,gd,TC,q⟩:=h;refine⟨_,ao (fu (pv 0) (a_ gL rfl T.lst g_ (ae (pv 1) ak)) rfl)
  (ao (jW (fu (pv 0) (wC (eI (JR (pv 2))) (bo ak) (a_ gL rfl T.lst g_ (ae (pv 2) ak))) rfl))
  (ao (cv (bp GR hr rfl (ae (dQ (pv 0) rfl) (ae (dQ (pv 0) rfl) ak))))
  (ao (fu (pv 0) (bp GS hr rfl (ae (dQ (pv 0) rfl) ak)) rfl)
  (ao (fu (pv 0) (va MB FB hr rfl mB BB .nil qH (ae (dQ (pv 0) rfl) ak)) rfl)
  (au (fu (pv 0) (va ML FL hr rfl mL BL .nil qH (ae (dQ (pv 0) rfl) (ae (dQ (pv 0) rfl) ak))) rfl)))))),?_⟩
 nofun
 refine⟨_,rfl,R,_,rfl,.inl (s0.seq hR),λR2 AO=>?_⟩;have Ui:=ah AO (.lst (rs.map V.ref)) _ _ eg;have pD:upd H R2 (.lst (rs.map V.ref)) R2=some (.lst (rs.map V.ref)):=af;have VL:=s0.trans (ah AO (.lst (rs.map V.ref)));generalize upd H R2 (.lst (rs.map V.ref))=H1 at Ui pD VL;refine⟨_,rfl,g,Cg,gx,[],rfl,Ui,G.cls,G.a1,(by show 0 < 1000;decide),?_⟩;generalize mE:dq "rules" (.ref R2) []=rZ;have ID:upd H1 g (.ins Cg gx rZ) R2=some (.lst (rs.map V.ref)):=by rw [aj (λz=>by rw [z,Ui] at pD;cases pD)];exact pD
 have JH:aD H0 (upd H1 g (.ins Cg gx rZ)):=λc o hc=>by rw [aj (λz=>by rw [z,f0] at hc;cases hc)];exact VL c o hc
 have Qo:upd H1 g (.ins Cg gx rZ) g=some (.ins Cg gx rZ):=af;generalize upd H1 g (.ins Cg gx rZ)=H2 at ID JH Qo;refine⟨λσ H3=>σ=[bG g,bG R,some sv]/\∃S2 fs,aD H0 H3/\H3 g=some (.ins Cg gx fs)/\fs=dq "strengths" (.ref S2) rZ/\H3 R2=some (.lst (rs.map V.ref))/\H3 S2=some (.lst (ss.map V.ref))/\H0 S2=none,?_,?_⟩
 .have fin:∀S2,H2 S2=none->(λH3=>∃S2 fs,aD H0 H3/\H3 g=some (.ins Cg gx fs)/\fs=dq "strengths" (.ref S2) rZ/\H3 R2=some (.lst (rs.map V.ref))/\H3 S2=some (.lst (ss.map V.ref))/\H0 S2=none) (upd (upd H2 S2 (.lst (ss.map V.ref))) g (.ins Cg gx (dq "strengths" (.ref S2) rZ)))/\upd H2 S2 (.lst (ss.map V.ref)) g=some (.ins Cg gx rZ):=λS2 Iy=>by
   have sl:=ah Iy (.lst (ss.map V.ref));have eS:upd H2 S2 (.lst (ss.map V.ref)) S2=some (.lst (ss.map V.ref)):=af;have OM:=sl _ _ Qo;refine⟨⟨S2,_,λc o hc=>?_,af,rfl,?_,?_,JH.free Iy⟩,OM⟩
   .rw [aj (λz=>by rw [z,f0] at hc;cases hc)];exact sl _ _ (JH c o hc)
   .rw [aj (λz=>by rw [z,Qo] at ID;cases ID)];exact sl _ _ ID
   rw [aj (λz=>by rw [z,Qo] at Iy;cases Iy)];exact eS
  rcases mD with ⟨rfl,rfl,rfl⟩ | ⟨S,rfl,hS,pS⟩
  .refine⟨_,rfl,_,rfl,?_⟩;refine fU ?_;refine⟨v9,λS2 Iy=>?_⟩;obtain⟨x1,x2⟩:=fin S2 Iy;exact⟨_,rfl,g,Cg,gx,rZ,rfl,x2,G.cls,G.a2,(by rw [<-mE];show 1 < 1000;decide),rfl,x1⟩
  refine⟨_,rfl,_,rfl,?_⟩;refine eC ?_;refine⟨_,rfl,S,_,rfl,.inl (JH.seq hS),λS2 Iy=>?_⟩;obtain⟨x1,x2⟩:=fin S2 Iy;exact⟨_,rfl,g,Cg,gx,rZ,rfl,x2,G.cls,G.a2,(by rw [<-mE];show 1 < 1000;decide),rfl,x1⟩
 rintro σ H3 ⟨rfl,S2,FO,FE,OM,pz,Qj,W5,fS2⟩;have V6:FO.lookup ("rules":Str)=some (.ref R2):=by rw [pz,<-mE];rfl
 have PU:FO.lookup ("strengths":Str)=some (.ref S2):=by rw [pz,<-mE];rfl
 have SA:bq K H3 ss str:=by
  rcases mD with ⟨_,rfl,rfl⟩ | ⟨S,_,_,pS⟩
  .exact .nil
  exact pS.same FE
 have xV:=TC.same FE;refine⟨_,rfl,g,Cg,gx,FO,_,rfl,OM,G.cls,G.a1,V6,_,rfl,g,Cg,gx,FO,_,rfl,OM,G.cls,G.a2,PU,R2,S2,rs,ss,aa,str,rk,b,rfl,aH.of Qj,cy.same FE,∅,h8,vV,aH.of W5,SA,Sz,NX,SG,gd,xV.t1,xV.t2,xV.Ii,λH4 PB Vw Vv=>?_⟩;have G9:=Kp.of2 PB xV.t1 xV.t2;have t4:zT T1 T2 T3 H4:=⟨Vw,Vv,Tab.s2 xV.t3 PB xV.t1 xV.t2 xV.Ih.symm xV.Ig.symm,xV.Ii,xV.Ih,xV.Ig⟩;have S04:pb T1 T2 T3 H0 H4:=λc o n1 n2 _ hc=>PB c o n1 n2 (FE c o hc);have W9:=G9 _ _ OM (λ_ z=>by cases z);have W6:=G9.lst Qj;have es4:=G9.lst W5;have N2:bq K H4 rs aa:=G9.aa (cy.same FE);clear Vw Vv PB xV;refine⟨_,rfl,g,Cg,gx,FO,_,rfl,W9,G.cls,G.a1,V6,R2,rs,aa,rfl,aH.of W6,N2,∅,h8,λds H5 fds Bj=>?_⟩;have Mh:=Bj _ _ W9;have er5:=Bj _ _ W6;have es5:=Bj _ _ es4;have SK:=N2.same Bj;have t5:=t4.same Bj;have S05:pb T1 T2 T3 H0 H5:=λc o n1 n2 n3 hc=>Bj _ _ (S04 c o n1 n2 n3 hc);refine⟨_,rfl,g,Cg,gx,FO,rfl,Mh,G.cls,G.a4,(by rw [pz,<-mE];show 2 < 1000;decide),?_⟩;generalize vA:dq "standings" (.ref ds) FO=x8;have RF:∀{Hx:Hp}{fx fy:List (Str×V)},Hx g=some (.ins Cg gx fx)->pb T1 T2 T3 H0 Hx->pb T1 T2 T3 H0 (upd Hx g (.ins Cg gx fy)):=λ{Hx fx fy} hg hs c o n1 n2 n3 hc=>by
  rw [aj (λz=>by rw [z,f0] at hc;cases hc)];exact hs c o n1 n2 n3 hc
 have LV:∀{Hx:Hp}{fx fy:List (Str×V)}{b:Addr}{xs:List V},Hx g=some (.ins Cg gx fx)->Hx b=some (.lst xs)->upd Hx g (.ins Cg gx fy) b=some (.lst xs):=λ{Hx fx fy b xs} hg hb=>by
  rw [aj (λz=>by rw [z,hg] at hb;cases hb)];exact hb
 have XJ:=RF (fy:=x8) Mh S05;have Ud:=LV (fy:=x8) Mh er5;have W4:=LV (fy:=x8) Mh es5;have KC:bq K (upd H5 g (.ins Cg gx x8)) rs aa:=SK.keep λ_ _ z=>gi Mh z;have t6:zT T1 T2 T3 (upd H5 g (.ins Cg gx x8)):=t5.CY Mh;have OL:upd H5 g (.ins Cg gx x8) g=some (.ins Cg gx x8):=af;generalize upd H5 g (.ins Cg gx x8)=H6 at XJ Ud W4 KC t6 OL;have ZK:x8.lookup ("rules":Str)=some (.ref R2):=by rw [<-vA,pz,<-mE];rfl
 refine⟨_,rfl,g,Cg,gx,x8,_,rfl,OL,G.cls,G.a1,ZK,λx dx hx hdx Zc=>?_⟩;have sx:aD H6 (upd (upd H6 dx (.own x)) x (.ins C dx [])):=(ah hdx _).trans (ah (by rw [aj Zc.symm];exact hx) _);refine⟨H6,x,dx,R2,rs,aa,rfl,sx,hx,af,aH.of Ud,KC,∅,h8,λe d bg kE bc ps cz H7 S7 m7 emp _ _ beg _=>⟨rfl,?_⟩⟩;have Mg:=S7.sm _ _ OL;have er7:=S7.sm _ _ Ud;have es7:=S7.sm _ _ W4;have t7:=t6.same S7.sm;have EB:=KC.same S7.sm;have S07:pb T1 T2 T3 H0 H7:=λc o n1 n2 n3 hc=>S7.sm _ _ (XJ c o n1 n2 n3 hc);refine⟨_,rfl,g,Cg,gx,x8,rfl,Mg,G.cls,G.a3,(by rw [<-vA,pz,<-mE];show 3 < 1000;decide),?_⟩;generalize zB:dq "begin_table" (.ref x) x8=zG;have XI:=RF (fy:=zG) Mg S07;have Uc:=LV (fy:=zG) Mg er7;have W3:=LV (fy:=zG) Mg es7;have N1:bq K (upd H7 g (.ins Cg gx zG)) rs aa:=EB.keep λ_ _ z=>gi Mg z;have t8:zT T1 T2 T3 (upd H7 g (.ins Cg gx zG)):=t7.CY Mg;have Qn:upd H7 g (.ins Cg gx zG) g=some (.ins Cg gx zG):=af;have B8:sk K C (upd H6 g (.ins Cg gx zG)) (upd H7 g (.ins Cg gx zG)) x e d bg kE bc ps cz:=S7.CY OL (λz=>by rw [z,OL] at hx;cases hx);generalize upd H7 g (.ins Cg gx zG)=H8 at XI Uc W3 N1 t8 Qn B8;have R_:zG.lookup ("rules":Str)=some (.ref R2):=by rw [<-zB,<-vA,pz,<-mE];rfl
 have ZN:zG.lookup ("begin_table":Str)=some (.ref x):=by rw [<-zB,<-vA,pz,<-mE];rfl
 refine⟨_,rfl,g,Cg,gx,zG,_,rfl,Qn,G.cls,G.a1,R_,_,rfl,g,Cg,gx,zG,_,rfl,Qn,G.cls,G.a3,ZN,λy dy hy hdy Zb=>?_⟩;have sy:aD H8 (upd (upd H8 dy (.own y)) y (.ins C3 dy [])):=(ah hdy _).trans (ah (by rw [aj Zb.symm];exact hy) _);have Kl:=beg.len ∅ h8;refine⟨H8,_,y,dy,R2,x,e,d,bg,rs,aa,kE,bc,ps,cz,rfl,sy,hy,af,aH.of Uc,N1,bI,h8,gd.least,B8,emp,Kl,t8.t1,t8.t3,t8.Ih,λH9 Rb Q4 Yc=>⟨rfl,?_⟩⟩;have Km:=Kp.of2 Rb t8.t1 t8.t3;have OK:=Km _ _ Qn (λ_ z=>by cases z);have er9:=Km.lst Uc;have es9:=Km.lst W3;have t9:zT T1 T2 T3 H9:=⟨Q4,Tab.s2 t8.t2 Rb t8.t1 t8.t3 t8.Ii.symm t8.Ig,Yc,t8.Ii,t8.Ih,t8.Ig⟩;have S09:pb T1 T2 T3 H0 H9:=λc o n1 n2 n3 hc=>Rb _ _ n1 n3 (XI c o n1 n2 n3 hc);refine⟨_,rfl,g,Cg,gx,zG,rfl,OK,G.cls,G.a5,(by rw [<-zB,<-vA,pz,<-mE];show 4 < 1000;decide),?_⟩;refine q x _ (RF OK S09) (t9.CY OK) ⟨gx,_,R2,S2,af,?_,?_,?_,?_,LV OK er9,LV OK es9,s0.free AO,fS2⟩
 .rw [<-zB,<-vA,pz,<-mE];rfl
 .rw [<-zB,<-vA,pz,<-mE];rfl
 .rw [<-zB,<-vA,pz,<-mE];rfl
 rw [<-zB,<-vA,pz,<-mE];rfl
end
abbrev Dm:Stmt:=top 57
abbrev uW:Stmt:=top 59
def Qv {zs:List Str}(m:Nat)(hm:0 < m)(h:zs.length=m) (n:Int):∃z∈zs,si (zs.map V.str) (n % (m:Int))=some (.str z):=by
 have h1:=Int.emod_nonneg n (show (m:Int)≠0 by omega);have h2:=Int.emod_lt_of_pos n (show (0:Int) < (m:Int) by omega);obtain⟨j,hj⟩:∃j:Nat,n % (m:Int)=(j:Int):=⟨(n % (m:Int)).toNat,∅⟩;have lj:j < zs.length:=by omega
 refine⟨zs[j],qd lj,?_⟩;rw [hj];exact dY (by rw [bH,eG lj];rfl)
theorem wk:∀{ts:List Str},(∀t∈ts,t.length<=14)->(ts.map (·.length)).sum<=14 * ts.length
 | [],_=>dC _
 | t::r,h=>by
  have ih:=wk λx hx=>h x (cM _ hx);have ht:=h t bT;rw [bz,j9,cH];omega
section
def Dd (K:aY):Sp:=λvs H Q _=>∃(a:Addr)(ns:List Int) (k:Nat),vs=[.ref a,.int (k:Int)]/\aH K H a (ns.map V.int)/\ns.length<=1000/\∀n:Int,Q (.int n) H
def Jy:aM ["_law_script","_law_k"] ["_law_script","_law_k"] (ax Dm):=i5 rfl rfl rfl rfl nofun
def G0 (F:hU K "_law_cell_at" "_law_cell_at" Dm f fd)(T:Txt mg):bA P w K mg base e_ 1 f fd ["_law_script","_law_k"] (Dd K):=by
 refine F.ok Jy (λvs H Q E h=>?_) (λdG A outer s H vs Q E hr h=>?_)
 .obtain⟨a,ns,k,rfl,_⟩:=h;rfl
 obtain⟨a,ns,k,rfl,hS,hn,q⟩:=h;refine⟨_,ao (b9 (bJ oU (pv 1) (aJ bN rfl T.len fK (ae (pv 0) ak)) (bX _)) (au (aW (aQ aL (pv 0) (pv 1) (λ_ _=>rfl)))) aZ) (au (aW ar)),?_⟩;refine⟨_,rfl,_,rfl,a,_,rfl,.inl hS,_,_,rfl,rfl,_,rfl,?_⟩;refine c_ (λcc=>?_) (λ_=>q 0);have lt:=d5 cc;rw [aC] at lt;have lt':k < ns.length:=by omega
 refine⟨_,rfl,_,rfl,a,_,_,.int ns[k],rfl,rfl,hS,dY (by rw [bH,eG lt'];rfl),q _⟩
def qy:Sp:=λvs H Q _=>∃(c:Int) (m:Nat),vs=[.int c,.int (m:Int)]/\m<=100/\∀D ns H',H D=none->aD H H'->H' D=some (.lst (List.map V.int ns))->ns.length=m->(∀n∈ns,(0:Int)<=n/\n < 4294967311)->Q (.ref D) H'
def jE:aM ["_law_cell","_law_many","_law_found","_law_number","_law_k"] ["_law_cell","_law_many"] (ax uW):=i5 rfl rfl rfl rfl nofun
def Uz (xs:List V):eK xs (some 1) none=xs.drop 1:=by
 have e1:HT.nY xs.length 0 (some 1)=min 1 xs.length:=HT.Au _ _ 1;have e2:HT.nY xs.length xs.length none=xs.length:=rfl;unfold eK;rw [e1,e2];cases xs with
 | nil=>rfl
 | cons x r=>simp
def Bp (F:hU K "_law_stream" "_law_stream" uW f fd)(T:Txt mg):bA P w K mg base e_ 1 f fd ["_law_cell","_law_many"] qy:=by
 refine F.ok jE (λvs H Q E h=>?_) (λdG A outer s H vs Q E hr h=>?_)
 .obtain⟨c,m,rfl,_⟩:=h;rfl
 obtain⟨c,m,rfl,hm,q⟩:=h;refine⟨_,ao (aI (i:=2) jE.nd rfl (bO rfl) (bo ak))
  (ao (aI (i:=3) jE.nd rfl (bO rfl) (bf fP (bf dH (pv 0) ar) ar))
  (ao (cD cU rfl (sU rfl T.Ia (ae (bf fP (pv 1) ar) ak)) (az (i:=4) jE.nd rfl (bO rfl))
   (ao (aI (i:=3) jE.nd rfl (bO rfl) (bf dH (bf fP (bf fP (bf DL (pv 3) (pv 3)) (bf DL ar (pv 3))) (pv 4)) ar))
   (au (cv (cX f_ iL iM cA (pv 2) (ae (pv 3) ak))))))
  (au (aW (dO eY (pv 2) (dW ar) fV))))),?_⟩
 refine⟨v9,λl hl=>?_⟩;refine⟨_,rfl,_,_,rfl,rfl,(by show (0:Int) < 4294967311;decide),_,_,rfl,rfl,?_⟩;refine⟨_,rfl,_,_,rfl,rfl,_,rfl,∅,∅,?_⟩;have e0:((m:Int)+1).toNat=m+1:=by omega
 rw [e0];have Z0:(0:Int)<=c % 4294967311+48271/\c % 4294967311+48271 < 8589934592:=by omega
 refine ou (n:=m+1) (λi σ H2=>∃(x:Int)(ns:List Int)(kk:Option V),σ=[some (.int c),some (.int (m:Int)),bG l,some (.int x),kk]/\H2=upd H l (.lst (ns.map V.int))/\ns.length=i/\((0:Int)<=x/\x < 8589934592)/\∀n∈ns,(0:Int)<=n/\n < 4294967311)
  ⟨c % 4294967311+48271,[],none,rfl,rfl,rfl,Z0,by simp⟩ ?_ ?_
 .rintro i σ H2 hi ⟨x,ns,kk,rfl,rfl,qS,hx,vU⟩;refine⟨_,rfl,_,rfl,_,_,rfl,rfl,.inl ⟨∅,∅⟩,_,rfl,_,_,rfl,rfl,.inl ⟨nofun,nofun⟩,_,_,rfl,rfl,_,rfl,_,_,rfl,rfl,_,_,rfl,rfl,(by show (0:Int) < 4294967311;decide),?_⟩;have hy:(0:Int)<=(x * x+69621 * x+(0+(i:Int))) % 4294967311/\(x * x+69621 * x+(0+(i:Int))) % 4294967311 < 4294967311:=by omega
  refine⟨_,rfl,.inl ⟨rfl,_,aH.of af⟩,_,rfl,l,_,_,rfl,rfl,af,bW (by rw [aC];omega),?_⟩;refine⟨(x * x+69621 * x+(0+(i:Int))) % 4294967311,ns++[(x * x+69621 * x+(0+(i:Int))) % 4294967311],_,rfl,by rw [jQ,bu];rfl,by rw [bZ,qS];rfl,⟨hy.1,∅⟩,λn hn=>?_⟩;rcases cN.mp hn with h | h
  .exact vU n h
  rw [cJ.mp h];exact hy
 rintro σ H2 ⟨x,ns,kk,rfl,rfl,qS,hx,vU⟩;refine⟨_,rfl,1,rfl,l,_,rfl,aH.of af,λp hp=>?_⟩;rw [Uz];have oX:p≠l:=λz=>by rw [z,af] at hp;cases hp
 refine q p (ns.drop 1) _ (by rw [aj oX] at hp;exact hp) ((ah hl _).trans (ah hp _)) (by rw [af,List.map_drop]) (by rw [oH,qS];omega) λn hn=>vU n (List.mem_of_mem_drop hn)
abbrev yz:Stmt:=top 58
def Et:PySem.W.kitOne K (.type "int") (.type "bool")=some false:=by kernel_rfl
def Ae:Sp:=λvs H Q _=>∃n:Int,vs=[.int n]/\Q (.bl true) H
def Gb:aM ["_law_found"] ["_law_found"] (ax yz):=i5 rfl rfl rfl rfl nofun
def DN (F:hU K "_law_whole" "_law_whole" yz f fd)(T:Txt mg):bA P w K mg base e_ 1 f fd ["_law_found"] Ae:=by
 refine F.ok Gb (λvs H Q E h=>?_) (λdG A outer s H vs Q E hr h=>?_)
 .obtain⟨n,rfl,_⟩:=h;rfl
 obtain⟨n,rfl,q⟩:=h;refine⟨_,au (aW (g6 (aJ oZ rfl T.xY gF (ae (pv 0) (ae (vb (v:=.ty "int") rfl T.int PyProof.Rows.boot_int rfl) ak)))
  (jH (u_ (aJ oZ rfl T.xY gF (ae (pv 0) (ae (vb (v:=.ty "bool") rfl T.UE x_ rfl) ak))))))),?_⟩
 refine⟨_,rfl,.int n,"int","int",true,rfl,.int n,wR,true,rfl,?_⟩;refine fU ?_;exact⟨_,rfl,.int n,"int","bool",false,rfl,.int n,Et,false,rfl,q⟩
end
abbrev yC:Stmt:=top 60
def ke (n j:Nat):List Str:=([mf 120 n,"-","left","rows"]:List Str).take j
def markL:List Str:=["#","#a : b","# :"," # | |"]
def Ee:List Str:=[""," ","   "]
inductive pH (k:Nat):Str->Nat->Prop
 | rows (n j:Nat)(h1:1<=n)(tJ:n<=14)(hj:j<=4):pH k (Txt.join ⟨#[32]⟩ ((["rows",":","y"]:List Str)++ke n j)) 1
 | more (n j:Nat)(h1:1<=n)(tJ:n<=14)(hj:j<=4):pH k (Txt.join ⟨#[32]⟩ ((["more",":","y"]:List Str)++ke n j++(["|","z"]:List Str))) 2
 | bar (n j:Nat)(h1:1<=n)(tJ:n<=14)(hj:j<=4):pH k (Txt.join ⟨#[32]⟩ ((["|","y"]:List Str)++ke n j)) 1
 | way (z:Str)(hz:z∈fM):pH k (z++(" w":Str)++((toString (k:Int):String):Str)) 0
 | mark (t:Str)(ht:t∈markL):pH k t 0
 | none (t:Str)(ht:t∈Ee):pH k t 0
def gH (n j:Nat):(ke n j).length<=4:=by
 unfold ke;rw [fh];exact Nat.min_le_right _ _
def md (c n:Nat):(mf c n).length=n:=by
 show (List.toArray _).size=n;rw [b8,ql]
def Jc {n j:Nat}(h:n<=14):∀t∈ke n j,t.length<=14:=λt ht=>by
 have ht:=pZ ht;rcases aT.mp ht with rfl | ht
 .rw [md];exact h
 exact(show ∀t∈(["-","left","rows"]:List Str),t.length<=14 by decide +kernel) t ht
def AJ:∀t∈(["rows",":","y","more","|","z"]:List Str),t.length<=14:=by decide +kernel
def Lq (xs:List V) (k:Nat):eK xs none (some (k:Int))=xs.take k:=by
 unfold eK;rw [HT.Au,HT.Dj,List.drop_zero,Nat.sub_zero];by_cases h:k<=xs.length
 .rw [Nat.min_eq_left h]
 rw [Nat.min_eq_right ∅,de,qo ∅]
section
def Ah (K:aY):Sp:=λvs H Q _=>∃(c:Int) (k:Nat),vs=[.int c,.int (k:Int)]/\k < 42/\∀(R:Addr)(t:Str) (n:Nat)(H':Hp),aD H H'->bj K H' R [.str t,.int (n:Int)]->pH k t n->Q (.ref R) H'
def lW:aM ["_law_cell","_law_at","_law_digits","_law_k","_law_words"] ["_law_cell","_law_at"] (ax yC):=i5 rfl rfl rfl rfl nofun
def DR (F:hU K "_law_row" "_law_row" yC f fd)(T:Txt mg)(GS:aG P w K mg base 1 "_law_stream" ["_law_cell","_law_many"] qy):bA P w K mg base e_ 2 f fd ["_law_cell","_law_at"] (Ah K):=by
 refine F.ok lW (λvs H Q E h=>?_) (λdG A outer s H vs Q E hr h=>?_)
 .obtain⟨c,k,rfl,_⟩:=h;rfl
 obtain⟨c,k,rfl,hk,q⟩:=h;refine⟨_,@ao _ _ _ _ _ (@aI _ _ 2 _ _ _ _ lW.nd rfl (bO rfl) (@bp _ _ _ _ _ _ _ _ _ _ GS hr rfl (@ae _ _ _ _ _ (pv 0) (@ae _ _ _ _ _ (@ar _ _ _ _) (@ak _) rfl) rfl) rfl rfl rfl) rfl (.inr rfl))
  (@ao _ _ _ _ _ (@cD _ _ _ _ _ _ _ _ cU rfl (sU rfl T.Ia (@ae _ _ _ _ _ (@ar _ _ _ _) (@ak _) rfl)) (az (i:=3) lW.nd rfl (bO rfl))
  (@ao _ _ _ _ _ (u9 (@bf _ _ _ _ _ _ _ _ dH (@bf _ _ _ _ _ _ _ _ AF (@aQ _ _ _ _ _ _ _ aL (pv 2) (pv 3) (λ_ _=>rfl)) (@ar _ _ _ _)) (@ar _ _ _ _)) (DA (pv 2) (pv 3) set_list))
  (@au _ _ _ (@b9 _ _ _ _ _ _ _ _ (bJ qI (pv 0) (@ar _ _ _ _) (bX _))
  (@ao _ _ _ _ _ (u9 (@bf _ _ _ _ _ _ _ _ dH (@bf _ _ _ _ _ _ _ _ yV (pv 0) (@ar _ _ _ _)) (@ar _ _ _ _)) (DA (pv 2) (pv 3) set_list))
  (@au _ _ _ (@aI _ _ 0 _ _ _ _ lW.nd rfl (bO rfl) (@bf _ _ _ _ _ _ _ _ AF (@bf _ _ _ _ _ _ _ _ yV (pv 0) (@ar _ _ _ _)) (@ar _ _ _ _)) rfl (.inr rfl)))) aZ))) (λ_=>rfl))
  (@ao _ _ _ _ _ (@jW _ _ _ (@aI _ _ 4 _ _ _ _ lW.nd rfl (bO rfl) (@dO _ _ _ _ _ _ _ _ _ _ eY (@bo _ _ _ _ (@ae _ _ _ _ _ (@bf _ _ _ _ _ _ _ _ pO (@aF _ _ _ _) (@bf _ _ _ _ _ _ _ _ fP (@ar _ _ _ _) (@bf _ _ _ _ _ _ _ _ dH (@aQ _ _ _ _ _ _ _ aL (pv 2) (@ar _ _ _ _) (λ_ _=>rfl)) (@ar _ _ _ _)))) (@ae _ _ _ _ _ (@aF _ _ _ _) (@ae _ _ _ _ _ (@aF _ _ _ _) (@ae _ _ _ _ _ (@aF _ _ _ _) (@ak _) rfl) rfl) rfl) rfl)) (@fV _) (@dW _ _ _ (@bf _ _ _ _ _ _ _ _ dH (@aQ _ _ _ _ _ _ _ aL (pv 2) (@ar _ _ _ _) (λ_ _=>rfl)) (@ar _ _ _ _)))) rfl (.inr rfl)))
  (@ao _ _ _ _ _ (@b9 _ _ _ _ _ _ _ _ (bJ oU (@bf _ _ _ _ _ _ _ _ dH (@aQ _ _ _ _ _ _ _ aL (pv 2) (@ar _ _ _ _) (λ_ _=>rfl)) (@ar _ _ _ _)) (@ar _ _ _ _) (bX _))
  (@au _ _ _ (@aW _ _ _ _ (@bS _ _ _ _ _ (@ae _ _ _ _ _ (cX iK sr su mv (@aF _ _ _ _) (@ae _ _ _ _ _ (@bf _ _ _ _ _ _ _ _ iC (@bo _ _ _ _ (@ae _ _ _ _ _ (@aF _ _ _ _) (@ae _ _ _ _ _ (@aF _ _ _ _) (@ae _ _ _ _ _ (@aF _ _ _ _) (@ak _) rfl) rfl) rfl)) (pv 4)) (@ak _) rfl)) (@ae _ _ _ _ _ (@ar _ _ _ _) (@ak _) rfl) rfl)))) aZ)
  (@ao _ _ _ _ _ (@b9 _ _ _ _ _ _ _ _ (bJ iS (@bf _ _ _ _ _ _ _ _ dH (@aQ _ _ _ _ _ _ _ aL (pv 2) (@ar _ _ _ _) (λ_ _=>rfl)) (@ar _ _ _ _)) (@ar _ _ _ _) (bX _))
  (@au _ _ _ (@aW _ _ _ _ (@bS _ _ _ _ _ (@ae _ _ _ _ _ (cX iK sr su mv (@aF _ _ _ _) (@ae _ _ _ _ _ (@bf _ _ _ _ _ _ _ _ iC (@bf _ _ _ _ _ _ _ _ iC (@bo _ _ _ _ (@ae _ _ _ _ _ (@aF _ _ _ _) (@ae _ _ _ _ _ (@aF _ _ _ _) (@ae _ _ _ _ _ (@aF _ _ _ _) (@ak _) rfl) rfl) rfl)) (pv 4)) (@bo _ _ _ _ (@ae _ _ _ _ _ (@aF _ _ _ _) (@ae _ _ _ _ _ (@aF _ _ _ _) (@ak _) rfl) rfl))) (@ak _) rfl)) (@ae _ _ _ _ _ (@ar _ _ _ _) (@ak _) rfl) rfl)))) aZ)
  (@ao _ _ _ _ _ (@b9 _ _ _ _ _ _ _ _ (bJ iS (@bf _ _ _ _ _ _ _ _ dH (@aQ _ _ _ _ _ _ _ aL (pv 2) (@ar _ _ _ _) (λ_ _=>rfl)) (@ar _ _ _ _)) (@ar _ _ _ _) (bX _))
  (@au _ _ _ (@aW _ _ _ _ (@bS _ _ _ _ _ (@ae _ _ _ _ _ (cX iK sr su mv (@aF _ _ _ _) (@ae _ _ _ _ _ (@bf _ _ _ _ _ _ _ _ iC (@bo _ _ _ _ (@ae _ _ _ _ _ (@aF _ _ _ _) (@ae _ _ _ _ _ (@aF _ _ _ _) (@ak _) rfl) rfl)) (pv 4)) (@ak _) rfl)) (@ae _ _ _ _ _ (@ar _ _ _ _) (@ak _) rfl) rfl)))) aZ)
  (@ao _ _ _ _ _ (@b9 _ _ _ _ _ _ _ _ (bJ iS (@bf _ _ _ _ _ _ _ _ dH (@aQ _ _ _ _ _ _ _ aL (pv 2) (@ar _ _ _ _) (λ_ _=>rfl)) (@ar _ _ _ _)) (@ar _ _ _ _) (bX _))
  (@au _ _ _ (@aW _ _ _ _ (@bS _ _ _ _ _ (@ae _ _ _ _ _ (@bf _ _ _ _ _ _ _ _ g7 (@bf _ _ _ _ _ _ _ _ g7 (@aQ _ _ _ _ _ _ _ aL (@bo _ _ _ _ (@ae _ _ _ _ _ (@aF _ _ _ _) (@ae _ _ _ _ _ (@aF _ _ _ _) (@ae _ _ _ _ _ (@aF _ _ _ _) (@ak _) rfl) rfl) rfl)) (@bf _ _ _ _ _ _ _ _ dH (@aQ _ _ _ _ _ _ _ aL (pv 2) (@ar _ _ _ _) (λ_ _=>rfl)) (@ar _ _ _ _)) (λ_ _=>rfl)) (@aF _ _ _ _)) (a_ vI rfl T.str Fb (@ae _ _ _ _ _ (pv 1) (@ak _) rfl))) (@ae _ _ _ _ _ (@ar _ _ _ _) (@ak _) rfl) rfl)))) aZ)
  (@ao _ _ _ _ _ (@b9 _ _ _ _ _ _ _ _ (bJ iS (@bf _ _ _ _ _ _ _ _ dH (@aQ _ _ _ _ _ _ _ aL (pv 2) (@ar _ _ _ _) (λ_ _=>rfl)) (@ar _ _ _ _)) (@ar _ _ _ _) (bX _))
  (@au _ _ _ (@aW _ _ _ _ (@bS _ _ _ _ _ (@ae _ _ _ _ _ (@aQ _ _ _ _ _ _ _ aL (@bo _ _ _ _ (@ae _ _ _ _ _ (@aF _ _ _ _) (@ae _ _ _ _ _ (@aF _ _ _ _) (@ae _ _ _ _ _ (@aF _ _ _ _) (@ae _ _ _ _ _ (@aF _ _ _ _) (@ak _) rfl) rfl) rfl) rfl)) (@bf _ _ _ _ _ _ _ _ dH (@aQ _ _ _ _ _ _ _ aL (pv 2) (@ar _ _ _ _) (λ_ _=>rfl)) (@ar _ _ _ _)) (λ_ _=>rfl)) (@ae _ _ _ _ _ (@ar _ _ _ _) (@ak _) rfl) rfl)))) aZ)
  (@au _ _ _ (@aW _ _ _ _ (@bS _ _ _ _ _ (@ae _ _ _ _ _ (@aQ _ _ _ _ _ _ _ aL (@bo _ _ _ _ (@ae _ _ _ _ _ (@aF _ _ _ _) (@ae _ _ _ _ _ (@aF _ _ _ _) (@ae _ _ _ _ _ (@aF _ _ _ _) (@ak _) rfl) rfl) rfl)) (@bf _ _ _ _ _ _ _ _ dH (@aQ _ _ _ _ _ _ _ aL (pv 2) (@ar _ _ _ _) (λ_ _=>rfl)) (@ar _ _ _ _)) (λ_ _=>rfl)) (@ae _ _ _ _ _ (@ar _ _ _ _) (@ak _) rfl) rfl))))))))))) , ?_⟩
 refine⟨_,rfl,c,4,rfl,nofun,λD ns H1 hf0 s1 hD bI _=>?_⟩;refine⟨(4:Int),rfl,nofun,nofun,?_⟩;refine ou (n:=4) (λi σ H2=>∃(c2:Int)(ms:List Int)(k2:Option V),σ=[some (.int c2),some (.int (k:Int)),bG D,k2,none]/\H2=upd H1 D (.lst (ms.map V.int))/\ms.length=4) ⟨c,ns,none,rfl,?_,bI⟩ ?_ ?_
 .funext b
  by_cases h:b=D
  .rw [h,af];exact hD
  rw [aj h]
 .rintro i σ H2 hi ⟨c2,ms,k2,rfl,rfl,hm⟩;have e0:(0:Int)+(i:Int)=((i:Nat):Int):=by omega
  rw [e0];have lt:i < ms.length:=by omega
  refine⟨_,rfl,_,rfl,D,_,_,_,rfl,rfl,aH.of af,pW lt,_,_,rfl,rfl,⟨nofun,nofun⟩,_,_,rfl,rfl,(by show (0:Int) < 16;decide),_,rfl,_,rfl,D,_,_,i,rfl,rfl,af,AM (by rw [aC];exact lt),?_⟩;rw [jQ,<-List.map_set];refine⟨_,rfl,_,_,rfl,rfl,_,rfl,?_⟩;refine c_ (λ_=>?_) (λ_=>?_)
  .refine⟨_,rfl,_,_,rfl,rfl,_,_,rfl,rfl,(by show (0:Int) < 16;decide),_,rfl,_,rfl,D,_,_,i,rfl,rfl,af,AM (by rw [aC,qa];exact lt),?_⟩;refine⟨_,rfl,_,_,rfl,rfl,_,_,rfl,rfl,⟨nofun,nofun⟩,?_⟩;exact⟨_,_,_,rfl,by rw [jQ,<-List.map_set],by rw [qa,qa];exact hm⟩
  exact⟨_,_,_,rfl,rfl,by rw [qa];exact hm⟩
 rintro σ H2 ⟨c2,ms,k2,rfl,rfl,hm⟩;have sm:aD H (upd H1 D (.lst (ms.map V.int))):=λb o hb=>by rw [aj (aq hb hf0)];exact s1 _ _ hb
 have eD:upd H1 D (.lst (ms.map V.int)) D=some (.lst (ms.map V.int)):=af;generalize upd H1 D (.lst (ms.map V.int))=H3 at sm eD;have UU:∀i:Nat,i < 4->∃x:Int,si (ms.map V.int) (i:Int)=some (.int x):=λi hi=>⟨ms[i]'∅,pW ∅⟩;obtain⟨d0,gP⟩:=UU 0 nofun;obtain⟨d1,fC⟩:=UU 1 nofun;obtain⟨d2,at2⟩:=UU 2 nofun;obtain⟨n,hn⟩:∃n:Nat,1+d1 % 14=(n:Int):=⟨(1+d1 % 14).toNat,∅⟩;obtain⟨j,hj⟩:∃j:Nat,d2 % 5=(j:Int):=⟨(d2 % 5).toNat,∅⟩;have KG:1<=n/\n<=14:=by omega
 have Ta:j<=4:=by omega
 refine⟨λσ H4=>∃(W:Addr),σ=[some (.int c2),some (.int (k:Int)),bG D,k2,bG W]/\aD H3 H4/\H4 W=some (.lst ((ke n j).map V.str)),?_,?_⟩
 .refine⟨_,rfl,D,_,_,_,rfl,rfl,aH.of eD,fC,_,_,rfl,rfl,(by show (0:Int) < 14;decide),_,_,rfl,rfl,120,n,rfl,(by rw [<-hn]),KG.1,∅,Pq,λL1 h1=>?_⟩;refine⟨_,rfl,D,_,_,_,rfl,rfl,aH.of (ah h1 _ _ _ eD),at2,_,_,rfl,rfl,(by show (0:Int) < 5;decide),_,rfl,L1,_,rfl,aH.of af,λW hW=>?_⟩;refine⟨W,rfl,(ah h1 _).trans (ah hW _),?_⟩;rw [af,hj,Lq];unfold ke;rw [List.map_take];rfl
 rintro _ H4 ⟨W,rfl,t4,eW⟩;have s4:=sm.trans t4;have IG:=t4 _ _ eD;clear hD;have fin:∀(t:Str) (m:Nat)(H5:Hp),aD H H5->pH k t m->∀R,H5 R=none->Q (.ref R) (upd H5 R (.tup [.str t,.int (m:Int)])):=λt m H5 s5 rt R hR=>q R t m _ (s5.trans (ah hR _)) (bj.of af) rt;have jb:∀(a b:List Str),(∀t∈a,t∈(["rows",":","y","more","|","z"]:List Str))->(∀t∈b,t∈(["rows",":","y","more","|","z"]:List Str))->a.length<=3->b.length<=3->((a++ke n j++b).map (·.length)).sum+(a++ke n j++b).length * 1<=16777216:=λa b ha hb la lb=>by
  have h:=wk (ts:=a++ke n j++b) λt ht=>by
   rcases cN.mp ht with ht | ht
   .rcases cN.mp ht with ht | ht
    .exact AJ t (ha t ht)
    exact Jc ∅ t ht
   exact AJ t (hb t ht)
  have l4:=gH n j;have:(a++ke n j++b).length<=10:=by rw [bZ,bZ];omega
  omega
 refine⟨_,rfl,D,_,_,_,rfl,rfl,aH.of IG,gP,_,_,rfl,rfl,(by show (0:Int) < 8;decide),_,_,rfl,rfl,_,rfl,?_⟩;refine c_ (λ_=>?_) (λ_=>?_)
 .refine⟨rfl,HL,λL1 h1=>⟨_,rfl,L1,W,_,_,rfl,rfl,af,ah h1 _ _ _ eW,fits (by rw [aC];have:=gH n j;show 3+_<=1000000;omega),λL2 h2=>⟨⟨#[32]⟩,L2,(["rows",":","y"]:List Str)++ke n j,rfl,rfl,aH.of (by rw [af,bu];rfl),?_,kc,fin _ 1 _ (s4.trans ((ah h1 _).trans (ah h2 _))) (.rows n j KG.1 KG.2 Ta)⟩⟩⟩;have:=jb ["rows",":","y"] [] nofun nofun nofun nofun;rw [dD] at this;exact this
 refine⟨_,rfl,D,_,_,_,rfl,rfl,aH.of IG,gP,_,_,rfl,rfl,(by show (0:Int) < 8;decide),rfl,_,rfl,?_⟩;refine c_ (λ_=>?_) (λ_=>?_)
 .refine⟨rfl,HL,λL1 h1=>⟨_,rfl,L1,W,_,_,rfl,rfl,af,ah h1 _ _ _ eW,fits (by rw [aC];have:=gH n j;show 3+_<=1000000;omega),λL2 h2=>⟨kc,λL3 h3=>⟨L2,L3,_,_,rfl,rfl,ah h3 _ _ _ af,af,fits (by rw [bZ,aC];have:=gH n j;show 3+_+2<=1000000;omega),λL4 h4=>⟨⟨#[32]⟩,L4,(["more",":","y"]:List Str)++ke n j++(["|","z"]:List Str),rfl,rfl,aH.of (by rw [af,bu,bu];rfl),?_,kc,fin _ 2 _ (s4.trans ((ah h1 _).trans ((ah h2 _).trans ((ah h3 _).trans (ah h4 _))))) (.more n j KG.1 KG.2 Ta)⟩⟩⟩⟩⟩;exact jb ["more",":","y"] ["|","z"] nofun nofun nofun nofun
 refine⟨_,rfl,D,_,_,_,rfl,rfl,aH.of IG,gP,_,_,rfl,rfl,(by show (0:Int) < 8;decide),rfl,_,rfl,?_⟩;refine c_ (λ_=>?_) (λ_=>?_)
 .refine⟨rfl,kc,λL1 h1=>⟨_,rfl,L1,W,_,_,rfl,rfl,af,ah h1 _ _ _ eW,fits (by rw [aC];have:=gH n j;show 2+_<=1000000;omega),λL2 h2=>⟨⟨#[32]⟩,L2,(["|","y"]:List Str)++ke n j,rfl,rfl,aH.of (by rw [af,bu];rfl),?_,kc,fin _ 1 _ (s4.trans ((ah h1 _).trans (ah h2 _))) (.bar n j KG.1 KG.2 Ta)⟩⟩⟩;have:=jb ["|","y"] [] nofun nofun nofun nofun;rw [dD] at this;exact this
 refine⟨_,rfl,D,_,_,_,rfl,rfl,aH.of IG,gP,_,_,rfl,rfl,(by show (0:Int) < 8;decide),rfl,_,rfl,?_⟩;refine c_ (λ_=>?_) (λ_=>?_)
 .obtain⟨z,hz,OZ⟩:=Qv (zs:=fM) 3 nofun rfl d1;have lz:=(show ∀z∈fM,z.length<=14 by decide +kernel) z hz;have lk:=(show ∀k:Nat,k < 42->(((toString (k:Int):String):Str)).length<=14/\(k:Int).natAbs.log2 < 1920 by decide +kernel) k hk;refine⟨HL,λL1 h1=>⟨_,rfl,D,_,_,_,rfl,rfl,aH.of (ah h1 _ _ _ IG),fC,_,_,rfl,rfl,(by show (0:Int) < 3;decide),L1,_,_,_,rfl,rfl,aH.of af,OZ,_,_,rfl,rfl,fits (by show z.length+2<=1000000;omega),_,rfl,(k:Int),rfl,lk.2,_,_,rfl,rfl,fits (by rw [wo];have:=lk.1;show z.length+2+_<=1000000;omega),kc,fin _ 0 _ (s4.trans (ah h1 _)) (.way z hz)⟩⟩
 refine⟨_,rfl,D,_,_,_,rfl,rfl,aH.of IG,gP,_,_,rfl,rfl,(by show (0:Int) < 8;decide),rfl,_,rfl,?_⟩;refine c_ (λ_=>?_) (λ_=>?_)
 .obtain⟨t,ht,O0⟩:=Qv (zs:=markL) 4 nofun rfl d1;exact⟨Pq,λL1 h1=>⟨_,rfl,D,_,_,_,rfl,rfl,aH.of (ah h1 _ _ _ IG),fC,_,_,rfl,rfl,(by show (0:Int) < 4;decide),L1,_,_,_,rfl,rfl,aH.of af,O0,kc,fin _ 0 _ (s4.trans (ah h1 _)) (.mark t ht)⟩⟩
 obtain⟨t,ht,O0⟩:=Qv (zs:=Ee) 3 nofun rfl d1;exact⟨HL,λL1 h1=>⟨_,rfl,D,_,_,_,rfl,rfl,aH.of (ah h1 _ _ _ IG),fC,_,_,rfl,rfl,(by show (0:Int) < 3;decide),L1,_,_,_,rfl,rfl,aH.of af,O0,kc,fin _ 0 _ (s4.trans (ah h1 _)) (.none t ht)⟩⟩
end
abbrev yL:Stmt:=top 54
section
def Aq (K:aY):Sp:=λvs H Q _=>∃(R:Addr)(rs:List Addr)(aa:List aA),vs=[.ref R]/\aH K H R (rs.map V.ref)/\bq K H rs aa/\rs.length<=100000/\(∀ru∈aa,∀p∈ru.2,p.length<=sizeLine/\again p=false) /\
 ∀E' H',aD H H'->H' E'=some (.lst (rs.map V.ref))->H E'=none->Q (.ref E') H'
def jV:aM ["rules","every","added","at","part"] ["rules"] (ax yL):=i5 rfl rfl rfl rfl nofun
def Eb (F:hU K "with_added_rules" "with_added_rules" yL f fd)(T:Txt mg)(GA:aG P w K mg base 1 "comes_again" ["part"] pN):bA P w K mg base e_ 2 f fd ["rules"] (Aq K):=by
 refine F.ok jV (λvs H Q E h=>?_) (λdG A outer s H vs Q E hr h=>?_)
 .obtain⟨R,rs,aa,rfl,_⟩:=h;rfl
 obtain⟨R,rs,aa,rfl,hR,cy,KA,hp,q⟩:=h;have hu:=gq hr;refine⟨_,ao (aI (i:=1) jV.nd rfl (bO rfl) (a_ gL rfl T.lst g_ (ae (pv 0) ak)))
  (ao (aI (i:=2) jV.nd rfl (bO rfl) fw)
  (ao (aI (i:=3) jV.nd rfl (bO rfl) ar)
  (ao (iR cU (bJ oU (pv 3) (aJ bN rfl T.len fK (ae (pv 1) ak)) (bX _))
   (ao (cD cU rfl (iB (aQ cK (aQ aL (pv 1) (pv 3) (λ_ _=>rfl)) ar (λ_ _=>rfl))) (az (i:=4) jV.nd rfl (bO rfl))
    (au (b9 (PW.pt (gZ (fc (bp GA hr rfl (ae (pv 4) ak))) (i9 (eI (du hu (pv 4) (pv 2)))))) (ao d7 (au d7)) aZ)))
   (au (Dx (i:=3) jV.nd rfl (bO rfl) ar Ez))))
  (au (aW (pv 1)))))),?_⟩
 dsimp only [pF];have ll:=bM cy;refine⟨_,rfl,R,_,rfl,.inl hR,λE0 WL d hd=>?_⟩;have PL:d≠E0:=λz=>by rw [z,af] at hd;cases hd
 have s0:aD H (upd (upd H E0 (.lst (rs.map V.ref))) d (.dK [])):=(ah WL _).trans (ah hd _);have e0:upd (upd H E0 (.lst (rs.map V.ref))) d (.dK []) E0=some (.lst (rs.map V.ref)):=by rw [aj PL.symm,af]
 generalize upd (upd H E0 (.lst (rs.map V.ref))) d (.dK [])=H0 at s0 e0;refine⟨λm σ H5=>∃(a:Nat)(y:Option V),σ=[bG R,bG E0,bG d,some (.int (a:Int)),y]/\aD H0 H5/\a<=rs.length/\m=rs.length - a,⟨rs.length,0,none,rfl,aD.refl _,dC _,rfl⟩,?_⟩;rintro m σ H5 ⟨a,y,rfl,sm,ha,rfl⟩;have e5:=sm _ _ e0;refine⟨_,rfl,_,rfl,E0,_,rfl,.inl (aH.of e5),_,_,rfl,rfl,_,rfl,?_⟩;refine c_ (λc=>?_) (λc=>?_)
 .have c':=d5 c;rw [aC] at c';have la:a < rs.length:=by omega
  obtain⟨r,er⟩:∃r,rs[a]?=some r:=⟨rs[a],eG la⟩;obtain⟨ru,e1,p,v1,v2⟩:=cy.get er;have t1:=sm.tup (s0.tup v1);have t2:=sm.tup (s0.tup v2);refine⟨λσ H6=>∃y,σ=[bG R,bG E0,bG d,some (.int ((a+1:Nat):Int)),y]/\aD H0 H6,?_,?_⟩
  .rintro σ H6 ⟨y,rfl,s6⟩;exact⟨rs.length - (a+1),∅,a+1,y,rfl,s6,∅,rfl⟩
  refine⟨_,rfl,_,rfl,E0,_,_,.ref r,rfl,rfl,aH.of e5,dY (by rw [bH,er];rfl),r,_,_,_,rfl,rfl,t1,rfl,p,rfl,⟨_,t2⟩,vD (xs:=ru.2.map V.str) (λi σ H6=>(∃y,σ=[bG R,bG E0,bG d,some (.int (a:Int)),y])/\aD H5 H6) ⟨⟨y,rfl⟩,aD.refl _⟩ ?_ ?_ ?_⟩
  .rintro i σ H6 _ ⟨_,s6⟩;exact s6.tup t2
  .rintro i x σ H6 ex ⟨⟨y,rfl⟩,s6⟩;rw [bH] at ex;obtain⟨z,ez,rfl⟩:=cf.mp ex;obtain⟨z1,z2⟩:=hp ru (bQ e1) z (bQ ez);refine goN ?_;refine⟨_,rfl,z,rfl,z1,?_⟩;rw [z2];refine⟨_,rfl,?_⟩;refine eC ?_;refine eC ?_;exact⟨⟨_,rfl⟩,s6⟩
  rintro σ H6 ⟨⟨y,rfl⟩,s6⟩;exact⟨_,rfl,_,_,rfl,rfl,⟨_,rfl,sm.trans s6⟩⟩
 exact⟨_,rfl,q E0 H5 (s0.trans sm) e5 WL⟩
end
end fg
namespace PySem
open Sem (wp)
open PySem.AutoSeq1 (wpAny_loadPart')
def jJ (l:Addr)(items:Array Value) (n:Nat)(vY:Option Addr)(sl:Array (Option Value))(t:Tok) :
  Meets (Builtin.«enumerate.__new__» ⟨[.type "enumerate",.ref l],[("start",.int 1 t)]⟩) (λ_ R s=>s.heap.get? l=some { cls:=.type "list",dict:=vY,data:=.seq items n,slots:=sl } /\
   R (.ok (.ret (.ref (s.heap.push { cls:=.type "list_iterator",data:=.fields #[.ref l,.int 0 0] }).objs.size)))
    { s with heap:=(s.heap.push { cls:=.type "list_iterator",data:=.fields #[.ref l,.int 0 0] }).push { cls:=.type "enumerate",data:=.fields #[.none,.bool false,.ref s.heap.objs.size,rawInt 1,.none,.none] } }) :=
 .of_wp λprog w A R s h=>by
  obtain⟨hp,g,d,tk,os⟩:=s;obtain⟨hl,h⟩:=h;have NW:=sub_enumerate;have hL:Heap.IsList (Shared.heap ⟨hp,g,d,tk,os⟩) l items:=⟨_,hl,rfl,n,rfl⟩
  wp_walk using oN hl
  refine wpAny_stack_any λst=>aR ?_
  split
  .rename_i c _ _ _ _ _
   cases (c == Value.type "enumerate")
   .wp_walk using oN hl,j_ hL
    exact⟨_,rfl,h⟩
   wp_walk using oN hl,j_ hL
   exact⟨_,rfl,h⟩
  wp_walk using oN hl,j_ hL
  exact⟨_,rfl,h⟩
section
variable {prog:Program}{w:World}{A:Around}{E:Value->Shared->Prop}{s:Shared}
def kP {T newId:String}{self:Value}{rest:List Value}{kw:List (Str×Value)}(hl:typeLookup (.type T) "__init__"=pure (some (.builtin "object.__init__")))
  (hm:Bind.madeBy (.type T)=pure (some newId))(vV:(some newId != some "object.__new__")=true) :
  Meets (Builtin.«object.__init__» ⟨self::rest,kw⟩) (λ_ R s=>s.TypeIs self T/\R (.ok (.ret .none)) s):=by
 refine Meets.of_wp λprog w A R s hs=>?_;obtain⟨hT,hq⟩:=hs;cases rest with
 | nil =>
  cases kw with
  | nil=>exact aR ⟨_,rfl,hq⟩
  | cons a rest =>
   repeat (any_goals (first | assumption | wp_step))
   exact⟨_,rfl,hq⟩
 | cons a rest =>
  repeat (any_goals (first | assumption | wp_step))
  exact⟨_,rfl,hq⟩
def sh {T newId:String}{Bn:Builtin}{args:List Value}{kw:List (Str×Value)}{S:Spec}{Q:Value->Shared->Prop}(ft:TypeCalled T newId "object.__init__")
  (vV:(some newId != some "object.__new__")=true)(hct:checkTypeCall T ⟨args,kw⟩=pure ())(hcn:checkBuiltinCall newId ⟨.type T::args,kw⟩=pure ())
  (bD:∀obj,argsOk "object.__init__" ⟨obj::args,kw⟩)(Ld:entryFor table newId=some Bn)(g:Meets (Bn ⟨.type T::args,kw⟩) S)
  (h:S A.in1 (wants (λobj s₁=>s₁.TypeIs obj T/\Q obj s₁) E) s):wpAny (model prog w) A (call (.type T) args kw) Q E s:=by
 obtain⟨c,tl,aac⟩:=ft.mro;have Wo:=ft.made;have NW:=ft.sub;refine hZ (codeAny_of_tree ?_);show wpAny _ _ (callAny (.type T) _) _ _ _;refine aR ⟨Code.quiet_builtin _ nofun,nq F.entry_type_call ?_⟩;rw [Around.under_plain (weight_type_call_type T args kw) (units_type_call_type T args kw)];have h1:=ft.notType;have h2:=ft.canCreate
 repeat (any_goals (first | assumption | wp_step))
 refine ix (oM ft.plain Ld (wpAny_of_eq hcn (g prog w A.in1 _ s h))) λr s₁ hr=>?_;cases r with
 | error e=>exact hr
 | ok fl =>
  cases fl with
  | ret obj =>
   have hT:=hr.1;have hli:=ft.init.lookup;have hbi:=ft.init.bind obj
   repeat (any_goals (first | assumption | wp_step))
   refine ix (oM ft.init.plain F.entry_object_init (ft.init.check _ _ _ _ _ _ _ _ hT (bD obj) (kP ft.init.lookup ft.made vV prog w A.in1 (wants (λr s₂=>r=.none/\Q obj s₂) E) s₁ ⟨hT,rfl,hr.2⟩))) λr₂ s₂ SH=>?_;cases r₂ with
   | error e=>exact SH
   | ok fl₂ =>
    cases fl₂ with
    | ret r =>
     obtain⟨rfl,hq⟩:=SH
     repeat (any_goals (first | assumption | wp_step))
    | _=>exact SH.elim
  | _=>exact hr.elim
def rF {M:Model}{pos:Pos}{T:String}{first:List Value}{args:List (Bool×Sem Value)}{keywords:List (Option Str×Sem Value)}{Q:Value->Shared->Prop}
  (zy:args.any (·.1)=false)(hkw:keywords.any (·.1.isNone)=false)
  (h:wpAny M A (evalArgs (.type T) true args keywords) (λa s₁=>wpAny M A (call (.type T) (first++a.pos) a.kw) Q E s₁) E s) :
  wpAny M A (callWith pos (.type T) first args keywords) Q E s:=by
 unfold callWith;refine aB (gR (cw h (λa s₁ h₁=>aB (ni ?_)) λ_ _ x=>x));simp only [zy,hkw,Bool.or_false];refine aB (aR ?_);exact aB (cw h₁ (λr s₂ hr=>aB (gR (wpAny_point (aR hr)))) λ_ _ x=>x)
def qt (a:Value)(t:Tok):checkTypeCall "enumerate" ⟨[a],[("start",.int 1 t)]⟩=pure ():=by kernel_rfl
def rV (a:Value)(t:Tok):checkBuiltinCall "enumerate.__new__" ⟨[.type "enumerate",a],[("start",.int 1 t)]⟩=pure ():=by kernel_rfl
def qR (obj a:Value)(t:Tok):argsOk "object.__init__" ⟨[obj,a],[("start",.int 1 t)]⟩:=by kernel_rfl
def zQ {l:Addr}{items:Array Value}{t:Tok}{Q:Value->Shared->Prop}(hL:s.heap.IsList l items)
  (h:∀h',IsEnum h' (s.heap.objs.size+1) s.heap.objs.size 1 .none->h'.IsListIter s.heap.objs.size l 0->h'.objs.size=s.heap.objs.size+2 ->
   (∀b o,s.heap.get? b=some o->h'.get? b=some o)->Q (.ref (s.heap.objs.size+1)) { s with heap:=h' }) :
  wpAny (model prog w) A (call (.type "enumerate") [.ref l] [("start",.int 1 t)]) Q E s:=by
 obtain⟨⟨c,vY,dt,sl⟩,hl,hc,n,hd⟩:=hL;replace hc:c=.type "list" := hc;replace hd:dt=.seq items n:=hd;subst hc hd;refine sh F.called_enumerate nofun (qt _ _) (rV _ _) (λobj=>qR obj _ _) F.entry_enumerate_new
  (jJ l items n vY sl t) ⟨hl,?_⟩
 have hz:(s.heap.push { cls:=.type "list_iterator",data:=.fields #[.ref l,.int 0 0] }).objs.size=s.heap.objs.size+1:=i6 ..;show _/\_;rw [hz];have he:IsEnum ((s.heap.push { cls:=.type "list_iterator",data:=.fields #[.ref l,.int 0 0] }).push
   { cls:=.type "enumerate",data:=.fields #[.none,.bool false,.ref s.heap.objs.size,rawInt 1,.none,.none] }) (s.heap.objs.size+1) s.heap.objs.size 1 .none:=by
  have:=cI (s.heap.push { cls:=.type "list_iterator",data:=.fields #[.ref l,.int 0 0] })
   (o:={ cls:=.type "enumerate",data:=.fields #[.none,.bool false,.ref s.heap.objs.size,rawInt 1,.none,.none] }) rfl
  rw [hz] at this;exact this
 exact⟨⟨_,he,rfl⟩,h _ he ⟨_,bC _ (cI _ rfl),rfl,rfl⟩ (by rw [i6,hz]) λb o x=>bC _ (bC _ x)⟩
end
def Draws.list1 {prog:Program}{w:World}{A:Around}(hh:A.handled=none)(it l:Addr)(vV:l≠it)(items:Array Value) :
  Draws prog w A it [it,l] (items.size+1) (λi v=>∃j,i=j+1/\items[j]?=some v) (λi h=>∃j,i=j+1/\h.IsListIter it l j/\h.IsList l items) :=
 have D:=Draws.list (prog:=prog) (w:=w) hh it l vV items
 ⟨λ_ _ ⟨j,_,st⟩=>D.live j _ st,λ_ _ _ ⟨j,e,st⟩ hk=>⟨j,e,D.frame j _ _ st hk⟩,(λi s Q E hi ⟨j,e,st⟩ hQ=>by
   subst e;exact D.item j s Q E ∅ st λx h' tk hp hs hk=>hQ x h' tk ⟨j,rfl,hp⟩ ⟨j+1,rfl,hs⟩ hk),
  (λs Q E ⟨j,e,st⟩ hE=>by
   have e':j=items.size:=by omega
   subst e';exact D.done s Q E st hE)⟩
end PySem
namespace L2
open PySem PySem.Spec PyProof.Rows
def Fw (K:aY)(a:Addr):It :=
 ⟨λi H=>∃xs x,aH K H a xs/\xs[i]?=some x,λi H x H'=>∃t y,x=.ref t/\H t=none/\H'=upd H t (.tup [.int ((i+1:Nat):Int),y])/\∀xs,aH K H a xs->xs[i]?=some y,λi H=>∃xs,aH K H a xs/\xs.length<=i⟩
def yp {P:Program}{w:World}{K:aY}{elts:List Expr}{k:Nat}{nR:Pos}(a e it:Addr)(Hh:e≠it) :
  Turn P w K (.Tuple elts k nR) (Fw K a) [e,it] e (λi h=>(∃old,IsEnum h e it ((i+1:Nat):Int) old)/\h.IsListIter it a i) where
 mem:=by simp
 obj:=λi h st b hb=>by
  obtain⟨⟨old,he⟩,o,e1,c,d⟩:=st;rcases aT.mp hb with rfl | hb
  .exact⟨_,he,λv z=>by cases z⟩
  obtain rfl:b=it:=by simpa using hb
  exact⟨o,e1,λv z=>by rw [d] at z;cases z⟩
 keep:=λi h h' st k=>⟨⟨st.1.choose,k e (by simp) _ st.1.choose_spec⟩,st.2.at λo q=>k it (by simp) o q⟩
 item:=by
  intro X hP hw hK hc i ai s σ H E I hf st hg;subst hP hw hK;obtain⟨xs,x,hq,hx⟩:=hg;obtain⟨aO,rv,p,hz⟩:=I.list hq;obtain⟨u,hu,ru⟩:=rv.get hx;obtain⟨⟨old,he⟩,hit⟩:=st;have i4:i < aO.length:=(bR.mp hu).1;have VX:a≠it:=λz=>by
   obtain⟨o,h1,h2,_⟩:=p.isList;obtain⟨o2,h3,h4,_⟩:=hit;rw [z,h3] at h1;cases h1;rw [h4] at h2;revert h2
   decide
  have Ie:e≠a:=λz=>by
   obtain⟨o,h1,h2,_⟩:=p.isList;have Hi:=he;unfold IsEnum at Hi;rw [z,h1] at Hi;cases Hi;revert h2;show ¬(Value.type "enumerate"=Value.type "list")
   decide
  refine wpAny_pyNext_enum_itemD (Draws.list1 (show X.A.in1.handled=none from I.ok.hd hc) it a VX aO.toArray) he ⟨i,rfl,hit,p.isList⟩ (by simp;omega) Hh (by simp [Hh,Ie]) λu' h1 tk Z6 ho Sy hT hsz hk=>?_;obtain⟨j,ej,Sw⟩:=Z6;have eji:j=i:=by omega
  subst eji;have euu:u'=u:=by
   have e2:aO[j]?=some u':=by simpa using Sw
   rw [hu] at e2;cases e2;rfl
  subst euu;obtain⟨j',ej',EF,_⟩:=Sy;have Ug:j'=j+1:=by omega
  subst Ug;refine⟨_,rfl,yb ho λh2 Oh sb=>?_⟩;have ne:s.heap.objs.size≠e:=iF (aS he);have kk:∀b o,b≠e->b≠it->s.heap.get? b=some o->h2.get? b=some o:=λb o n1 n2 q=>(sb.2 b n1).trans (hk b o n1 n2 q);have T2:h2.get? s.heap.objs.size=some { cls:=.type "tuple",data:=.seq #[.int ((j+1:Nat):Int) tk,u'] }:=(sb.2 _ ne).trans hT;have fe:=hf e (by simp);have fi:=hf it (by simp);have fT:H s.heap.objs.size=none:=I.bD.fresh (aK _);have tr:∀b v,H b=some v->b≠e/\b≠it:=λb v q=>⟨λz=>(by rw [z,fe.1] at q;cases q),λz=>(by rw [z,fi.1] at q;cases q)⟩;have nc:∀b,b∉[e,it]->b≠e/\b≠it:=λb z=>⟨λq=>z (by simp [q]),λq=>z (by simp [q])⟩;have lt:∀b o,s.heap.get? b=some o->b≠s.heap.objs.size:=λb o q=>bx (aS q);have I2:Inv X ai σ (upd H s.heap.objs.size (.tup [.int ((j+1:Nat):Int),x])) { s with heap:=h2,toks:=tk+1 }:=by
   refine I.call (g':=s.gens) (t':=tk+1) (d':=s.drawn) (ch:=[e,it]) ⟨λb o q _ _ c=>kk b o (nc b c).1 (nc b c).2 q,λb o q _ _ c=>⟨o.slots,kk b o (nc b c).1 (nc b c).2 q⟩,
    λb o q n _=>by rw [aj (lt b o q)];exact n,λb o q c=>⟨o,kk b o (nc b c).1 (nc b c).2 q⟩,λb ys q=>by rw [aj (aq q fT)];exact q,λb o v q=>by rw [aj (aq q fT)];exact q,
    λb ps q=>⟨#[],by rw [aj (aq q fT),q];simp⟩⟩ (λb v q=>?_) I.bare (λb hb=>?_)
   .by_cases hb:b=s.heap.objs.size
    .subst hb;rw [af] at q;cases q;exact⟨by show 2<=sizeLine;decide,[.int ((j+1:Nat):Int) tk,u'],.cons ⟨_,rfl⟩ (.cons ru .nil),_,T2,rfl,_,rfl⟩
    rw [aj hb] at q;refine(I.bD b v q).hV (λc o jq z=>?_) (λc q'=>by rw [aj (aq q' fT)];exact q') λc ys q'=>by rw [aj (aq q' fT)];exact q'
    rcases jq with rfl | jq
    .exact kk c o (tr c _ q).1 (tr c _ q).2 z
    exact kk c o (tr c _ jq).1 (tr c _ jq).2 z
   rcases aT.mp hb with rfl | hb
   .exact⟨fe.2.2.2.1,fe.2.1,fe.2.2.2.2.1,fe.2.2.2.2.2⟩
   obtain rfl:b=it:=by simpa using hb
   exact⟨fi.2.2.2.1,fi.2.1,fi.2.2.2.2.1,fi.2.2.2.2.2⟩
  refine⟨.ref s.heap.objs.size,_,I2,rfl,⟨_,x,rfl,fT,rfl,λys hy=>by rw [I.mw hy hq];exact hx⟩,⟨⟨_,Oh⟩,EF.at λo q=>(sb.2 it Hh.symm).trans q⟩,λb hb=>?_⟩;have rY:H b=none/\∃o,s.heap.get? b=some o:=by
   rcases aT.mp hb with rfl | hb
   .exact⟨fe.1,_,he⟩
   obtain rfl:b=it:=by simpa using hb
   obtain⟨o,q,_⟩:=hit;exact⟨fi.1,o,q⟩
  obtain⟨n,o,q⟩:=rY;rw [aj (lt b o q)];exact n
 done:=by
  intro X hP hw hK hc i ai s σ H E I hf st hg;subst hP hw hK;obtain⟨xs,hq,hx⟩:=hg;obtain⟨aO,rv,p,hz⟩:=I.list hq;obtain⟨⟨old,he⟩,hit⟩:=st;obtain⟨f0,f1,f2,f3,f4,f5⟩:=hf it (by simp);have hl:=rv.length;have VX:a≠it:=λz=>by
   obtain⟨o,h1,h2,_⟩:=p.isList;obtain⟨o2,h3,h4,_⟩:=hit;rw [z,h3] at h1;cases h1;rw [h4] at h2;revert h2
   decide
  have D:Draws X.prog X.w X.A.in1 it [it,a] 0 (λ_ _=>False) (λ_ h=>h.IsListIter it a i/\h.IsList a aO.toArray) :=
   ⟨(λ_ _ st=>let ⟨o,ho,_⟩:=st.1;⟨o,ho⟩),λ_ _ _ st hk=>⟨st.1.at λo e=>hk it (by simp) o e,st.2.at λo e=>hk a (by simp) o e⟩,λi s Q E hi st hQ=>absurd hi (Nat.not_lt_zero _),λs Q E st hE=>wpAny_nextOf_list_end (show X.A.in1.handled=none from I.ok.hd hc) st.1 st.2 (by simp;omega) hE⟩
  exact wpAny_pyNext_enum_endD D he ⟨hit,p.isList⟩ λh' eb=>⟨rfl,I.turned (t':=s.toks) (λb o hb e=>eb b o hb e) f0 f1 f3 f4 f5⟩
 self:=λ_ _ _ _ _ st h=>ny st.1.choose_spec h
def Kv (K:aY)(ta:TA):TI:=λσ H R=>ta σ H λvs H1=>Qx vs (aH K H1) λa=>R (Fw K a) H1
def wB {X:Cx}{elts:List Expr}{k:Nat}{nR:Pos}{l:Expr}{ta:TA}{p pos kp cp:Pos}(hg:Gl X "enumerate")(hm:X.mg "enumerate"=none)(ha:PA X [l] ta)
  (he:backTo pos (starEach [l] X.env)=(false,eval l X.env)::backTo pos (starEach [] X.env):=by rfl)(hp:(backTo pos (starEach [l] X.env)).any (·.1)=false:=by rfl) :
  PI X (.Tuple elts k nR) (.Call (.Name "enumerate" p) [l] [⟨some "start",.Constant (.int 1) 0 cp,kp⟩] pos) (Kv X.K ta):=by
 intro ai s σ H R I h;refine ka (g8 I hg hm oA ?_);refine rF hp rfl ?_;rw [he];refine evalArgs_kwB rfl ?_;rw [<-he];refine cx (ha pos ai s σ H _ I h) λus s1 aV=>?_;obtain⟨vs,H1,I1,r1,q1⟩:=aV;refine kws_cons (cx (ar (X:=X) ai s1 σ H1 (λv H=>v=.int 1/\H=H1) I1 ⟨rfl,rfl⟩) λv s2 aV=>?_);obtain⟨x2,H2,I2,r2,e2,e3⟩:=aV;refine kws_nil ?_;subst e2 e3;obtain⟨t,rfl⟩:=r2;obtain⟨a,xs,e,hq,q⟩:=q1;subst e;obtain⟨u,rfl,rx⟩:=r1.one;cases rx;obtain⟨aO,rv,pl,hz⟩:=I2.list hq;refine zQ pl.isList λh1 he hit hsz hk=>ny he ?_;refine⟨s2.heap.objs.size+1,[s2.heap.objs.size+1,s2.heap.objs.size],_,_,_,rfl,I2.kept (t':=s2.toks) λb o e=>hk b o e,yp a _ _ (iF (lI _)),⟨⟨_,he⟩,hit⟩,λb hb=>?_,q⟩;rcases aT.mp hb with rfl | hb
 .exact I2.qX (gU _) (I2.bD.fresh (gU _))
 obtain rfl:b=s2.heap.objs.size:=by simpa using hb
 exact I2.qX (aK _) (I2.bD.fresh (aK _))
def tK {K:aY}{a:Addr}{xs:List V}{g:TG}{tb:TS}{D:Ends}{σ:St}{H:Hp}(Pv:Nat->St->Hp->Prop)(h0:Pv 0 σ H)(hl:∀i σ H,i<=xs.length->Pv i σ H->aH K H a xs)
  (hs:∀i x σ H t,xs[i]?=some x->Pv i σ H->H t=none->g (.ref t) σ (upd H t (.tup [.int ((i+1:Nat):Int),x])) λσ2 H2=>tb { D with nx:=Pv (i+1),ct:=Pv (i+1),bk:=D.nx } σ2 H2)(hd:∀σ H,Pv xs.length σ H->D.nx σ H) :
  ∃W:Nat->Nat->St->Hp->Prop,(∃m,W 0 m σ H)/\∀i m σ H,W i m σ H ->
   ((Fw K a).stop i H/\D.nx σ H)\/((Fw K a).go i H/\∃N:St->Hp->Prop,(∀σ' H',N σ' H'->∃m',m' < m/\W (i+1) m' σ' H')/\∀x H',(Fw K a).nO i H x H'->g x σ H' λσ2 H2=>tb { D with nx:=N,ct:=N,bk:=D.nx } σ2 H2):=by
 refine⟨λi m σ H=>m=xs.length - i/\i<=xs.length/\Pv i σ H,⟨xs.length,by simp,dC _,h0⟩,?_⟩;rintro i m σ H ⟨rfl,hi,p⟩;have q:=hl i σ H hi p;by_cases i4:i < xs.length
 .refine .inr ⟨⟨xs,xs[i],q,by simp [i4]⟩,Pv (i+1),λσ' H' p'=>⟨xs.length - (i+1),∅,rfl,i4,p'⟩,λx H' y=>?_⟩;obtain⟨t,y0,rfl,ht,rfl,y⟩:=y;exact hs i y0 σ _ t (y xs q) p ht
 have e:i=xs.length:=by omega
 subst e;exact .inl ⟨⟨xs,q,aK _⟩,hd σ H p⟩
end L2
namespace fg
open PySem L2 M11
abbrev uY:Stmt:=top 49
section
def wordsOf (z:Str):List Str:=(Txt.split z ⟨#[32]⟩).filter λu=>((u.length:Int) != 0)
inductive br:List aA->List aA->List (List Str)->List aA->List aA->Prop
 | nil (r s):br r s [] r s
 | none (r s rows r' s')(t:br r s rows r' s'):br r s ([]::rows) r' s'
 | mark (r s z ws rows r' s')(h:(sg z).head?=some 35)(t:br r s rows r' s'):br r s ((z::ws)::rows) r' s'
 | row (r s z ws rows r1 s1 r' s')(h:(sg z).head?≠some 35)(o:mU r s (z::ws) r1 s1)(lr:r.length<=100000)(ls:s.length<=100000)(t:br r1 s1 rows r' s'):br r s ((z::ws)::rows) r' s'
theorem C7 (c:Nat):∀(l:List Nat),∀p∈sp c l,p.length<=l.length
 | [],p,hp=>by rw [cJ.mp hp];exact aK _
 | a::r,p,hp=>by
  have ih:=C7 c r;unfold sp at hp
  split at hp
  .rcases aT.mp hp with rfl | hp
   .exact dC _
   exact ug (ih p hp)
  obtain⟨h,t,e⟩:=HR c r;rw [e] at hp ih;rcases aT.mp hp with rfl | hp
  .have:=ih h bT;simp at this ⊢;exact this
  exact ug (ih p (cM _ hp))
def split_len {c:Nat}{z p:Str}(h:p∈Txt.split z ⟨#[c]⟩):p.length<=z.length:=by
 have h2:sg p∈sp c (sg z):=by rw [<-lR];exact iI h
 have:=C7 c _ _ h2;unfold sg at this;simpa [Str.length] using this
def Ai (K:aY)(Cg T1 T2 T3:Addr):Sp:=λvs H Q _=>∃(z:Str)(aa stg:List aA)(rk:Str->Nat)(b:Str->Int),vs=[.str z]/\z.length<=90000/\br [] [] ((Txt.split z ⟨#[10]⟩).map wordsOf) aa stg /\
 aa.length < 64/\(∀ru∈aa,ru.2.length<=8)/\aa≠[]/\(∀ru∈aa,∀p∈ru.2,p.length<=sizeLine/\again p=false)/\stg.length<=1000/\(∀ru∈stg,ru.2.length<=8)/\(stg.flatMap (·.2)).Nodup/\Good aa rk b/\zT T1 T2 T3 H /\
 ∀(g bt:Addr)(rs ss:List Addr)(H0 H':Hp),aD H H0->pb T1 T2 T3 H0 H'->zT T1 T2 T3 H'->bq K H0 rs aa->bq K H0 ss stg->XQ H0 H' Cg g rs ss bt->H0 g=none->Q (.ref g) H'
def eZ:aM ["text","rules","strengths","number","row","words"] ["text"] (ax uY):=i5 rfl rfl rfl rfl nofun
def DS {Cg C T1 T2 T3 fG:Addr}{OE:FuncData}(F:hU K "read_grammar" "read_grammar" uY f fd)(T:Txt mg)(GR:aG P w K mg base 3 "read_row" ["words","rules","strengths"] (nS K))(GA:aG P w K mg base 2 "with_added_rules" ["rules"] (Aq K))
  (MG:Mk K Cg fG)(FG:bA P w K mg base e_ 7 fG OE ["self","rules","strengths"] (An K Cg C T1 T2 T3))(B0:Binds K OE ["self","rules","strengths"] [])(mG:mg "Grammar"=some (.ref Cg)):bA P w K mg base e_ 9 f fd ["text"] (Ai K Cg T1 T2 T3):=by
 refine F.ok eZ (λvs H Q E h=>?_) (λdG A outer s H vs Q E hr h=>?_)
 .obtain⟨z,aa,stg,rk,b,rfl,_⟩:=h;rfl
 obtain⟨z,aa,stg,rk,b,rfl,hz,tok,TZ,h8,vV,hag,mD,NX,LZ,gd,hT,q⟩:=h;refine⟨_,ao (aI (i:=1) eZ.nd rfl (bO rfl) (bo ak))
  (ao (aI (i:=2) eZ.nd rfl (bO rfl) (bo ak))
  (ao (cD cU rfl (wB rfl T.E3 (ae (cX iK uB uC mr (pv 0) (ae aF ak)) ak)) (eJ rfl (aE (az (i:=3) eZ.nd rfl (bO rfl)) (aE (az (i:=4) eZ.nd rfl (bO rfl)) b_)))
   (ao (ik (iy:=5) ["word"] [] eZ.nd rfl rfl rfl (bK (cX iK uB uC mr (pv 4) (ae aF ak))) (bL rfl rfl) nofun rfl nofun
    (λ_ _ _ _ _=>az (i:=0) (show (["word"]:List Str).Nodup by decide +kernel) rfl (bO rfl)) (λ_ _ _ _ _=>gI (n5 K (pv 0) (λ_=>rfl))) (λ_ _ _ _ _=>pv 0))
   (au (b9 (PW.pt (gZ (gp (pv 5) (λ_=>rfl)) (gZ (jG (fc (cX iK PySem.F.slot_str_startswith PySem.F.type_str_startswith s_ (aQ aL (pv 5) ar (λ_ _=>rfl)) (ae aF ak))))
    (i9 (jG (fc (bp (GR.mono (by decide:3<=8)) hr rfl (ae (pv 5) (ae (pv 1) (ae (pv 2) ak)))))))))) (au d7) aZ))))
  (au (aW (va MG FG hr rfl mG B0 .nil qH (ae (bp (GA.mono (by decide:2<=8)) hr rfl (ae (pv 1) ak)) (ae (pv 2) ak))))))),?_⟩
 dsimp only [pF];refine⟨v9,λR Ow=>⟨v9,λS EK=>?_⟩⟩;have Eh:R≠S:=λe=>by rw [<-e,af] at EK;cases EK
 have fS:H S=none:=by rw [aj Eh.symm] at EK;exact EK
 have s1:aD H (upd (upd H R (.lst [])) S (.lst [])):=(ah Ow _).trans (ah EK _);have e1:upd (upd H R (.lst [])) S (.lst []) R=some (.lst []):=by rw [aj Eh,af]
 have e2:upd (upd H R (.lst [])) S (.lst []) S=some (.lst []):=af;generalize upd (upd H R (.lst [])) S (.lst [])=H1 at s1 e1 e2;have Sr:z.length+2<=sizeLine:=fits ∅;refine⟨_,rfl,rfl,z,⟨#[10]⟩,rfl,rfl,nofun,Sr,λL hL=>?_⟩;have s2:=ah hL (.lst ((Txt.split z ⟨#[10]⟩).map V.str));have e3:upd H1 L (.lst ((Txt.split z ⟨#[10]⟩).map V.str)) L=some (.lst ((Txt.split z ⟨#[10]⟩).map V.str)):=af;have RU:L≠R:=λe=>by rw [e,e1] at hL;cases hL
 have RT:L≠S:=λe=>by rw [e,e2] at hL;cases hL
 generalize upd H1 L (.lst ((Txt.split z ⟨#[10]⟩).map V.str))=H2 at s2 e3;generalize AN:Txt.split z ⟨#[10]⟩=rows at e3 tok;refine⟨L,_,rfl,aH.of e3,tK (xs:=rows.map V.str) (λi σ H3=>∃(rs ss:List Addr)(ru st:List aA)(y3 y4 y5:Option V),σ=[some (.str z),bG R,bG S,y3,y4,y5]/\xJ R S H2 H3/\H3 R=some (.lst (rs.map V.ref))/\bq K H3 rs ru/\H3 S=some (.lst (ss.map V.ref))/\bq K H3 ss st/\br ru st ((rows.drop i).map wordsOf) aa stg)
  ⟨[],[],[],[],none,none,none,rfl,λ_ _ _ _ h=>h,s2 _ _ e1,.nil,s2 _ _ e2,.nil,tok⟩ ?_ ?_ ?_⟩
 .rintro i σ H3 _ ⟨rs,ss,ru,st,y3,y4,y5,_,sc,_⟩;exact aH.of (sc _ _ RU RT e3)
 .rintro i x σ H3 t ex ⟨rs,ss,ru,st,y3,y4,y5,rfl,sc,hR,cy,hS,pS,tk⟩ ht;rw [bH] at ex;obtain⟨row,er,rfl⟩:=cf.mp ex;obtain⟨hi,IE⟩:=bR.mp er;have SI:row.length<=90000:=df (split_len (by rw [AN];exact bQ er)) hz;rw [v7 hi,IE,bz] at tk;refine⟨t,_,rfl,bj.of af,rfl,_,_,rfl,_,_,rfl,rfl,?_⟩;have s3:=ah ht (.tup [.int ((i+1:Nat):Int),.str row]);generalize upd H3 t (.tup [.int ((i+1:Nat):Int),.str row])=H4 at s3;refine⟨_,rfl,rfl,row,⟨#[32]⟩,rfl,rfl,nofun,fits ∅,λL2 TM=>?_⟩;have s4:=s3.trans (ah TM (.lst ((Txt.split row ⟨#[32]⟩).map V.str)));have e4:upd H4 L2 (.lst ((Txt.split row ⟨#[32]⟩).map V.str)) L2=some (.lst ((Txt.split row ⟨#[32]⟩).map V.str)):=af;generalize upd H4 L2 (.lst ((Txt.split row ⟨#[32]⟩).map V.str))=H5 at s4 e4;have R8:=PyProof.Rows.split_le row ⟨#[32]⟩;refine⟨L2,rfl,⟨_,aH.of e4⟩,λD hD=>cb (tif:=λσ H Q=>fE 0 σ H λx H'=>∃k,zS K x H' k/\Q k H') (xs:=(Txt.split row ⟨#[32]⟩).map V.str)
   (λj ys σ2 H6=>ys=(((Txt.split row ⟨#[32]⟩).take j).filter λu=>((u.length:Int) != 0)).map V.str/\(∃y0,σ2=[y0])/\aD H5 H6/\H6 D=some (.lst ys))
   ⟨rfl,⟨none,rfl⟩,ah hD _,af⟩ (λj ys σ2 H6 _ h=>h.2.2.1.seq (aH.of e4)) (λj x ys σ2 H6 ex h=>?_) (λys σ2 H6 h=>?_)⟩
  .obtain⟨rfl,⟨y0,rfl⟩,sm,hd⟩:=h;rw [bH] at ex;obtain⟨u,eu,rfl⟩:=cf.mp ex;have Z4:=split_len (bQ eu);refine goN ?_;refine⟨_,rfl,((u.length:Int) != 0),⟨fits ∅,rfl⟩,?_⟩;have et:(((Txt.split row ⟨#[32]⟩).take (j+1)).filter λu=>((u.length:Int) != 0))=(((Txt.split row ⟨#[32]⟩).take j).filter λu=>((u.length:Int) != 0))++(if ((u.length:Int) != 0)=true then [u] else []):=by
    rw [di,eu,lK]
    congr 1
    simp only [um,nE,List.filter_nil]
   refine c_ (λc=>?_) (λc=>?_)
   .rw [ay c] at et;refine⟨_,rfl,hd,bW ?_,by rw [et,bu];rfl,⟨_,rfl⟩,λb o hb=>?_,af⟩
    .rw [aC];have l1:=lL (λu:Str=>((u.length:Int) != 0)) ((Txt.split row ⟨#[32]⟩).take j);have l2:=List.length_take_le' j (Txt.split row ⟨#[32]⟩);omega
    rw [aj (λe=>by rw [e,hD] at hb;cases hb)];exact sm b o hb
   rw [av c,dD] at et;exact⟨by rw [et],⟨_,rfl⟩,sm,hd⟩
  obtain⟨rfl,_,sm,hd⟩:=h;rw [aC,de] at hd;have hd:H6 D=some (.lst ((wordsOf row).map V.str)):=hd;have s6:=s4.trans sm;have lw:(wordsOf row).length<=100000:=by
   have l1:=lL (λu:Str=>((u.length:Int) != 0)) (Txt.split row ⟨#[32]⟩);have:(wordsOf row).length<=(Txt.split row ⟨#[32]⟩).length:=l1;omega
  have zw:∀u∈wordsOf row,u.length<=sizeLine:=λu hu=>by
   have:=split_len (jk.mp hu).1;exact fits ∅
  have HX:xJ R S H2 H6:=λb o h1 h2 h3=>s6 _ _ (sc b o h1 h2 h3);have lr:=bM cy;have ls:=bM pS;generalize wordsOf row=W at tk hd lw zw;cases tk with
  | none _ _ _ _ _ tk =>
   refine⟨_,rfl,false,.inl ⟨[],aH.of hd,rfl⟩,?_⟩;refine eC ?_;refine eC ?_;exact⟨rs,ss,ru,st,_,_,_,rfl,HX,s6 _ _ hR,cy.same s6,s6 _ _ hS,pS.same s6,tk⟩
  | mark _ _ u ws _ _ _ h tk =>
   refine⟨_,rfl,true,.inl ⟨_,aH.of hd,rfl⟩,?_⟩;refine fU ?_;refine⟨_,rfl,D,_,_,_,rfl,rfl,aH.of hd,gP _ _,rfl,u,⟨#[35]⟩,rfl,rfl,true,by rw [iQ,h];rfl,?_⟩;refine eC ?_;refine eC ?_;exact⟨rs,ss,ru,st,_,_,_,rfl,HX,s6 _ _ hR,cy.same s6,s6 _ _ hS,pS.same s6,tk⟩
  | row _ _ u ws _ r1 s1 _ _ h ok l1 l2 tk =>
   refine⟨_,rfl,true,.inl ⟨_,aH.of hd,rfl⟩,?_⟩;refine fU ?_;refine⟨_,rfl,D,_,_,_,rfl,rfl,aH.of hd,gP _ _,rfl,u,⟨#[35]⟩,rfl,rfl,false,by rw [iQ,beq_false_of_ne h],?_⟩;refine fU ?_;refine⟨_,rfl,_,rfl,_,rfl,D,R,S,u::ws,rs,ss,ru,st,r1,s1,rfl,aH.of hd,lw,zw,s6 _ _ hR,cy.same s6,∅,s6 _ _ hS,pS.same s6,∅,Eh,ok,λLS LM H7 Q9 TH EB TF Kz=>⟨true,rfl,?_⟩⟩;refine eC ?_;exact⟨LS,LM,r1,s1,_,_,_,rfl,λb o h1 h2 h3=>Q9 b o h1 h2 (HX b o h1 h2 h3),TH,EB,TF,Kz,tk⟩
 rintro σ H3 ⟨rs,ss,ru,st,y3,y4,y5,rfl,sc,hR,cy,hS,pS,tk⟩;rw [aC,ub] at tk;cases tk;have lr:=bM cy;have sH:aD H H3:=λb o hb=>sc b o (aq hb Ow) (aq hb fS) (s2 _ _ (s1 _ _ hb));refine⟨_,rfl,R,rs,aa,rfl,aH.of hR,cy,∅,hag,λE0 H4 s4 e4 f4=>⟨_,rfl,λg gx hg hgx Y8=>?_⟩⟩;have s5:aD H4 (upd (upd H4 gx (.own g)) g (.ins Cg gx [])):=(ah hgx _).trans (ah (by rw [aj Y8.symm];exact hg) _);refine⟨H4,g,gx,E0,.ref S,rs,ss,aa,stg,rk,b,rfl,s5,hg,af,aH.of e4,cy.same s4,TZ,h8,vV,.inr ⟨S,rfl,aH.of (s4 _ _ hS),pS.same s4⟩,mD,NX,LZ,gd,hT.same (sH.trans s4),λbt H5 M5 Ky gr=>⟨rfl,?_⟩⟩;exact q g bt rs ss H4 H5 (sH.trans s4) M5 Ky (cy.same s4) (pS.same s4) gr hg
end
end fg
namespace L2
open PySem
def bA.or {P:Program}{w:World}{K:aY}{mg:Str->Option Value}{base:Heap}{CX:tZ}{k:Nat}{f:Addr}{fd:FuncData}{ps:List Str}{Vy Vx:Sp}(h1:bA P w K mg base CX k f fd ps Vy)(h2:bA P w K mg base CX k f fd ps Vx):bA P w K mg base CX k f fd ps (λvs H Q E=>Vy vs H Q E\/Vx vs H Q E) where
 len vs H Q E h:=h.elim (h1.len vs H Q E) (h2.len vs H Q E)
 run A outer s H cd us vs Q E hr e b r h:=h.elim (h1.run A outer s H cd us vs Q E hr e b r) (h2.run A outer s H cd us vs Q E hr e b r)
end L2
namespace fg
open PySem L2 M11
section
inductive ji (aa:List aA):List Str->Prop
 | OX (rest:List Str)(e:aa=[]):ji aa (("|":Str)::rest)
 | bar (h:Str) (ps rest:List Str)(e:aa.getLast?=some (h,ps))(er:cC [] [] rest=none):ji aa (("|":Str)::rest)
 | head (h:Str) (rest:List Str)(hn:h≠("|":Str))(b:cm h=true->again h=false->cC [] [] rest=none):ji aa (h::(":":Str)::rest)
 | other (h:Str) (rest:List Str)(hn:h≠("|":Str))(hc:rest.head?≠some (":":Str))(b:h∈fM->rest≠[]->(rest.all cm)=false):ji aa (h::rest)
def qB (K:aY):Sp:=λvs H Q _=>∃(W R S:Addr) (ws:List Str)(rs:List Addr)(aa:List aA),vs=[.ref W,.ref R,.ref S]/\aH K H W (ws.map V.str)/\ws.length<=100000/\(∀z∈ws,z.length<=sizeLine) /\
 H R=some (.lst (rs.map V.ref))/\bq K H rs aa/\rs.length<=100000/\ji aa ws/\∀H',aD H H'->Q (.bl false) H'
def CT:∀z:Str,z∉fM->FK (.str z) (fM.map V.str)=false:=λz h=>by
 cases e:FK (.str z) (fM.map V.str) with
 | false=>rfl
 | true =>
  exfalso;unfold FK at e;obtain⟨y,hy,e2⟩:=ua.mp e;obtain⟨u,hu,rfl⟩:=cT.mp hy;have e3:(u == z)=true:=e2;rw [eq_of_beq e3] at hu;exact h hu
def wH {aw:Addr}(F:hU K "read_row" "read_row" l7 f fd)(T:Txt mg)(hW:mg "WAYS"=some (.ref aw))(hS:∀H,bj K H aw (fM.map V.str))(GP:aG P w K mg base 1 "is_part" ["word"] lS)(GA:aG P w K mg base 1 "comes_again" ["part"] pN)
  (GR:aG P w K mg base 2 "read_rules" ["head","words","rules"] (jD K)):bA P w K mg base e_ 3 f fd ["words","rules","strengths"] (qB K):=by
 refine F.ok sR (λvs H Q E h=>?_) (λdG A outer s H vs Q E hr h=>?_)
 .obtain⟨W,R,S,ws,rs,aa,rfl,_⟩:=h;rfl
 obtain⟨W,R,S,ws,rs,aa,rfl,lD,hl,hz,hR,cy,KA,bad,q⟩:=h;have hu:=oK (Nat.le_add_right _ 64) hr.units;refine⟨_,ao (b9 (bJ iS (aQ aL (pv 0) ar (λ_ _=>rfl)) aF (bX _))
   (au (aW (g6 (a_ rE rfl T.UE x_ (ae (pv 1) ak)) (jH (bp GR hr rfl (ae (aQ cK (aQ aL (pv 1) (sV nQ ar) (λ_ _=>rfl)) ar (λ_ _=>rfl)) (ae (dO eY (pv 0) (dW ar) fV) (ae (pv 1) ak)))))))) aZ)
  (ao (b9 (bJ (AG hu) (dO eY (pv 0) (dW ar) (dW ar)) (bo (ae aF ak)) (bX _))
   (au (aW (g6 (bp (GP.mono (by decide:1<=2)) hr rfl (ae (aQ aL (pv 0) ar (λ_ _=>rfl)) ak)) (g6 (u_ (bp (GA.mono (by decide:1<=2)) hr rfl (ae (aQ aL (pv 0) ar (λ_ _=>rfl)) ak)))
    (jH (bp GR hr rfl (ae (aQ aL (pv 0) ar (λ_ _=>rfl)) (ae (dO eY (pv 0) (dW ar) fV) (ae (pv 1) ak))))))))) aZ)
  (ao (b9 (PW.pt (gZ (bJ n_ (aQ aL (pv 0) ar (λ_ _=>rfl)) (cQ (v:=.ref aw) rfl hW rfl) rfl) (gZ (bJ qI (aJ bN rfl T.len fK (ae (pv 0) ak)) ar (bX _))
    (i9 (fc (aJ (jZ rfl) rfl T.all boot_all (ae (bY ["word"] [] rfl (bK (dO eY (pv 0) (dW ar) fV)) (bL rfl rfl) nofun rfl nofun
     (λ_ _ _ _ _=>az (i:=0) (show (["word"]:List Str).Nodup by decide +kernel) rfl (bO rfl)) (λ_ _ _ _ _=>cP) (λ_ _ _ _ _=>bp (GP.mono (by decide:1<=2)) hr rfl (ae (pv 0) ak))) ak)))))))
   (ao (cv (cX f_ iL iM cA (pv 2) (ae (bS (ae (aQ aL (pv 0) ar (λ_ _=>rfl)) (ae (a_ eU rfl T.tup qp (ae (dO eY (pv 0) (dW ar) fV) ak)) ak))) ak)))
   (au (aW eP))) aZ)
  (au (aW eP)))),?_⟩
 dsimp only [pF];cases bad with
 | OX rest e =>
  subst e;cases cy;refine⟨_,rfl,W,_,_,_,rfl,rfl,lD,gP _ _,rfl,true,rfl,?_⟩;refine fU ?_;refine⟨_,rfl,R,_,rfl,aH.of hR,false,rfl,?_⟩;refine eC ?_;exact q H (aD.refl _)
 | bar h ps rest e er =>
  obtain⟨r0,e0⟩:=yf.mp e;subst e0;have lp:=bM cy;obtain⟨Gp,rl,rfl,CB,⟨pa,v1,v2⟩⟩:∃Gp rl,rs=Gp++[rl]/\bq K H Gp r0/\tY K H rl (h,ps):=kO cy;refine⟨_,rfl,W,_,_,_,rfl,rfl,lD,gP _ _,rfl,true,rfl,?_⟩;refine fU ?_;refine⟨_,rfl,R,_,rfl,aH.of hR,true,by rw [bu];simp,?_⟩;refine fU ?_;refine⟨_,rfl,1,rfl,R,_,_,.ref rl,rfl,rfl,aH.of hR,by rw [bu];exact mS _ _,rl,_,_,_,rfl,rfl,v1,rfl,_,rfl,1,rfl,W,_,rfl,lD,λp hp=>⟨_,rfl,?_⟩⟩;have s1:=ah hp (.lst (eK (List.map V.str (("|":Str)::rest)) (some 1) none));have BS:upd H p (.lst (eK (List.map V.str (("|":Str)::rest)) (some 1) none)) p=some (.lst (rest.map V.str)):=by
   rw [af,show ((1:Int))=((1:Nat):Int) from rfl,jf];rfl
  generalize upd H p (.lst (eK (List.map V.str (("|":Str)::rest)) (some 1) none))=H1 at s1 BS;exact⟨h,p,R,rest,Gp++[rl],r0++[(h,ps)],rfl,aH.of BS,by simp at hl;omega,λz Kw=>hz z (cM _ Kw),s1 _ _ hR,cy.same s1,KA,λ_ H' s2=>q H' (s1.trans s2),λJI e'=>(by rw [er] at e';cases e')⟩
 | head h rest hn hb =>
  have CA:=hz h bT;refine⟨_,rfl,W,_,_,_,rfl,rfl,lD,gP _ _,rfl,false,by rw [eM (λz=>hn (V.str.inj z))],?_⟩;refine eC ?_;refine⟨_,rfl,1,rfl,2,rfl,W,_,rfl,lD,λp BS=>⟨FZ,λp2 je=>?_⟩⟩;rw [AY] at je ⊢;have s1:=ah BS (.lst (List.map V.str (((h::(":":Str)::rest).drop 1).take 1)));have e1:upd H p (.lst (List.map V.str (((h::(":":Str)::rest).drop 1).take 1))) p=some (.lst [.str ":"]):=af;generalize upd H p (.lst (List.map V.str (((h::(":":Str)::rest).drop 1).take 1)))=H1 at s1 e1 je;have s2:=s1.trans (ah je (.lst [.str ":"]));have e2:=ah je (.lst [.str ":"]) _ _ e1;have e3:upd H1 p2 (.lst [.str ":"]) p2=some (.lst [.str ":"]):=af;generalize upd H1 p2 (.lst [.str ":"])=H2 at s2 e2 e3;refine⟨p,p2,_,_,rfl,rfl,aH.of e2,aH.of e3,rfl,rfl,true,rfl,?_⟩;refine fU ?_;refine⟨_,rfl,W,_,_,_,rfl,rfl,s2.seq lD,gP _ _,h,rfl,CA,λH3 s3=>?_⟩;have s4:=s2.trans s3;refine⟨_,rfl,?_⟩;refine c_ (λhp=>?_) (λhp=>?_)
  .refine⟨_,rfl,W,_,_,_,rfl,rfl,s4.seq lD,gP _ _,h,rfl,CA,_,rfl,_,rfl,?_⟩;refine c_ (λha=>?_) (λha=>?_)
   .have ha:again h=false:=by simpa using ha
    have er:=hb hp ha;refine⟨_,rfl,W,_,_,_,rfl,rfl,s4.seq lD,gP _ _,_,rfl,2,rfl,W,_,rfl,s4.seq lD,λp3 KD=>⟨_,rfl,?_⟩⟩;have s5:=s4.trans (ah KD (.lst (eK (List.map V.str (h::(":":Str)::rest)) (some 2) none)));have e5:upd H3 p3 (.lst (eK (List.map V.str (h::(":":Str)::rest)) (some 2) none)) p3=some (.lst (rest.map V.str)):=by
     rw [af,show ((2:Int))=((2:Nat):Int) from rfl,jf];rfl
    generalize upd H3 p3 (.lst (eK (List.map V.str (h::(":":Str)::rest)) (some 2) none))=H5 at s5 e5;exact⟨h,p3,R,rest,rs,aa,rfl,aH.of e5,by simp at hl;omega,λz Kw=>hz z (cM _ (cM _ Kw)),s5 _ _ hR,cy.same s5,KA,λ_ H' s6=>q H' (s5.trans s6),λJI e'=>(by rw [er] at e';cases e')⟩
   have ha:again h=true:=by simpa using ha
   exact q H3 s4
  have hp:cm h=false:=by simpa using hp
  exact q H3 s4
 | other z rest hn hc hb =>
  have lr:(z::rest).length<=100000:=hl;rw [cH] at lr;refine⟨_,rfl,W,_,_,_,rfl,rfl,lD,gP _ _,rfl,false,by rw [eM (λe=>hn (V.str.inj e))],?_⟩;refine eC ?_;refine⟨_,rfl,1,rfl,2,rfl,W,_,rfl,lD,λp BS=>⟨FZ,λp2 je=>?_⟩⟩;rw [AY] at je ⊢;have s1:=ah BS (.lst (List.map V.str (((z::rest).drop 1).take 1)));have e1:upd H p (.lst (List.map V.str (((z::rest).drop 1).take 1))) p=some (.lst (List.map V.str (rest.take 1))):=af;generalize upd H p (.lst (List.map V.str (((z::rest).drop 1).take 1)))=H1 at s1 e1 je;have s2:=s1.trans (ah je (.lst [.str ":"]));have e2:=ah je (.lst [.str ":"]) _ _ e1;have e3:upd H1 p2 (.lst [.str ":"]) p2=some (.lst [.str ":"]):=af;generalize upd H1 p2 (.lst [.str ":"])=H2 at s2 e2 e3;have ef:FQ (List.map V.str (rest.take 1)) [.str ":"]=false:=by
   cases rest with
   | nil=>rfl
   | cons a r =>
    show ((a == (":":Str)) && true)=false;rw [Bool.and_true,iJ];exact λe=>hc (by rw [e];rfl)
  refine⟨p,p2,_,_,rfl,rfl,aH.of e2,aH.of e3,?_,rfl,false,by rw [ef],?_⟩
  .rw [fY];intro x hx;obtain⟨y,_,rfl⟩:=cT.mp hx;rfl
  refine eC ?_;refine⟨_,rfl,W,_,_,_,rfl,rfl,s2.seq lD,gP _ _,aw,_,rfl,.inr (hS _),rfl,nofun,_,rfl,?_⟩;rw [av nofun];by_cases CA:z∈fM
  .rw [CU z CA];refine fU ?_;refine⟨_,rfl,W,_,rfl,.inl (s2.seq lD),_,_,rfl,rfl,_,rfl,?_⟩;refine c_ (λc=>?_) (λc=>?_)
   .have CB:rest≠[]:=λe=>by
     rw [e] at c;exact absurd (d5 c) (by show ¬(1:Int) < 1;decide)
    have RQ:=hb CA CB;refine⟨_,rfl,1,rfl,W,_,rfl,s2.seq lD,λp3 KD=>?_⟩;have s3:=s2.trans (ah KD (.lst (eK (List.map V.str (z::rest)) (some 1) none)));have e4:upd H2 p3 (.lst (eK (List.map V.str (z::rest)) (some 1) none)) p3=some (.lst (rest.map V.str)):=by
     rw [af,show ((1:Int))=((1:Nat):Int) from rfl,jf];rfl
    generalize upd H2 p3 (.lst (eK (List.map V.str (z::rest)) (some 1) none))=H3 at s3 e4;refine⟨p3,rfl,⟨_,aH.of e4⟩,λD hD=>cb (xs:=rest.map V.str) (λi ys σ2 H4=>ys=((rest.take i).map cm).map V.bl/\(∃y0,σ2=[y0])/\aD H3 H4/\H4 D=some (.lst ys))
     ⟨rfl,⟨none,rfl⟩,ah hD _,af⟩ (λi ys σ2 H4 _ h=>h.2.2.1.seq (aH.of e4)) (λi x ys σ2 H4 ex h=>?_) (λys σ2 H4 h=>?_)⟩
    .obtain⟨rfl,⟨y0,rfl⟩,sm,hd⟩:=h;rw [bH] at ex;obtain⟨y,ey,rfl⟩:=cf.mp ex;have hm:=bQ ey;have li:=(bR.mp ey).1;refine goN (zD ?_);refine⟨_,rfl,y,rfl,hz y (cM _ hm),λH5 s5=>?_⟩;refine⟨s5 _ _ hd,bW (by rw [aC,aC,fh];omega),by rw [di,ey,bu,bu];rfl,⟨_,rfl⟩,λb o hb=>?_,af⟩;rw [aj (λe=>by rw [e,hD] at hb;cases hb)];exact s5 _ _ (sm b o hb)
    obtain⟨rfl,_,sm,hd⟩:=h;rw [aC,de] at hd;refine⟨D,_,rfl,aH.of hd,false,by rw [List.all_map];exact congrArg V.bl RQ,?_⟩;refine eC ?_;exact q H4 (s3.trans sm)
   refine eC ?_;exact q H2 s2
  rw [CT z CA];refine eC ?_;refine eC ?_;exact q H2 s2
end
end fg
namespace L2
open PySem PySem.Spec PyProof.Rows
def B7 (o:Obj)(f:Array Value->Array Value):(o.mapFields f).dict=o.dict:=by
 obtain⟨c,d,dt,sl⟩:=o;cases dt <;> rfl
def rM (h:Heap)(e:Addr)(cls:Value)(dx:Option Addr)(T:Addr)(fl:Value):Prop :=
 ∃oe vs oT ts,h.get? e=some oe/\oe.cls=cls/\oe.dict=dx/\oe.data=.fields vs/\vs[1]?=some (.ref T)/\T≠e/\h.get? T=some oT/\oT.data=.fields ts/\ts[3]?=some fl
structure Moved (fs as:List Addr)(h h':Heap):Prop where
 keep:∀b o,b∉as->b∉fs->h.get? b=some o->h'.get? b=some o
 slot:∀b o,b∉as->h.get? b=some o->∃sl,h'.get? b=some { o with slots:=sl }
def Moved.refl {fs as:List Addr}{h:Heap}:Moved fs as h h:=⟨λ_ _ _ _ e=>e,λ_ o _ e=>⟨o.slots,e⟩⟩
def Moved.trans {fs as:List Addr}{h h1 h2:Heap}(a:Moved fs as h h1)(b:Moved fs as h1 h2):Moved fs as h h2 :=
 ⟨λc o n f e=>b.keep c o n f (a.keep c o n f e),λc o n e=>by
  obtain⟨s1,e1⟩:=a.slot c o n e;obtain⟨s2,e2⟩:=b.slot c _ n e1;exact⟨s2,e2⟩⟩
def Moved.mono {fs as Xs:List Addr}{h h1:Heap}(a:Moved fs as h h1)(s:∀b∈as,b∈Xs):Moved fs Xs h h1 :=
 ⟨λc o n f e=>a.keep c o (λz=>n (s c z)) f e,λc o n e=>a.slot c o (λz=>n (s c z)) e⟩
section
variable {M:Model}{A:Around}{E:Value->Shared->Prop}{s:Shared}{base:Heap}{env:Env}{outer:List Env}{L e:Addr}
def k_ {cls fl:Value}{dx:Option Addr}{T:Addr}{fs:List Addr}{Q:Unit->Shared->Prop}(F:rM s.heap e cls dx T fl)
  (hq:∀h',Moved fs [T] s.heap h'->rM h' e cls dx T .none->Q () { s with heap:=h' }):wpAny M A (setFlight (.ref e) none) Q E s:=by
 obtain⟨oe,vs,oT,ts,he,hc,hx,hd,h1,ne,hT,KS,h3⟩:=F;have sz:3 < ts.size:=(uE.mp h3).1;unfold setFlight;refine aB (gQ he hd h1 ?_);rw [ay (by simp)];refine nj hT KS sz (hq _ ⟨λb o n _ q=>?_,λb o n q=>⟨o.slots,?_⟩⟩ ⟨oe,vs,_,_,?_,hc,hx,hd,h1,ne,pY _ hT (Obj.isFreed_of_fields (qf KS _)),qf KS _,?_⟩)
 .rw [jl _ _ (λz:T=b=>n (by simp [z]))];exact q
 .rw [jl _ _ (λz:T=b=>n (by simp [z]))];exact q
 .rw [jl _ _ ne];exact he
 simp [sz]
def wJ {oe:Obj}{vs:Array Value}{rP:Value}{hn:Bool}{Q:Unit->Shared->Prop}(KQ:A.frames=some (env::outer))(hl:s.heap.FunFrames base (env::outer))(hf:env.frame=some L)
  (he:s.heap.get? e=some oe)(hd:oe.data=.fields vs)(sz:1 < vs.size)
  (hq:∀h' T,Moved (pC (env::outer)) [e] s.heap h'->s.heap.objs.size<=T->rM h' e oe.cls oe.dict T (rawInt L)->Q () { s with heap:=h' }) :
  wpAny M A (do
   let a <-frameOf env
   let pl <-entryPlaceOf L hn
   let b <-EntryCells.newEntry rP a .none (rawInt L) .none pl
   setField (.ref e) 1 b) Q E s:=by
 have efr:e∉pC (env::outer):=λz=>by
  obtain⟨_,o,ho,nf⟩:=hl.mem z;rw [he] at ho;cases ho;exact nf vs hd
 refine aB (wpAny_frameOf_fun KQ hl hf λh1 x1=>aB (wpAny_entryPlaceOf λpl oX=>?_));unfold EntryCells.newEntry newFields;refine aB (nv ?_ (oX.sizeOk5 _ _ _ _ _));have e1:h1.get? e=some oe:=(x1.2.1 e efr).trans he;have ne:h1.objs.size≠e:=iF (aS e1);have hs1:h1.objs.size=s.heap.objs.size:=x1.1;have dF:=qf hd (·.setIfInBounds 1 (Value.ref h1.objs.size));have old:∀(o₂:Obj)(b:Addr)(o:Obj),b≠e->h1.get? b=some o->((h1.push o₂).update e (Obj.mapFields (·.setIfInBounds 1 (Value.ref h1.objs.size)))).get? b=some o:=λo₂ b o nb q=>by
  rw [jl _ _ (cZ nb)];exact bC _ q
 have tb:∀o₂:Obj,o₂.isFreed=false->((h1.push o₂).update e (Obj.mapFields (·.setIfInBounds 1 (Value.ref h1.objs.size)))).get? h1.objs.size=some o₂:=λo₂ nf=>by
  rw [jl _ _ (cZ ne)];exact cI h1 nf
 refine nj (bC _ e1) hd sz (hq _ h1.objs.size ⟨λb o n f q=>?_,λb o n q=>?_⟩ ?_ ⟨_,_,_,_,pY _ (bC _ e1) (Obj.isFreed_of_fields dF),Obj.cls_mapFields _ _,B7 _ _,dF,by simp [sz],ne,tb _ rfl,rfl,?_⟩)
 .exact old _ b o (λz=>n (by simp [z])) ((x1.2.1 b f).trans q)
 .obtain⟨sl,q1⟩:=x1.2.2 b o q;exact⟨sl,old _ b _ (λz=>n (by simp [z])) q1⟩
 .exact Nat.le_of_eq hs1.symm
 first
  | (simp;done)
  | (rcases oX with rfl | ⟨_,_,_,_,_,_,_,rfl⟩ <;> simp)
def ze {oe:Obj}{vs:Array Value}{Q:Unit->Shared->Prop}(KQ:A.frames=some (env::outer))(hl:s.heap.FunFrames base (env::outer))(hf:env.frame=some L)
  (he:s.heap.get? e=some oe)(hd:oe.data=.fields vs)(h1:vs[1]?=some .none)
  (hq:∀h' T,Moved (pC (env::outer)) [e] s.heap h'->s.heap.objs.size<=T->rM h' e oe.cls oe.dict T (rawInt L)->Q () { s with heap:=h' }):wpAny M A (noteFrame (.ref e) env) Q E s:=by
 unfold noteFrame;simp only [hf];refine aB (gQ he hd h1 ?_);rw [av nofun];exact wJ KQ hl hf he hd (uE.mp h1).1 hq
def Bx {cls:Value}{dx:Option Addr}{T0:Addr}{Q:Unit->Shared->Prop}(KQ:A.frames=some (env::outer))(hl:s.heap.FunFrames base (env::outer))(hf:env.frame=some L)
  (F:rM s.heap e cls dx T0 .none)
  (hq:∀h' T,Moved (pC (env::outer)) [e,T0] s.heap h'->s.heap.objs.size<=T->rM h' e cls dx T (rawInt L)->Q () { s with heap:=h' }):wpAny M A (noteFrame (.ref e) env) Q E s:=by
 obtain⟨oe,vs,oT,ts,he,hc,hx,hd,h1,ne,hT,KS,h3⟩:=F;subst hc hx;unfold noteFrame;simp only [hf];refine aB (gQ he hd h1 ?_);rw [ay (by simp)];refine aB (gQ hT KS h3 ?_);rw [av (by simp [rawInt])];refine aB (nj hT KS (uE.mp h3).1 ?_);have PH:∀b,b≠T0->(s.heap.update T0 (Obj.mapFields (·.setIfInBounds 3 Value.none))).get? b=s.heap.get? b:=λb n=>jl _ _ (cZ n);have nT:∀b o,s.heap.get? b=some o->(∀vs,o.data≠.fields vs)->b≠T0:=λb o q nf z=>by
  rw [z,hT] at q;cases q;exact nf ts KS
 refine wJ KQ (hl.of_keeps λb o q nf=>⟨o,(PH b (nT b o q nf)).trans q,rfl⟩) hf ((PH e (cZ ne)).trans he) hd (uE.mp h1).1 λh' T m nw fd=>?_;refine hq h' T ⟨λb o n f q=>m.keep b o (λz=>n (by simp at z;simp [z])) f ((PH b λz=>n (by simp [z])).trans q),λb o n q=>m.slot b o (λz=>n (by simp at z;simp [z])) ((PH b λz=>n (by simp [z])).trans q)⟩ ?_ fd;rw [Heap.size_after_update] at nw;exact nw
end
def r9 (ea:Addr)(cls:Value)(dx:Option Addr):HO:=.ext λh=>∃oe vs,h.get? ea=some oe/\oe.cls=cls/\oe.dict=dx/\oe.data=.fields vs
def AW {P:Program}{w:World}{H:Hp}{h:Heap}{ea:Addr}{cls:Value}{dx:Option Addr}{oe:Obj}{vs:Array Value}(e:h.get? ea=some oe)(c:oe.cls=cls)(d:oe.dict=dx)(f:oe.data=.fields vs) :
  bU P w H h ea (r9 ea cls dx) :=
 ⟨⟨oe,vs,e,c,d,f⟩,⟨oe,e⟩,λ_ _ ⟨o,ws,q,r⟩ k=>⟨o,ws,k o q,r⟩⟩
def rM.ok {P:Program}{w:World}{H:Hp}{h:Heap}{ea T:Addr}{cls fl:Value}{dx:Option Addr}(F:rM h ea cls dx T fl):bU P w H h ea (r9 ea cls dx):=by
 obtain⟨oe,vs,_,_,he,hc,hx,hd,_⟩:=F;exact AW he hc hx hd
def Ph (h0:Heap)(H:Hp)(h:Heap)(ea:Addr)(cls:Value)(dx:Option Addr):Prop :=
 ∃T,rM h ea cls dx T .none/\H T=none/\H ea=some (r9 ea cls dx)/\h0.objs.size<=T/\h0.objs.size<=ea
def xT (P:Program)(w:World):tZ:=λouter H s E e s' =>
 ∃ea cls dx H',e=.ref ea/\s'.os=s.os/\AllBare s'.gens/\Un (pC outer) [] H H' s.heap s'.heap/\j8 P w H' s'.heap/\Ph s.heap H' s'.heap ea cls dx/\E cls dx H'
section
variable {X:Cx}{ai:List (Addr×Obj)}{σ:St}{H:Hp}{s:Shared}{M:Model}{A:Around}{E':Value->Shared->Prop}{E:XK}{ea:Addr}{cls:Value}{dx:Option Addr}
def BJ {as:List Addr}(J:Inv X ai σ H s)(mD:X.stack=X.env::X.outer)(hex:X.ex=[])
  (hn:∀Q:Unit->Shared->Prop,(∀h' T,Moved (pC X.stack) as s.heap h'->s.heap.objs.size<=T->rM h' ea cls dx T (rawInt X.env.locals)->Q () { s with heap:=h' })->wpAny M A (noteFrame (.ref ea) X.env) Q E' s)
  (has:∀b∈as,(H b=none\/b=ea)/\X.s₀.heap.objs.size<=b)(BX:H ea=some (r9 ea cls dx)/\X.s₀.heap.objs.size<=ea)(hE:E cls dx H) :
  wpAny M A (leaving X.env (.ref ea)) (λ_ Gn=>xT X.prog X.w X.outer X.H₀ X.s₀ E (.ref ea) Gn) E' s:=by
 unfold leaving;refine aB (hn _ λh1 T m1 lT F1=>k_ (fs:=pC X.stack) F1 λh2 m2 F2=>?_);have nT:s.heap.get? T=none:=uk lT;have WR:H T=none:=J.bD.fresh lT;have mm:Moved (pC X.stack) (T::as) s.heap h2:=(m1.mono λb hb=>cM _ hb).trans (m2.mono λb hb=>by simp at hb;simp [hb]);have VH:X.s₀.heap.objs.size<=T:=df J.sz lT;have old:∀b o,X.s₀.heap.get? b=some o->b∉T::as:=λb o q z=>by
  rcases aT.mp z with z | z
  .rw [z,uk VH] at q;cases q
  rw [uk (has b z).2] at q;cases q
 have base:Un X.fs [] X.H₀ H X.s₀.heap s.heap:=by have u:=J.base;rw [hex] at u;exact u
 refine⟨ea,cls,dx,H,rfl,J.os,J.bare,⟨?_,?_,base.free,?_,base.kK,base.jO,base.j5⟩,?_,⟨T,F2,WR,BX.1,VH,BX.2⟩,hE⟩
 .intro b o q n f x;refine mm.keep b o (old b o q) (λz=>?_) (base.keep b o q n f x);rcases aT.mp (J.uM b z) with z | z
  .exact absurd (dJ (aS q) (z ▸ J.ok.above)) (jv _)
  exact f z
 .intro b o q n f x;obtain⟨sl,q1⟩:=base.slot b o q n f x;obtain⟨s2,q2⟩:=mm.slot b _ (old b o q) q1;exact⟨s2,q2⟩
 .intro b o q x;obtain⟨o',q1⟩:=base.there b o q x;obtain⟨s2,q2⟩:=mm.slot b _ (old b o q) q1;exact⟨_,q2⟩
 intro a o q;by_cases ha:a=ea
 .subst ha;rw [BX.1] at q;cases q;exact F2.ok
 have tr:∀b,H b≠none->b≠ea->b∉T::as/\b∉pC X.stack:=λb n ne=>⟨λz=>by
  rcases aT.mp z with z | z
  .exact n (z ▸ WR)
  rcases (has b z).1 with y | y
  .exact n y
  exact ne y,λz=>n (J.pK b z)⟩
 refine(J.bD a o q).hV (λb u hb e=>?_) (λ_ z=>z) λ_ _ z=>z;have rY:H b≠none/\b≠ea:=by
  rcases hb with rfl | hb
  .exact⟨by rw [q];exact uv _,ha⟩
  refine⟨by rw [hb];exact uv _,λz=>?_⟩;rw [z,BX.1] at hb;cases hb
 exact mm.keep b u (tr b rY.1 rY.2).1 (tr b rY.1 rY.2).2 e
def vq {oe:Obj}{vs:Array Value}(J:Inv X ai σ H s)(KQ:A.frames=some (X.env::X.outer))(mD:X.stack=X.env::X.outer)(hf:X.env.frame=some X.env.locals)(hex:X.ex=[])
  (he:s.heap.get? ea=some oe)(hd:oe.data=.fields vs)(h1:vs[1]?=some .none)(BX:H ea=some (r9 ea oe.cls oe.dict)/\X.s₀.heap.objs.size<=ea)(hE:E oe.cls oe.dict H) :
  wpAny M A (leaving X.env (.ref ea)) (λ_ Gn=>xT X.prog X.w X.outer X.H₀ X.s₀ E (.ref ea) Gn) E' s:=by
 refine BJ (as:=[ea]) J mD hex (λQ k=>?_) (λb hb=>?_) BX hE
 .have hl:=J.stack;rw [mD] at hl k;exact ze KQ hl hf he hd h1 k
 obtain rfl:b=ea:=by simpa using hb
 exact⟨.inr rfl,BX.2⟩
end
section
variable {P:Program}{w:World}{K:aY}{mg:Str->Option Value}{base:Heap}{N:List Str}{qual:Str}{scope:Scope}{f:Addr}{cd:Value}{A:Around}{outer:List Env}{s:Shared}{H:Hp}{E E':XK}
end
open PySem PySem.Spec PyProof.Rows PySem.W PySem.Builtin PySem.Builtin.ObjectAttr
section
variable {prog:Program}{w:World}{A:Around}{E:Value->Shared->Prop}{K:Frag}{C x:Addr}{s:Shared}{cd:ClassData}
structure XC (K:Frag)(C:Addr)(cd:ClassData):Prop where
 cls:clsIn K C=some cd
 sa:findIn K (.ref C) "__setattr__"=some (some (.builtin "object.__setattr__"))
 pass:∀self:Value,refuseLoop self "__setattr__" cd.mro=pure ()
 obj:cd.mro.contains (.type "object")=true
 dict:cd.hasDict=true
def QO {name:Str}{v:Value}{vs:Array Value}{sl:Array (Option Value)}{Q:Unit->Shared->Prop}(X:K.In s.heap)(c:XC K C cd)(ht:takerIn K C name=some none)
  (hx:s.heap.get? x=some ⟨.ref C,none,.fields vs,sl⟩)
  (h:∀h',(∀b o,b≠x->s.heap.get? b=some o->h'.get? b=some o)->h'.get? x=some ⟨.ref C,some s.heap.objs.size,.fields vs,sl⟩->h'.Ns1 s.heap.objs.size (λy=>if y=name then some v else none) ->
   Q () { s with heap:=h',toks:=s.toks+2 }):wpAny (model prog w) A (setAttr (.ref x) name v) Q E s:=by
 have I:InstAt s.heap x ⟨.ref C,none,.fields vs,sl⟩ C none:=⟨hx,rfl,rfl,trivial⟩;have SF:=PySem.F.store_object;have ne:cd.mro.isEmpty=false:=by
  cases q:cd.mro with
  | nil=>have:=c.obj;rw [q] at this;cases this
  | cons _ _=>rfl
 have sub:Looks (model prog w) s.heap (isInstance (.ref x) (.type "object")) true:=I.type.andThen (looks_mroIn X (by unfold mroIn;rw [c.cls,Option.bind_some,av (by rw [ne];decide),c.obj]));refine set_plain X I c.sa ?_;refine oM SF.slot.plain SF.entry (@check_slot (model prog w) _ _ { s with toks:=s.toks+1 } _ "object" "__setattr__" (.ref x) [.str name s.toks,v] [] _ SF.kind SF.split sub (SF.args (.ref x) _ v) ?_);obtain⟨attr,ha,hr⟩:=Option.bind_eq_some_iff.mp ht;have mro:Looks (model prog w) s.heap (mroOf (.ref C)) cd.mro:=(looks_clsIn X c.cls).andThen .now;have tk:Looks (model prog w) s.heap (storeTaker? attr) none:=by
  cases attr with
  | none=>exact .now
  | some a =>
   obtain⟨b,hb,z⟩:=cf.mp hr;refine(looks_takesIn X hb).andThen ?_;cases b with
   | true=>cases z
   | false=>exact .now
 rw [osa_eq,refuse_eq];refine aB (aB (Looks.here (s:={ s with toks:=s.toks+1 }) I.type (aB (Looks.here (s:={ s with toks:=s.toks+1 }) mro ?_))));rw [c.pass];refine aR (aB (Looks.here (s:={ s with toks:=s.toks+1 }) I.type (aB (Looks.here (s:={ s with toks:=s.toks+1 }) (looks_findIn X ha) (aB (Looks.here (s:={ s with toks:=s.toks+1 }) tk ?_))))));have e1:=bC (h:=s.heap) { cls:=.type "dict",data:=.dict #[] } hx;have nx:x≠s.heap.objs.size:=bx (aS hx);have e2:=pY (λo:Obj=>{ o with dict:=some s.heap.objs.size }) e1 rfl;have e3:((s.heap.push { cls:=.type "dict",data:=.dict #[] }).update x (λo:Obj=>{ o with dict:=some s.heap.objs.size })).get? s.heap.objs.size=some { cls:=.type "dict",data:=.dict #[] }:=by
  rw [jl _ _ nx];exact cI _ rfl
 have n0:((s.heap.push { cls:=.type "dict",data:=.dict #[] }).update x (λo:Obj=>{ o with dict:=some s.heap.objs.size })).Ns s.heap.objs.size (λ_=>none):=⟨_,#[],_,e3,rfl,λe he=>absurd he (by simp),λ_=>rfl⟩;dsimp only;unfold storeInOwnDict;refine aB (aR (aB ?_));unfold ownDictForStores instanceDict;refine aB (wpAny_loadPart hx (aB (Looks.here (s:={ s with toks:=s.toks+1 }) (looks_clsIn X c.cls) ?_)));rw [c.dict];refine aB (wpAny_alloc (aB (wpAny_update e1 (aR ?_))));show wpAny _ _ (storeInDict s.heap.objs.size (.str name s.toks) name v) _ _ _;unfold storeInDict newKeyGuard;refine aB (aR (aB (wpAny_nsSet1 (Heap.Ns1.of_empty n0) λh' n1 sb=>?_)));obtain⟨oD,es,ep,SS,Tq,Tw⟩:=n1.count (Within.cons name v Within.nil);refine aB (wpAny_lookBehind SS (by rw [Tq];exact pastItsLine_dict (df Tw (by rw [gT];show (1:Nat)<=_;decide))) ?_);refine aR (h h' (λb o nb q=>?_) ((sb.2 x nx).trans e2) n1);refine(sb.2 b (bx (aS q))).trans ?_;rw [jl _ _ (cZ nb)];exact bC _ q
end
open PySem PySem.Spec PyProof.Rows PySem.W
abbrev newObj (C:Addr)(dx:Option Addr)(a0:Value):Obj:={ cls:=.ref C,dict:=dx,data:=.fields #[a0,.none,.none,.none,.bool false,.none] }
abbrev jh (rest:List Value):Obj:={ cls:=.type "tuple",data:=.seq rest.toArray }
section
variable {prog:Program}{w:World}{A:Around}{E:Value->Shared->Prop}{h:Heap}{g:Array GenState}{d:Drawn}{t:Nat}{os:OsState}
variable {nm qn:Str}{C N:Addr}{bs bm pV:List Value}{pA:Bool}{sn:List Str}{sub:List Value}{ab:Bool}{col:Option Bool}{dd:Option Addr}{k0 k1 k2 k3 k5:Option Value}{B newId gB:String}
 {mN:Str->Option Value}{rest:List Value}{fI:Addr}{oI:Obj}
def G5 (F:ExcBaseFacts B newId gB pV)(T:OwnTail h pV bm){Q:Fin->Shared->Prop}(hC:h.get? C=some (excClassObj nm qn C N bs bm pA sn sub ab col dd k0 k1 k2 k3 k5 newId))(hn:h.Ns N mN)
  (hi:mN "__init__"=some (.ref fI))(hf:h.get? fI=some oI)(Hg:oI.cls=.type "function")(hz:rest.length<=sizeLine)
  (hq:wpAny (model prog w) A (call (.ref fI) (.ref (h.objs.size+1)::rest)) (λr s'=>r=.none/\Q (.done (.ret (.ref (h.objs.size+1)))) s') E ⟨(h.push (jh rest)).push (newObj C none (.ref h.objs.size)),g,d,t,os⟩) :
  wpAny (model prog w) A (Builtin.«type.__call__» ⟨.ref C::rest,[]⟩) Q E ⟨h,g,d,t,os⟩:=by
 repeat (first
  | with_reducible refine qc hC ?_
  | with_reducible refine wpAny_madeBy_exc hC ?_
  | wp_step)
 refine codeAny_call_builtin_code (Code.quiet_builtin _ F.quiet) (wpAny_check_new_subT F T hC (codeAny_exc_new_subT F T hC ?_ hz));show wpAny _ _ _ _ _ _;have up:∀b o,h.get? b=some o->((h.push (jh rest)).push (newObj C none (.ref h.objs.size))).get? b=some o:=λb o e=>bC _ (bC _ e);have c1:=up _ _ hC;have f1:=up _ _ hf;have n1:=hn.keeps up;have g1:((h.push (jh rest)).push (newObj C none (.ref h.objs.size))).get? (h.objs.size+1)=some (newObj C none (.ref h.objs.size)):=by heap_get
 have me:(Value.ref C::bm).contains (.ref C)=true:=by simp
 unfold isInstance
 repeat (first
  | with_reducible refine qc g1 ?_
  | (with_reducible refine wpAny_isSubtype_exc c1 ?_;rw [me])
  | wp_step)
 show wpAny _ _ (typeLookup (.ref C) _) _ _ _;refine wpAny_typeLookup_tail c1 n1 (T.keeps up) F.mroIs F.init.lookup ?_;rw [hi];refine gR (aB ?_);unfold bindSpecial;refine aB (ky (T := "function") ⟨_,f1,Hg⟩ ?_);rw [ay nofun];refine aR (aB (cw hq (λr s' z=>?_) λ_ _ z=>z));obtain⟨rfl,z⟩:=z
 wp_walk
 exact z
def Kc (F:ExcBaseFacts B newId gB pV)(T:OwnTail h pV bm){Q:Value->Shared->Prop}(hC:h.get? C=some (excClassObj nm qn C N bs bm pA sn sub ab col dd k0 k1 k2 k3 k5 newId))(hn:h.Ns N mN)
  (hi:mN "__init__"=some (.ref fI))(hf:h.get? fI=some oI)(Hg:oI.cls=.type "function")(hz:rest.length<=sizeLine)
  (hq:wpAny (model prog w) (A.under (.builtin "type.__call__" ⟨.ref C::rest,[]⟩)) (call (.ref fI) (.ref (h.objs.size+1)::rest)) (λr s'=>r=.none/\Q (.ref (h.objs.size+1)) s') E
   ⟨(h.push (jh rest)).push (newObj C none (.ref h.objs.size)),g,d,t,os⟩) :
  wpAny (model prog w) A (call (.ref C) rest) Q E ⟨h,g,d,t,os⟩:=by
 have a1:=tc_lookup;have a2:=tc_bind (.ref C);have a3:(⟨h,g,d,t,os⟩:Shared).TypeIs (.ref C) "type" := ⟨_,hC,rfl⟩;refine hZ (codeAny_of_tree ?_);show wpAny _ _ (callAny (.ref C) _) _ _ _
 repeat (any_goals (first
  | assumption
  | with_reducible refine qc hC ?_
  | wp_step))
 exact⟨rfl,codeAny_call_builtin_at (Code.quiet_builtin _ nofun) entry_typeCall (wpAny_check_type_call_sub hC (G5 F T hC hn hi hf Hg hz hq))⟩
end
def F5 (K:Frag)(C fI:Addr)(pV:List Value)(newId:String):Bool:=match K.lookup C with
 | some ⟨.type "type",_,.cls c,sl⟩=>(match c.mro,sl.toList with
  | .ref D::bm,[_,_,_,_,some (.builtin n),_]=>D == C && n == newId && !c.hasDel && tailIn K pV bm && nsOkIn K c.ns && (nsIn K c.ns "__init__" == some (some (.ref fI)))
  | _,_=>false)
 | _=>false
def zd {K:Frag}{h:Heap}{N:Addr}{m:Str->Option Value}{n:Str}{v:Value}(X:K.In h)(G:h.Ns N m)(e:nsIn K N n=some (some v)):m n=some v:=by
 obtain⟨o,es,ep,ho,hd,_,hf⟩:=G;unfold nsIn at e
 split at e
 .rename_i c d Qi n' sl q
  have:=X _ _ q;rw [ho] at this;cases this;cases hd
  split at e
  .rename_i en he
   cases e;rw [<-hf];unfold nsFind findBy;rw [<-Array.find?_toList,he];rfl
  split at e <;> cases e
 cases e
def Ja {K:Frag}{h:Heap}{C fI:Addr}{pV:List Value}{newId:String}(X:K.In h)(q:F5 K C fI pV newId=true) :
  ∃nm qn N bs bm pA sn sub ab col dd k0 k1 k2 k3 k5 mN,h.get? C=some (excClassObj nm qn C N bs bm pA sn sub ab col dd k0 k1 k2 k3 k5 newId)/\h.Ns N mN/\mN "__init__"=some (.ref fI)/\OwnTail h pV bm:=by
 unfold F5 at q
 split at q
 .rename_i dd c sl ho
  split at q
  .rename_i D bm k0 k1 k2 k3 n k5 hm hs
   simp only [lH,beq_iff_eq,nJ] at q;obtain⟨⟨⟨⟨⟨rfl,rfl⟩,Oj⟩,ht⟩,bD⟩,P4⟩:=q;obtain⟨nm,bs,mro,ns,qn,hd,sn,sub,ab,col,del⟩:=c;dsimp only at hm Oj bD P4;subst hm Oj;have pS:sl=#[k0,k1,k2,k3,some (.builtin n),k5]:=by
    obtain⟨l⟩:=sl;simp only at hs;rw [hs]
   subst pS;have hN:h.Ns ns (h.nsMap ns):=.of_isNs (isNs_of_in X bD);exact⟨nm,qn,ns,bs,bm,hd,sn,sub,ab,col,dd,k0,k1,k2,k3,k5,_,X _ _ ho,hN,zd X hN P4,tail_of_in X ht⟩
  cases q
 cases q
def newX (ea C:Addr)(dx:Option Addr):HO:=.ext λh=>∃a0:Addr,h.get? ea=some (newObj C dx (.ref a0))
def vh {P:Program}{w:World}{H:Hp}{h:Heap}{ea C:Addr}{dx:Option Addr}{a0:Addr}(e:h.get? ea=some (newObj C dx (.ref a0))):bU P w H h ea (newX ea C dx) :=
 ⟨⟨a0,e⟩,⟨_,e⟩,λ_ _ ⟨a,q⟩ k=>⟨a,k _ q⟩⟩
section
variable {X:Cx}{ai:List (Addr×Obj)}{σ:St}{H:Hp}{s:Shared}{h':Heap}{ea C:Addr}{dx:Option Addr}
theorem Inv.newX (I:Inv X ai σ H s)(e:H ea=some (newX ea C dx)):∃a0:Addr,s.heap.get? ea=some (newObj C dx (.ref a0)):=(I.bD ea _ e).1
def Inv.Lb {o:HO}{φ:Heap->Prop}{n:Option HO}{t':Nat}(I:Inv X ai σ H s)(e:H ea=some (.ext φ))(k:∀b u,b≠ea->s.heap.get? b=some u->h'.get? b=some u)(hz:∃u,h'.get? ea=some u)
  (vV:ea≠s.heap.objs.size)
  (Ry:∀H',bU X.prog X.w H' h' ea o)(Rx:∀m,n=some m->∀H',bU X.prog X.w H' h' s.heap.objs.size m) :
  Inv X ai σ (upd (match n with | some m=>upd H s.heap.objs.size m | none=>H) ea o) { s with heap:=h',toks:=t' }:=by
 have fr:H s.heap.objs.size=none:=I.bD.fresh (aK _);have other:∀b,b≠ea->b≠s.heap.objs.size->upd (match n with | some m=>upd H s.heap.objs.size m | none=>H) ea o b=H b:=λb n1 n2=>by
  rw [aj n1];cases n with
  | none=>rfl
  | some m=>exact aj n2
 have Ie:∀b u,H b=some u->(∀ψ,u≠.ext ψ)->b≠ea:=λb u q d z=>by
  rw [z,e] at q;cases q;exact d _ rfl
 have Nj:∀b u,H b=some u->b≠s.heap.objs.size:=λb u q z=>by
  rw [z,fr] at q;cases q
 refine I.un ⟨λb u q n1 _ _=>?_,λb u q n1 _ _=>⟨u.slots,?_⟩,λb u q n1 _=>?_,λb u q _=>?_,λb xs q=>?_,λb u v q=>?_,λb ps q=>⟨#[],?_⟩⟩ λa u q=>?_
 .exact k b u (λz=>by rw [z,e] at n1;cases n1) q
 .exact k b u (λz=>by rw [z,e] at n1;cases n1) q
 .rw [other b (λz=>by rw [z,e] at n1;cases n1) (bx (aS q))];exact n1
 .by_cases z:b=ea
  .rw [z];exact hz
  exact⟨u,k b u z q⟩
 .rw [other b (Ie b _ q (λ_ z=>by cases z)) (Nj b _ q)];exact q
 .rw [other b (Ie b _ q (λ_ z=>by cases z)) (Nj b _ q)];exact q
 .rw [other b (Ie b _ q (λ_ z=>by cases z)) (Nj b _ q),ui];exact q
 by_cases z:a=ea
 .subst z;rw [af] at q;cases q;exact Ry _
 by_cases z2:a=s.heap.objs.size
 .subst z2;rw [aj z] at q;cases n with
  | none=>dsimp only at q;rw [fr] at q;cases q
  | some m =>
   dsimp only at q;rw [af] at q;cases q;exact Rx _ rfl _
 rw [other a z z2] at q;refine(I.bD a u q).hV (λb v hb r=>k b v ?_ r) (λb r=>?_) λb xs r=>?_
 .rcases hb with rfl | hb
  .exact z
  exact Ie b _ hb (λ_ y=>by cases y)
 .rw [other b (Ie b _ r (λ_ y=>by cases y)) (Nj b _ r)];exact r
 rw [other b (Ie b _ r (λ_ y=>by cases y)) (Nj b _ r)];exact r
end
section
variable {X:Cx}
def QZ (t:TE):TE:=λσ H Q=>t σ H λv H1=>∃i:Int,v=.int i/\i.natAbs.log2 < 1920/\∀y,Q (.str y) H1
def JQ {e:Expr}{te:TE}{a b:Str}{j j':Nat}{p1 p2 p3 pos:Pos}(he:PE X e te)(ha:a.length<=1000)(hb:b.length<=1000) :
  PE X (.JoinedStr [.Constant (.str a) j p1,.FormattedValue e (-1) none p2,.Constant (.str b) j' p3] pos) (QZ te):=by
 intro ai s σ H Q I h;refine wpAny_JoinedStr ?_;show wpAny _ _ (eval _ X.env) _ _ _;refine Calls.Constant_str ⟨a,_,rfl,?_,?_⟩
 .show (Str.empty++a).length<=sizeLine;rw [strLen_append,gT];show 0+a.length<=_;omega
 show wpAny _ _ (eval _ X.env) _ _ _;refine wpAny_FormattedValue_plain (cx (he ai _ σ H _ (I.tok _) h) λu s1 aV=>?_);obtain⟨v,H1,I1,rv,i,ei,hi,q⟩:=aV;subst ei;obtain⟨tk,rfl⟩:=(show ∃t,u=Value.int i t from rv);have fit:(Str.ofString (toString i)).length<=1921:=by
  rw [PySem.ofString_length];exact int_text_length_le (k:=1920) nofun hi
 have l0:(Str.empty++a).length=a.length:=by rw [strLen_append];exact kC _
 refine wpAny_formatField_int hi ⟨_,_,rfl,?_,?_⟩
 .rw [strLen_append,l0,gT];have:(Str.ofString (toString i)).length<=1921:=fit;show a.length+(Str.ofString (toString i)).length<=_;omega
 show wpAny _ _ (eval _ X.env) _ _ _;have ll:(Str.empty++a++Str.ofString (toString i)++b).length<=sizeLine:=by
  rw [strLen_append,strLen_append,l0,gT];omega
 refine Calls.Constant_str ⟨b,_,rfl,ll,?_⟩;exact⟨ll,.str _,H1,((I1.tok _).tok _).tok _,⟨_,rfl⟩,q _⟩
end
def Jh {H:Hp}{a:Addr}{o:HO}(h:H a=some o):upd H a o=H:=by
 funext b
 by_cases z:b=a
 .rw [z,af,h]
 exact aj z
section
variable {X:Cx}
def Yp (K:Frag)(ta tv:TE)(f:Str):TS:=λD σ H=>tv σ H λy H1=>ta σ H1 λv H2=>∃ea C cd,v=.ref ea/\H2 ea=some (newX ea C none)/\XC K C cd/\takerIn K C f=some none /\
 ∀dx,H2 dx=none->dx≠ea->D.nx σ (upd (upd H2 dx (.xd [(f,y)])) ea (newX ea C (some dx)))
def Gy {o value:Expr}{f:Str}{pos pos':Pos}{ta tv:TE}(ha:PE X o ta)(hv:PE X value tv)(hs:swapsWith value (some (.Attribute o f pos')) pos.line X.env=pure false):PS X (.Assign [.Attribute o f pos'] value pos) (Yp X.K ta tv f):=by
 intro ai s σ H D I h;refine plainObj_wpAny_Assign_Attribute (cx (hv ai s σ H _ I h) λu s1 aV=>?_) hs;obtain⟨y,H1,I1,ry,q⟩:=aV;refine cx (ha ai s1 σ H1 _ I1 q) λov s2 aV=>?_;obtain⟨v,H2,I2,rx,ea,C,cd,ev,eH,c,t,q2⟩:=aV;subst ev;obtain rfl:ov=Value.ref ea:=rx;obtain⟨a0,e0⟩:=I2.newX eH;have lt:ea≠s2.heap.objs.size:=bx (aS e0);refine QO I2.jX c t e0 λh' k e1 n1=>⟨σ,_,?_,q2 s2.heap.objs.size (I2.bD.fresh (aK _)) (cZ lt)⟩;refine I2.Lb (n:=some (.xd [(f,y)])) (o:=newX ea C (some s2.heap.objs.size)) eH k ⟨_,e1⟩ lt (λH'=>vh e1) λm em H'=>?_;cases em;refine⟨_,n1,λg=>?_⟩;by_cases z:g=f
 .subst z;show hJ (List.lookup g [(g,y)]) (if g=g then some u else none);rw [ay rfl];simp only [List.lookup,qe];exact ry
 show hJ (List.lookup g [(f,y)]) (if g=f then some u else none);rw [av z];have zb:(g == f)=false:=by simpa using z
 simp only [List.lookup,zb];trivial
structure BI (K:Frag)(W:Addr)(gB:String):Prop where
 ga:specialIn K (.ref W) "__getattribute__"=some (some (.builtin "type.__getattribute__"))
 rd:∃mc,readsIn K W mc=true/\findCls K (.ref W) mc "__init__"=some (.val (.builtin gB))
 hd:handedIn (.builtin gB)=true
def Yb (K:Frag)(pV:List Value)(newId:String)(t:TA):TE:=λσ H Q=>t σ H λvs H1=>∃ea C fI dx y,vs=[.ref ea,y]/\H1 ea=some (newX ea C dx)/\F5 K C fI pV newId=true/\Q .dP H1
def DI {Wn:Str}{W:Addr}{e1:Expr}{es:List Expr}{p apos pos:Pos}{t:TA}{B newId gB:String}{pV:List Value}{pl:Sem Bool}(F:ExcBaseFacts B newId gB pV)(b:BI X.K W gB)(hg:Gl X Wn)(hm:X.mg Wn=some (.ref W))
  (ha:PA X (e1::es) t)(vC:(Wn == ("__debug__":Str))=false:=by decide)
  (he:starEach (e1::es) X.env=(false,eval e1 X.env)::starEach es X.env:=by rfl)(oX:(backTo pos (starEach es X.env)).any (·.1)=false:=by rfl)
  (ht:eval (.Call (.Attribute (.Name Wn p) "__init__" apos) (e1::es) [] pos) X.env=(do
   let ov <-eval (.Name Wn p) X.env
   standAt apos.atName
   let (f,first) <-holding [ov] (getMethod ov "__init__" pl)
   callWith pos f first (backTo pos (starEach (e1::es) X.env)) (backToKw pos (keywordEach [] X.env))):=by rfl) :
  PE X (.Call (.Attribute (.Name Wn p) "__init__" apos) (e1::es) [] pos) (Yb X.K pV newId t):=by
 intro ai s σ H Q I h;refine methodCall_KW (pl:=pl) (jc I hg hm ?_ vC) ht;obtain⟨mc,r1,r2⟩:=b.rd;refine method_cls I.jX b.ga (cls_value I.jX r1 r2 b.hd ?_);refine PyProof.Rows.callWith_builtin1 (cx (ha pos ai _ σ H _ (I.tok _) h) λus s1 aV=>?_) he oX;obtain⟨vs,H1,I1,r1,ea,C,fI,dx,y,ev,eH,hx,q⟩:=aV;subst ev;obtain⟨a0,e0⟩:=I1.newX eH;obtain⟨nm,qn,N,bs,bm,pA,sn,sub,ab,col,dd,k0,k1,k2,k3,k5,mN,hC,_,_,T⟩:=Ja I1.jX hx;obtain⟨u,u2,rfl,ra,ry⟩:=vals2 r1;have ra:u=Value.ref ea:=ra;subst ra;obtain⟨hp,g,d,tk,os⟩:=s1;refine hZ (oM F.init.plain F.initEntry (wpAny_check_init_subT F T hC e0 rfl ?_));have sz:([u2]:List Value).length<=sizeLine:=by rw [gT];show (1:Nat)<=_;decide
 refine aB (wpAny_newTuple ?_ sz);have g1:=bC (h:=hp) { cls:=.type "tuple",data:=.seq #[u2] } e0;have ne:ea≠hp.objs.size:=bx (aS e0);have g2:=pY (Obj.mapFields (·.setIfInBounds 0 (Value.ref hp.objs.size))) g1 rfl;have J:=I1.Lb (n:=none) (o:=newX ea C dx) (t':=tk) (h':=(hp.push { cls:=.type "tuple",data:=.seq #[u2] }).update ea (Obj.mapFields (·.setIfInBounds 0 (Value.ref hp.objs.size)))) eH
  (λc o nc q=>by rw [jl _ _ (cZ nc)];exact bC _ q) ⟨_,g2⟩ ne (λH'=>vh g2) (λm em=>by cases em)
 dsimp only at J;rw [Jh eH] at J;refine aB ?_;unfold Builtin.BaseException.bexcPut;refine aB (gQ g1 rfl (x:=.ref a0) rfl (aB (nj g1 rfl (show 0 < 6 by decide) ?_)));refine wpAny_letGo (aR ?_);exact⟨.dP,H1,J,rfl,q⟩
def X8 (X:Cx)(C:Addr)(sp:Sp)(E:XK)(t:TA):TE:=λσ H Q=>t σ H λvs H1=>∀ea,H1 ea=none->X.s₀.heap.objs.size<=ea->sp (.ref ea::vs) (upd H1 ea (newX ea C none)) (λv H2=>v=.dP/\Q (.ref ea) H2) E
def JJ {CX:tZ}{k:Nat}{C fI:Addr}{fd:FuncData}{ps:List Str}{sp:Sp}{E:XK}{B newId gB:String}{pV:List Value}{oI:Obj}{ai:List (Addr×Obj)}{σ:St}{H:Hp}{s:Shared}{Q:VK}{us:List Value}{vs:List V}
  (F:ExcBaseFacts B newId gB pV)(hx:F5 X.K C fI pV newId=true)(lk:X.K.lookup fI=some oI)(Hg:oI.cls=.type "function")(G:bA X.prog X.w X.K X.mg X.base CX k fI fd ps sp)(N5:ps.length<=1000)(hr:dB (k+1) X.A)
  (hb:Binds X.K fd ps [])(hp:Passes CX X E)(I:Inv X ai σ H s)(r:aU vs us)
  (h:∀ea,H ea=none->X.s₀.heap.objs.size<=ea->sp (.ref ea::vs) (upd H ea (newX ea C none)) (λv H2=>v=.dP/\Q (.ref ea) H2) E):wpAny (model X.prog X.w) X.A (call (.ref C) us) (EP X ai σ Q) X.xe s:=by
 have q:=h (s.heap.objs.size+1) (I.bD.fresh (gU _)) (df I.sz (gU _));have r2:aU (V.ref (s.heap.objs.size+1)::vs) (Value.ref (s.heap.objs.size+1)::us):=.cons rfl r;have len:=G.len _ _ _ _ q;have l2:(Value.ref (s.heap.objs.size+1)::us++[]).length=ps.length:=by
  rw [dD,<-r2.length];exact len
 have lu:us.length<=sizeLine:=by
  rw [gT];simp only [dD,cH] at l2;omega
 obtain⟨nm,qn,N,bs,bm,pA,sn,sub,ab,col,dd,k0,k1,k2,k3,k5,mN,hC,hN,hi,T⟩:=Ja I.jX hx;have e1:((s.heap.push (jh us)).push (newObj C none (.ref s.heap.objs.size))).get? (s.heap.objs.size+1)=some (newObj C none (.ref s.heap.objs.size)):=by
  have z:=cI (s.heap.push (jh us)) (o:=newObj C none (.ref s.heap.objs.size)) rfl;rwa [i6] at z
 have I2:=I.laid (a:=s.heap.objs.size+1) (o:=newX (s.heap.objs.size+1) C none) (t':=s.toks) (h':=(s.heap.push (jh us)).push (newObj C none (.ref s.heap.objs.size)))
  (λb u z=>bC _ (bC _ z)) (gU _) (vh e1)
 obtain⟨hh,g,d,tk,os⟩:=s;refine Kc F T hC hN hi (I.jX _ _ lk) Hg lu ?_;have b2:=hb _ (Value.ref (hh.objs.size+1)::us) I2.jX l2;rw [dD] at b2;refine hZ (ix (G.run _ X.stack _ _ ⟨Value.ref (hh.objs.size+1)::us,[]⟩ _ _ _ E (hr.make C us []) (I2.E2.make C us []) b2 r2 q) λr s' z=>?_);cases r with
 | error e=>exact hp ai σ _ _ e s' I2 z
 | ok fl =>
  cases fl with
  | ret u =>
   obtain⟨v,H',I3,rv,ev,q3⟩:=I2.after z;subst ev;exact⟨rv,⟨V.ref (hh.objs.size+1),H',I3,rfl,q3⟩⟩
  | next=>exact False.elim z
  | brk=>exact False.elim z
  | cont=>exact False.elim z
def Nf {CX:tZ}{k:Nat}{C fI:Addr}{fd:FuncData}{ps:List Str}{sp:Sp}{E:XK}{B newId gB:String}{pV:List Value}{oI:Obj}{x:Str}{e:Expr}{es:List Expr}{p pos:Pos}{t:TA}
  (F:ExcBaseFacts B newId gB pV)(hx:F5 X.K C fI pV newId=true)(lk:X.K.lookup fI=some oI)(Hg:oI.cls=.type "function")(hkp:keepIn X.K (.ref C)=true)(G:bA X.prog X.w X.K X.mg X.base CX k fI fd ps sp)(N5:ps.length<=1000)(hr:dB (k+1) X.A)
  (hg:Gl X x)(hm:X.mg x=some (.ref C))(hb:Binds X.K fd ps [])(hp:Passes CX X E)
  (ha:PA X (e::es) t)(vC:(x == ("__debug__":Str))=false:=by decide)(he:starEach (e::es) X.env=(false,eval e X.env)::starEach es X.env:=by rfl)(oX:(backTo pos (starEach es X.env)).any (·.1)=false:=by rfl) :
  PE X (.Call (.Name x p) (e::es) [] pos) (X8 X C sp E t):=by
 intro ai s σ H Q I h;refine ka (jc I hg hm ?_ vC);refine callWith_K (h₀:=X.base) I.ok.mod.Kn hkp (cx (ha pos ai s σ H _ I h) λus s1 aV=>?_) he oX;obtain⟨vs,H1,I1,r,q⟩:=aV;refine⟨I1.jX,?_⟩;exact JJ F hx lk Hg G N5 hr hb hp I1 r q
end
section
variable {M:Model}{A:Around}{E:Value->Shared->Prop}{s:Shared}{env:Env}
variable {nm qn:Str}{C N:Addr}{bs bm:List Value}{pA:Bool}{sn:List Str}{sub:List Value}{ab:Bool}{col:Option Bool}{dd:Option Addr}{k0 k1 k2 k3 k5:Option Value}{newId:String}
def Dt {x:Sem Value}{Q:Flow->Shared->Prop}(hh:A.handled=none)
  (h:wpAny M A x (λv s₁=>∃(ea a0 C:Addr)(dx:Option Addr),v=.ref ea/\s₁.heap.get? ea=some (newObj C dx (.ref a0))/\(∃nm qn N bs bm pA sn sub ab col dd k0 k1 k2 k3 k5 newId,s₁.heap.get? C=some (excClassObj nm qn C N bs bm pA sn sub ab col dd k0 k1 k2 k3 k5 newId) /\
   bm.contains (.type "BaseException")=true)/\E (.ref ea) s₁) E s):wpAny M A (raiseStmt env (some x) none) Q E s:=by
 unfold raiseStmt;refine aB (cw h (λv s₁ z=>?_) λ_ _ z=>z);obtain⟨ea,a0,C,dx,rfl,he,⟨nm,qn,N,bs,bm,pA,sn,sub,ab,col,dd,k0,k1,k2,k3,k5,newId,hC,hb⟩,hE⟩:=z;have me:(Value.ref C::bm).contains (.type "BaseException")=true:=by rw [List.contains_cons,hb,Bool.or_true]
 obtain⟨hp,g,d,tk,os⟩:=s₁
 repeat (first
  | with_reducible refine qc he ?_
  | with_reducible refine qc hC ?_
  | (with_reducible refine wpAny_isSubtype_exc hC ?_;rw [me])
  | wp_step)
 exact wpAny_raiseNew_none hh hE
end
section
variable {P:Program}{w:World}{K:Frag}{mg:Str->Option Value}{base:Heap}{N:List Str}{qual:Str}{scope:Scope}{f:Addr}{cd:Value}{A:Around}{outer:List Env}{s₀:Shared}{H₀:Hp}{E:XK}
def X6 (X:Cx)(E:XK)(te:TE):TS:=λ_ σ H=>te σ H λv H1=>∃ea C dx fI pV newId,v=.ref ea/\H1 ea=some (newX ea C dx)/\X.s₀.heap.objs.size<=ea/\F5 X.K C fI pV newId=true/\pV.contains (.type "BaseException")=true /\
 E (.ref C) dx (upd H1 ea (r9 ea (.ref C) dx))
def Dv {e:Expr}{te:TE}{pos:Pos}(he:PE (gK (xT P w) P w K mg base N qual scope f cd A outer s₀ H₀ E) e te) :
  PS (gK (xT P w) P w K mg base N qual scope f cd A outer s₀ H₀ E) (.Raise (some e) none pos) (X6 (gK (xT P w) P w K mg base N qual scope f cd A outer s₀ H₀ E) E te):=by
 intro ai s σ H D I h;rw [arm_exec_Raise];refine aB (ni (Dt (I.ok.hd rfl) (aB (cx (he ai s σ H _ I h) λv s1 aV=>?_))));obtain⟨y,H1,I1,ry,ea,C,dx,fI,pV,newId,ev,eH,new,hx,hb,q⟩:=aV;refine aB (ni (aR ?_));subst ev;obtain rfl:v=Value.ref ea:=ry;obtain⟨a0,e0⟩:=I1.newX eH;obtain⟨nm,qn,Nn,bs,bm,pA,sn,sub,ab,col,dd,k0,k1,k2,k3,k5,mN,hC,hN,hi,T⟩:=Ja I1.jX hx;refine⟨ea,a0,C,dx,rfl,e0,⟨nm,qn,Nn,bs,bm,pA,sn,sub,ab,col,dd,k0,k1,k2,k3,k5,newId,hC,T.hasType hb⟩,?_⟩;have J:=I1.Lb (n:=none) (o:=r9 ea (.ref C) dx) (t':=s1.toks) (h':=s1.heap) eH (λ_ _ _ z=>z) ⟨_,e0⟩ (bx (aS e0)) (λH'=>AW e0 rfl rfl rfl) (λm em=>by cases em);exact cw (vq (E:=E) J I.ok.frames rfl rfl rfl e0 rfl rfl ⟨af,new⟩ q) (λ_ _ z=>z) λ_ _ z=>z
end
section
variable {X:Cx}{ai:List (Addr×Obj)}{σ:St}{H:Hp}{s:Shared}{h':Heap}{ea:Addr}{cls fl:Value}{dx:Option Addr}{T:Addr}
def Inv.moved {cs:List Addr}(J:Inv X ai σ H s)(mm:Moved (pC X.stack) (ea::cs) s.heap h')(BX:H ea=some (r9 ea cls dx))(F:rM h' ea cls dx T fl)
  (Tt:∀b∈cs,H b=none/\X.s₀.heap.objs.size<=b/\b≠X.env.locals/\(∀x c,X.env.cells.lookup x=some c->c≠b)/\∀p∈X.pn++ai,p.1≠b):Inv X ai σ H { s with heap:=h' }:=by
 have ne:∀b,H b=none->b≠ea:=λb n z=>by rw [z,BX] at n;cases n
 have PK:∀b,b≠ea->b∉cs->b∉ea::cs:=λb n m z=>(aT.mp z).elim n m;refine J.call (ch:=cs) ⟨λb o q n f c=>mm.keep b o (PK b (ne b n) c) f q,λb o q n _ c=>mm.slot b o (PK b (ne b n) c) q,λb o q n _=>n,λb o q c=>?_,λ_ _ q=>q,λ_ _ _ q=>q,λb ps q=>⟨#[],by rw [ui];exact q⟩⟩ ?_ J.bare
  λb hb=>⟨.inr (Tt b hb).2.1,(Tt b hb).2.2⟩
 .by_cases z:b=ea
  .obtain⟨oe,_,_,_,he,_⟩:=F;exact⟨oe,z ▸ he⟩
  obtain⟨sl,q1⟩:=mm.slot b o (PK b z c) q;exact⟨_,q1⟩
 intro a o q;by_cases ha:a=ea
 .subst ha;rw [BX] at q;cases q;exact F.ok
 refine(J.bD a o q).hV (λb u hb e=>?_) (λ_ z=>z) λ_ _ z=>z;have rY:H b≠none/\b≠ea:=by
  rcases hb with rfl | hb
  .exact⟨by rw [q];exact uv _,ha⟩
  refine⟨by rw [hb];exact uv _,λz=>?_⟩;rw [z,BX] at hb;cases hb
 exact mm.keep b u (PK b rY.2 λz=>rY.1 (Tt b z).1) (λz=>rY.1 (J.pK b z)) e
def Bb {M:Model}{A:Around}{E:Value->Shared->Prop}{j:Nat}{n:Str}{v:V}{Q:Unit->Shared->Prop}(I:Inv X ai σ H s)(hN:X.N.Nodup)(hj:X.N[j]?=some n)(hl:X.env.scope.names.lookup n=some .local)
  (hv:σ[j]?=some (some v))(h:∀s',Inv X ai (σ.set j none) H s'->Q () s'):wpAny M A (unbindName X.env n) Q E s:=by
 obtain⟨m,hn,lk⟩:=id I.loc;obtain⟨u,_,l⟩:=lk j n v hj hv (.inl hl);have hk:X.env.kindOf n=some .local:=hl;have mn:m n=some u:=by
  rcases l with l | ⟨l,_⟩
  .exact l.2
  rw [hk] at l;rcases l with l | l <;> cases l
 have hc:(X.env.scope.kind == .class || (X.env.scope.kind == .module && X.env.locals != X.env.globals))=false:=by rw [I.ok.kind];rfl
 refine wpAny_unbindName_local hk hn mn hc λh' w' KH hs=>?_;have nl:∀b o,X.s₀.heap.get? b=some o->b≠X.env.locals:=λb o e=>bx (dJ (aS e) I.ok.above);have cellK:∀y c,X.env.cells.lookup y=some c->∀z,s.heap.IsCell c z->h'.IsCell c z:=λy c e z ⟨o,ho,hd⟩=>⟨o,(hs.2 c (I.IK y c e)).trans ho,hd⟩;refine h _ ⟨I.ok,I.os,I.bare,⟨λb o e n' hb hx=>?_,λb o e n' hb hx=>?_,I.base.free,λb o e hx=>?_,I.base.kK,I.base.jO,I.base.j5⟩,⟨_,KH,λi y v' e1 e2 e3=>?_⟩,λy c e=>?_,I.free,I.iW,λp hp=>?_,λb ob e=>?_,by simpa using I.len⟩
 .exact(hs.2 b (nl b o e)).trans (I.base.keep b o e n' hb hx)
 .obtain⟨sl,q⟩:=I.base.slot b o e n' hb hx;exact⟨sl,(hs.2 b (nl b o e)).trans q⟩
 .obtain⟨o',q⟩:=I.base.there b o e hx;exact⟨o',(hs.2 b (nl b o e)).trans q⟩
 .by_cases BV:i=j
  .subst BV;have lt:i < σ.length:=(bR.mp hv).1;rw [uA lt] at e2;cases e2
  rw [List.getElem?_set_ne (λz=>BV z.symm)] at e2;have yn:y≠n:=λz=>BV (qK hN (z ▸ e1) hj);obtain⟨u',ru,l'⟩:=lk i y v' e1 e2 e3;refine⟨u',ru,?_⟩;rcases l' with l' | ⟨k',c,ec,z⟩
  .exact .inl ⟨l'.1,by show (if y=n then w' else m y)=_;rw [av yn];exact l'.2⟩
  exact .inr ⟨k',c,ec,cellK y c ec _ z⟩
 .obtain⟨z,q⟩:=I.cell y c e;exact⟨z,cellK y c e z q⟩
 .obtain⟨e,n',ne,nf,d⟩:=I.pin p hp;exact⟨(hs.2 p.1 ne).trans e,n',ne,nf,d⟩
 refine(I.bD b ob e).hV (λc w'' jq q=>(hs.2 c λz=>?_).trans q) (λ_ q=>q) λ_ _ q=>q;have fr:=I.free;rw [<-z] at fr;rcases jq with y | y
 .rw [<-y,fr] at e;cases e
 rw [fr] at y;cases y
def Inv.away {b:Addr}(I:Inv X ai σ H s)(lb:s.heap.objs.size<=b):X.s₀.heap.objs.size<=b/\b≠X.env.locals/\(∀x c,X.env.cells.lookup x=some c->c≠b)/\∀p∈X.pn++ai,p.1≠b:=by
 have lt:∀{c:Addr}{o:Obj},s.heap.get? c=some o->c≠b:=λe z=>absurd (dJ (aS e) (z ▸ lb)) (jv _);refine⟨df I.sz lb,λz=>absurd (dJ I.lt (z ▸ lb)) (jv _),λx c ec=>?_,λp hp=>lt (I.pin p hp).1⟩;obtain⟨v,o,ho,_⟩:=I.cell x c ec;exact lt ho
abbrev Cx.hold (X:Cx)(ea:Addr):Cx:={ X with A:=X.A.mark (some (.ref ea)),calm:=false,xe:=λ_ _=>False }
theorem Inv.hold (I:Inv X ai σ H s)(ea:Addr):Inv (X.hold ea) ai σ H s :=
 ⟨⟨I.ok.mod,I.ok.kind,I.ok.glob,I.ok.blt,I.ok.above,I.ok.inj,I.ok.has,I.ok.Mo,(λz=>by cases z),I.ok.frames,I.ok.HQ,I.ok.La,I.ok.bs,I.ok.E_,I.ok.By,I.ok.zJ,I.ok.mK,I.ok.Hn⟩,
  I.os,I.bare,I.base,I.loc,I.cell,I.free,I.iW,I.pin,I.bD,I.len⟩
def Inv.Ji {ok:X.Ok}(I:Inv (X.hold ea) ai σ H s):Inv X ai σ H s:=⟨ok,I.os,I.bare,I.base,I.loc,I.cell,I.free,I.iW,I.pin,I.bD,I.len⟩
end
section
variable {X:Cx}{k:Nat}{f W:Addr}{fd:FuncData}{ps:List Str}{sp:Sp}{y fn Cn n:Str}{a:Expr}{as:List Expr}{t:TA}{i j:Nat}{b₀:Stmt}{C4:List Stmt}{tb:TS}{p py cp ap np hp pos:Pos}
end
section
variable {X:Cx}{k:Nat}{f W:Addr}{fd:FuncData}{ps:List Str}{sp:Sp}{fn Cn n:Str}{a:Expr}{as:List Expr}{t:TA}{j:Nat}{b₀:Stmt}{C4:List Stmt}{tb:TS}{p cp ap np hp pos:Pos}
def MD (K:Frag)(sp:Sp)(W:Addr) (j:Nat)(t:TA)(tb:TS):TS:=λD σ H=>t σ H λvs H1=>sp vs H1 (λv H2=>D.nx σ H2) λcls dx H'=>exmOne K cls (.ref W)=some true /\
  ∀ea,H' ea=some (r9 ea cls dx)->tb { nx:=λσ' H''=>(∃v,σ'[j]?=some v)/\D.nx (σ'.set j none) H'',rt:=λ_ _=>False } (σ.set j (some (.ref ea))) H'
def Gz (mD:X.stack=X.env::X.outer)(hfm:X.env.frame=some X.env.locals)(ZZ:∀e s,¬X.xe e s)(G:bA X.prog X.w X.K X.mg X.base (xT X.prog X.w) k f fd ps sp)(hr:dB k X.A)(hg:Gl X fn)(hm:X.mg fn=some (.ref f))(hk:keepIn X.K (.ref f)=true)
  (hb:Binds X.K fd ps [])(ha:PA X (a::as) t)(hN:X.N.Nodup)(hgC:Gl X Cn)(hmC:X.mg Cn=some (.ref W))(hj:X.N[j]?=some n)(hn:X.env.scope.names.lookup n=some .local)
  (hsu:∀ea,xK (X.hold ea) (b₀::C4) tb)
  (vC:(fn == ("__debug__":Str))=false:=by decide)(hdC:(Cn == ("__debug__":Str))=false:=by decide)(he:starEach (a::as) X.env=(false,eval a X.env)::starEach as X.env:=by rfl)(oX:(backTo cp (starEach as X.env)).any (·.1)=false:=by rfl)
  (hs:swapsWith (.Call (.Name fn p) (a::as) [] cp) none ap.line X.env=pure false:=by rfl) :
  PS X (.Try [.Expr (.Call (.Name fn p) (a::as) [] cp) ap] [.ExceptHandler (some (.Name Cn np)) (some n) (b₀::C4) hp] [] [] pos) (MD X.K sp W j t tb):=by
 intro ai s σ H D I h;refine wpAny_Try_except (wpAny_execs_cons (wpAny_Expr_any ?_ I.quiet hs));refine ka (jc I hg hm ?_ vC);refine callWith_K (h₀:=X.base) I.ok.mod.Kn hk (cw (ha cp ai s σ H _ I h) (λus s1 aV=>?_) λe s' z=>absurd z (ZZ e s')) he oX;obtain⟨vs,H1,I1,r,q⟩:=aV;refine⟨I1.jX,?_⟩;have hl:(us++[]).length=ps.length:=by rw [dD,<-r.length];exact G.len _ _ _ _ q
 have b2:=hb s1 us I1.jX hl;rw [dD] at b2;refine hZ (ix (G.run X.A X.stack s1 H1 ⟨us,[]⟩ us vs _ _ hr I1.E2 b2 r q) λr' s' z=>?_);cases r' with
 | ok fl =>
  cases fl with
  | next=>exact False.elim z
  | brk=>exact False.elim z
  | cont=>exact False.elim z
  | ret u =>
   obtain⟨v,H',I3,rv,q3⟩:=I1.after z;exact nr (nr ⟨_,H',I3,q3⟩)
 | error e =>
  obtain⟨ea,cls,dx,H',rfl,os,bare,un,bD,⟨T0,vX,t1,t2,t3,t4⟩,hex,q⟩:=z;have J:=I1.E8 (ch:=[]) os un bD bare (λb z=>absurd z (by simp));have fr:X.A.frames=some (X.env::X.outer):=by rw [<-mD];exact I.ok.frames
  have HQ:=J.stack;rw [mD] at HQ;refine Bx fr HQ hfm vX λh1 T m1 lT F1=>k_ (fs:=pC X.stack) F1 λh2 m2 F2=>?_;rw [<-mD] at m1;have nT:=J.bD.fresh lT;have J1:=J.moved (cs:=[T0]) m1 t2 F1 (λb hb=>by obtain rfl:b=T0:=(by simpa using hb);exact⟨t1,I1.away t3⟩);have J2:=J1.moved (cs:=[T]) (m2.mono λb hb=>cM _ hb) t2 F2 (λb hb=>by obtain rfl:b=T:=(by simpa using hb);exact⟨nT,J.away lT⟩);refine wpAny_handleBy_cons (codeAny_handlers_test (jc (X:=X.hold ea) (J2.hold ea) hgC hmC ?_ hdC)) (by intro z;cases z);have lk:Looks (model X.prog X.w) h2 (typeOf (.ref ea)) cls:=by
   obtain⟨oe,_,_,_,he,hc,_⟩:=F2;rw [<-hc];exact(Looks.ld he).andThen .now
  refine Looks.here (s:={ { { s' with heap:=h1 } with heap:=h2 } with heap:=h2 }) (exm_one J2.jX lk hex) ?_;refine codeAny_handlers_suite_as (k_ (fs:=pC X.stack) F2 λh3 m3 F3=>?_);have J3:=J2.moved (cs:=[T]) (m3.mono λb hb=>cM _ hb) t2 F3 (λb hb=>by obtain rfl:b=T:=(by simpa using hb);exact⟨nT,J.away lT⟩);refine jC (X:=X.hold ea) (v:=.ref ea) (J3.hold ea) hN hj (.inl hn) rfl (λs4 I4=>?_) (.inr hn);refine cw (hsu ea ai s4 _ H' _ I4 (q ea t2)) (λfl s5 z=>?_) λ_ _ z=>False.elim z;cases fl with
  | brk=>obtain⟨_,_,_,z⟩:=z;exact False.elim z
  | cont=>obtain⟨_,_,_,z⟩:=z;exact False.elim z
  | ret u=>obtain⟨_,_,_,_,_,z⟩:=z;exact False.elim z
  | next =>
   obtain⟨σ5,H5,I5,⟨v5,e5⟩,q5⟩:=z;have K5:Inv X ai σ5 H5 s5:=Inv.Ji (ok:=I.ok) I5;refine aB (wpAny_bindName (jC (v:=.dP) K5 hN hj (.inl hn) rfl (λs6 I6=>?_) (.inr hn)));unfold unbindBehindTheSuite;refine wpAny_onRaise (Bb (v:=.dP) I6 hN hj hn ?_ λs7 I7=>?_)
   .exact uA (bR.mp e5).1
   rw [List.set_set] at I7;exact⟨_,H5,I7,q5⟩
end
structure XG (K:Frag)(C:Addr):Prop where
 dict:hasDictIn K C=true
 ga:findIn K (.ref C) "__getattribute__"=some (some (.builtin "BaseException.__getattribute__"))
 gt:findIn K (.ref C) "__getattr__"=some none
 be:mroIn K C (.type "BaseException")=some true
 ob:mroIn K C (.type "object")=some true
 ca:findIn K (.ref C) "__class__"=some (some (.builtin "object.__class__"))
 cg:specialIn K (.builtin "object.__class__") "__get__"=some (some (.builtin "getset_descriptor.__get__"))
 ct:takesIn K (.builtin "object.__class__")=some true
 me:kitCls K (.ref C) (.ref C)=some true
section
variable {prog:Program}{w:World}{A:Around}{E:Value->Shared->Prop}{s:Shared}{K:Frag}{x C:Addr}{ox:Obj}{od:Option Obj}{name:Str}{v:Value}{tk:Tok}
def mY (prog:Program)(w:World)(s:Shared)(x:Addr)(name:Str)(tk:Tok)(v:Value):Prop :=
 ∀(A':Around)(E':Value->Shared->Prop)(Q':Fin->Shared->Prop),Q' (.done (.ret v)) s->wpAny (model prog w) A' (Builtin.«object.__getattribute__» ⟨[.ref x,.str name tk],[]⟩) Q' E' s
def EN (X:K.In s.heap)(I:InstAt s.heap x ox C od)(hf:findObj K C od name=some (.value v)):mY prog w s x name tk v:=by
 intro A' E' Q' q;obtain⟨h0,g0,d0,t0,Rv⟩:=s;have b0:=I.type (M:=model prog w);have b1:=looks_find (M:=model prog w) X I hf;unfold Builtin.«object.__getattribute__»
 repeat lk
 exact q
def ER (X:K.In s.heap)(I:InstAt s.heap x ox C od)(hf:findObj K C od name=some (.bind (.builtin "getset_descriptor.__get__") (.builtin "object.__class__")))(hm:mroIn K C (.type "object")=some true):mY prog w s x name tk (.ref C):=by
 intro A' E' Q' q;obtain⟨h0,g0,d0,t0,Rv⟩:=s;have b0:=I.type (M:=model prog w);have b1:=looks_find (M:=model prog w) X I hf;unfold Builtin.«object.__getattribute__»;refine aB (aR (aB (aR (aB (b0.at (aB (b1.at ?_)))))));show wpAny _ _ (holding [_] (call _ [_,_,_]) >>= ret) _ _ _;refine aB (gR (hZ (class_get X I hm ?_)));exact aR q
set_option maxHeartbeats 400000 in
def HM {fill expr:Bool}{Q:Value->Shared->Prop}(X:K.In s.heap)(G:XG K C)(I:InstAt s.heap x ox C od)(t:mY prog w s x name tk v)(hv:handedIn v=true)(q:Q v s) :
  wpAny (model prog w) A (getAttrBy (.ref x) (.str name tk) fill expr) Q E s:=by
 obtain⟨h0,g0,d0,t0,Rv⟩:=s;have b0:=I.type (M:=model prog w);have b1:=looks_findIn (M:=model prog w) X G.ga;have b2:=looks_findIn (M:=model prog w) X G.gt;have b3:Looks (model prog w) h0 (isInstance (.ref x) (.type "BaseException")) true:=b0.andThen (looks_mroIn X G.be);have n0:(Value.builtin "BaseException.__getattribute__" == Value.builtin "object.__getattribute__")=false:=by decide +kernel
 have n1:(onTheHeap (Value.ref C) && Value.builtin "BaseException.__getattribute__" == Value.builtin "object.__getattribute__")=false:=by rw [n0,Bool.and_false]
 have n2:(expr && onTheHeap (Value.builtin "BaseException.__getattribute__"))=false:=by cases expr <;> rfl
 unfold getAttrBy;refine gR (aB (b0.at (aB (b1.at ?_))));show wpAny _ _ (if (onTheHeap (Value.ref C) && Value.builtin "BaseException.__getattribute__" == Value.builtin "object.__getattribute__")=true then _ else _) _ _ _;rw [av (by rw [n1];exact dS)];unfold getAttrByItsOwn;refine aB ?_;show wpAny _ _ (typeLookup (.ref C) "__getattr__") _ _ _;refine b2.at ?_;refine aB (ng (gR ?_));unfold callGetattribute;rw [av (by rw [n2];exact dS)];unfold boundAndCalled;rw [PySem.F.attr_ValueError.ga.bind (.ref x)];refine aB (aR ?_);show wpAny _ _ (call _ _) _ _ _;refine hZ ?_;show codeAny _ _ (.call (.builtin "BaseException.__getattribute__") ⟨[.ref x,.str name tk],[]⟩) _ _;refine oM PySem.F.attr_ValueError.ga.plain PySem.F.entry_bexc_ga ?_;refine @check_slot (model prog w) _ _ ⟨h0,g0,d0,t0,Rv⟩ "BaseException.__getattribute__" "BaseException" "__getattribute__" (.ref x) [.str name tk] [] _ nofun nofun b3 (PySem.F.args_bexc_ga _ _) ?_;refine t _ _ _ ?_;exact handed_on hv q
def I9 {expr:Bool}{Q:Value->Shared->Prop}(X:K.In s.heap)(G:XG K C)(I:InstAt s.heap x ox C od)(t:mY prog w { s with toks:=s.toks+1 } x name s.toks v)(hv:handedIn v=true)(q:Q v { s with toks:=s.toks+1 }) :
  wpAny (model prog w) A (getAttr (.ref x) name expr) Q E s:=by
 unfold getAttr;exact aB (wpAny_mkText (HM (s:={ s with toks:=s.toks+1 }) X G I t hv q))
def I_ {Q:Option Value->Shared->Prop}(X:K.In s.heap)(G:XG K C)(I:InstAt s.heap x ox C od)(t:mY prog w { s with toks:=s.toks+1 } x name s.toks v)(hv:handedIn v=true)(q:Q (some v) { s with toks:=s.toks+1 }) :
  wpAny (model prog w) A (getAttr? (.ref x) name) Q E s:=by
 unfold getAttr? getAttrBy?;exact aB (wpAny_mkText (aB (ng (HM (s:={ s with toks:=s.toks+1 }) X G I t hv (aR q)))))
def Es (G:XG K C):KitX K (.ref x) (.ref C) (λh=>∃ox od,InstAt h x ox C (some od)) where
 ty:=λ_ _ _ ⟨_,_,I⟩=>I.type
 it:=λM h X _=>(kit_cls (M:=M) X G.me).2.1
 ne:=λh tp dd aO n sl X Sx=>by
  obtain⟨cd,hc,_⟩:=any_some G.dict;cases e:(Value.ref C == .ref tp) with
  | false=>rfl
  | true =>
   exfalso;have e2:=Value.ref.inj (beq_iff_eq.mp e);rw [<-e2] at Sx;unfold clsIn at hc
   split at hc
   .next ho=>rw [X _ _ ho] at Sx;cases Sx
   cases hc
 ca:=λ{prog w A E Q s} X ⟨ox,od,I⟩ k=>by
  obtain⟨cd,hc,_⟩:=any_some G.dict;exact I_ X G I (ER (s:={ s with toks:=s.toks+1 }) X I (findObj_data (by rw [hc];rfl) G.ca G.cg G.ct) G.ob) rfl k
end
section
variable {X:Cx}{ai:List (Addr×Obj)}{σ:St}{H:Hp}{s:Shared}{ea C dx:Addr}{fs:List (Str×V)}
def IS (H:Hp)(ea C dx:Addr)(fs:List (Str×V)):Prop:=H ea=some (r9 ea (.ref C) (some dx))/\H dx=some (.xd fs)
def IS.inst (I:Inv X ai σ H s)(e:IS H ea C dx fs):∃ox od,InstAt s.heap ea ox C (some od)/\∃mA:Str->Option Value,(∀f,hJ (fs.lookup f) (mA f))/\∀name,lookIn name od=some (mA name):=by
 obtain⟨⟨oe,vs,e1,c1,d1,f1⟩,_⟩:=I.bD _ _ e.1;obtain⟨mA,n1,r1⟩:=(show bU _ _ _ _ dx (.xd fs) from I.bD _ _ e.2);obtain⟨od,ho,hl⟩:=tq n1;refine⟨oe,od,⟨e1,c1,?_,?_⟩,mA,r1,hl⟩
 .unfold notCls;rw [f1]
 rw [d1];exact ho
def cY:dZ X (.builtin "isinstance") (λxs H Q=>∃ea C dx fs c u b,xs=[.ref ea,c]/\IS H ea C dx fs/\XG X.K C/\(∀u',RelV c u'->u'=u)/\kitOne X.K (.ref C) u=some b/\Q (.bl b) H):=by
 intro ai s σ H xs us Q I r h;obtain⟨ea,C,dx,fs,c,u,b,rfl,xo,G,hc,e,q⟩:=h;obtain⟨u1,u2,rfl,r1,r2⟩:=vals2 r;cases (show u1=Value.ref ea from r1);cases hc _ r2;obtain⟨ox,od,J,_⟩:=xo.inst I;exact kia_one (Es G) I.jX ⟨ox,od,J⟩ e (λz=>nomatch z) λtk=>⟨.bl b,H,I.tok _,rfl,q⟩
def X1 (K:Frag)(ta:TE)(f:Str):TE:=λσ H Q=>ta σ H λx H1=>∃ea C dx fs v,x=.ref ea/\IS H1 ea C dx fs/\XG K C/\cV K C f/\fs.lookup f=some v/\Q v H1
def AA {e:Expr}{ta:TE}{f:Str}{pos:Pos}(he:PE X e ta)(hb:attributeBase e f X.env (eval e X.env)=eval e X.env):PE X (.Attribute e f pos) (X1 X.K ta f):=by
 intro ai s σ H Q I h;refine A4 hb (cx (he ai s σ H _ I h) λu s1 aV=>?_);obtain⟨x,H1,I1,rx,ea,C,dx,fs,v,ex,xo,G,n,l,q⟩:=aV;subst ex;obtain rfl:u=Value.ref ea:=rx;obtain⟨ox,od,J,mA,ra,hl⟩:=xo.inst I1;obtain⟨u',hu,ru⟩:=hJ.some_of (v:=v) (o:=mA f) (by rw [<-l];exact ra f);exact I9 I1.jX G J (EN (s:={ s1 with toks:=s1.toks+1 }) I1.jX J (findObj_own G.dict n rfl (by rw [hl,hu]))) (tI ru) ⟨v,H1,I1.tok _,ru,q⟩
end
def MK (te:TE):TE:=λσ H Q=>∃R:VK,te σ H R/\∀v H1,R v H1->Q v H1
def PE.mono {X:Cx}{e:Expr}{te:TE}(h:PE X e te):PE X e (MK te):=λai s σ H Q I ⟨R,q,m⟩=>cx (h ai s σ H R I q) λu s1 ⟨x,H1,I1,r1,q1⟩=>⟨x,H1,I1,r1,m _ _ q1⟩
end L2
namespace fg
open PySem L2 M11 PySem.W
def yE:Stmt:=(A1 (top 5)).getD 0 (.Pass ⟨0,0,0,0⟩)
abbrev Cm:List Value:=[.type "ValueError",.type "Exception",.type "BaseException",.type "object"]
structure Np (K:aY)(mg:Str->Option Value)(C W fI:Addr):Prop where
 x:F5 K C fI Cm "ValueError.__new__"=true
 kp:keepIn K (.ref C)=true
 mC:mg "NoRow"=some (.ref C)
 mW:mg "WrightError"=some (.ref W)
 xc:∃cd,XC K C cd
 tk:takerIn K C "row"=some none
 bi:BI K W "ValueError.__init__"
 fn:∃oI,K.lookup fI=some oI/\oI.cls=.type "function"
section
variable {P:Program}{w:World}{K:aY}{mg:Str->Option Value}{base:Heap}{f C W fI:Addr}{fd:FuncData}
def Ak (C:Addr):Sp:=λvs H Q _=>∃(ea:Addr) (n:Nat),vs=[.ref ea,.int (n:Int)]/\n<=1000000/\H ea=some (newX ea C none)/\∀dx,H dx=none->dx≠ea->Q .dP (upd (upd H dx (.xd [("row",.int (n:Int))])) ea (newX ea C (some dx)))
def Ge:aM ["self","row"] ["self","row"] (ax yE):=i5 rfl rfl rfl rfl nofun
def DU (F:hU K "__init__" "NoRow.__init__" yE f fd)(N:Np K mg C W f):bA P w K mg base e_ 1 f fd ["self","row"] (Ak C):=by
 refine F.ok Ge (λvs H Q E h=>?_) (λdG A outer s H vs Q E hr h=>?_)
 .obtain⟨ea,n,rfl,_⟩:=h;rfl
 obtain⟨ea,n,rfl,hn,eH,q⟩:=h;refine⟨_,ao (cv (DI PySem.F.excBase_ValueError N.bi rfl N.mW (ae (pv 0) (ae (JQ (pv 1) nofun nofun) ak))))
  (au (Gy (pv 0) (pv 1) rfl)),?_⟩
 obtain⟨cd,xc⟩:=N.xc;refine⟨_,rfl,_,rfl,_,rfl,?_,λy=>⟨ea,C,f,none,_,rfl,eH,N.x,?_⟩⟩
 .show ((n:Int).natAbs).log2 < 1920;have:(n:Int).natAbs=n:=Int.natAbs_natCast n;rw [this];by_cases z:n=0
  .subst z;decide
  exact(Nat.log2_lt z).mpr (oK hn (dJ (show 1000000 < 2 ^ 20 by decide) (Nat.pow_le_pow_right nofun nofun)))
 exact⟨_,rfl,_,rfl,ea,C,cd,rfl,eH,xc,N.tk,λdx h1 h2=>q dx h1 h2⟩
end
def Rz (P:Program)(w:World)(K:aY)(mg:Str->Option Value)(base:Heap)(C:Addr):Prop :=
 ∃W fI fd,Np K mg C W fI/\bA P w K mg base e_ 1 fI fd ["self","row"] (Ak C)/\Binds K fd ["self","row"] []
def Fn (C:Addr)(H:Hp)(E:XK) (n:Nat):Prop:=∀dx H',aD H H'->H' dx=some (.xd [("row",.int (n:Int))])->E (.ref C) (some dx) H'
def Fn.mono {C:Addr}{H H1:Hp}{E:XK}{n:Nat}(h:Fn C H E n)(s:aD H H1):Fn C H1 E n:=λdx H' s' e=>h dx H' (s.trans s') e
section
variable {P:Program}{w:World}{K:aY}{mg:Str->Option Value}{base:Heap}{N:List Str}{qual:Str}{scope:Scope}{f C:Addr}{cd:Value}{A:Around}{outer:List Env}{s₀:Shared}{H₀:Hp}{E:XK}
def X5 (C:Addr)(E:XK)(te:TE):TS:=λ_ σ H=>te σ H λv H1=>∃n:Nat,v=.int (n:Int)/\n<=1000000/\Fn C H1 E n
def Na {e:Expr}{te:TE}{p cp pos:Pos}(R:Rz P w K mg base C)(hr:dB 2 (gK (xT P w) P w K mg base N qual scope f cd A outer s₀ H₀ E).A)(hg:Gl (gK (xT P w) P w K mg base N qual scope f cd A outer s₀ H₀ E) "NoRow")
  (he:PE (gK (xT P w) P w K mg base N qual scope f cd A outer s₀ H₀ E) e te)(mD:starEach [e] (gK (xT P w) P w K mg base N qual scope f cd A outer s₀ H₀ E).env=(false,eval e (gK (xT P w) P w K mg base N qual scope f cd A outer s₀ H₀ E).env)::starEach [] (gK (xT P w) P w K mg base N qual scope f cd A outer s₀ H₀ E).env:=by rfl) :
  PS (gK (xT P w) P w K mg base N qual scope f cd A outer s₀ H₀ E) (.Raise (some (.Call (.Name "NoRow" p) [e] [] cp)) none pos) (X5 C E te):=by
 obtain⟨W,fI,fd,Nn,G,b⟩:=R;obtain⟨oI,lk,Hg⟩:=Nn.fn;have raise:=Dv (pos:=pos) (Nf (p:=p) (pos:=cp) PySem.F.excBase_ValueError Nn.x lk Hg Nn.kp G nofun hr hg Nn.mC b qH (ae he.mono ak mD) nofun mD rfl);intro ai s σ H D I h;refine raise ai s σ H D I ⟨_,h,λv H1 aV=>?_⟩;obtain⟨n,ev,hn,q⟩:=aV;subst ev;intro ea h1 h2;refine⟨ea,n,rfl,hn,af,λdx d1 d2=>⟨rfl,ea,C,some dx,fI,Cm,_,rfl,af,h2,Nn.x,nofun,?_⟩⟩;have hd:H1 dx=none:=by rw [aj d2] at d1;exact d1
 refine q dx _ (λc o e=>?_) ?_
 .have n1:c≠ea:=aq e h1;have n2:c≠dx:=aq e hd;rw [aj n1,aj n1,aj n2,aj n1];exact e
 rw [aj d2,aj d2,af]
end
section
def YQ {x qual:Str}{st:Stmt}{N ps:List Str}{k:Nat}{sp:Sp}(F:hU K x qual st f fd)(S:aM N ps (ax st))(len:∀vs H Q E,sp vs H Q E->vs.length=ps.length)
  (g9:∀(dG:Value)(A:Around)(outer:List Env)(s:Shared)(H:Hp)(vs:List V)(Q:VK)(E:XK),dB k (A.deeper (PyProof.Rows.envOfC qual (ax st) s.heap.objs.size f dG))->sp vs H Q E ->
   ∃t,xK (gK (xT P w) P w K mg base N qual (ax st) f dG A outer s H E) (bV st) t/\t { nx:=λ_ H'=>Q .dP H',rt:=Q } (start N vs) H):bA P w K mg base (xT P w) (k+1) f fd ps sp:=by
 obtain⟨oc,od,kV,doc,pm,an,dG,ct,vS,rfl,lk,rX⟩:=F.ex;exact AU lk rX S len λA outer s H vs Q E hr px=>g9 dG A outer s H vs Q E hr px
def wq (K:aY)(C:Addr):Sp:=λvs H _ E=>∃(z:Str) (pre post:List Str)(b z0:Str) (vQ:List Str)(r0 s0:List aA),vs=[.str z]/\z.length<=90000/\Txt.split z ⟨#[10]⟩=pre++b::post/\br [] [] (pre.map wordsOf) r0 s0/\r0.length<=100000/\wordsOf b=z0::vQ/\(sg z0).head?≠some 35/\ji r0 (z0::vQ)/\Fn C H E (pre.length+1)
def Q6 (K:aY):Sp:=λvs H Q E=>nS K vs H Q E\/qB K vs H Q E
def Br {C:Addr}(F:hU K "read_grammar" "read_grammar" uY f fd)(T:Txt mg)(RZ:Rz P w K mg base C)(GR:aG P w K mg base 3 "read_row" ["words","rules","strengths"] (Q6 K)):bA P w K mg base (xT P w) 9 f fd ["text"] (wq K C):=by
 refine YQ F eZ (λvs H Q E h=>?_) (λdG A outer s H vs Q E hr h=>?_)
 .obtain⟨z,pre,post,b,z0,vQ,r0,s0,rfl,_⟩:=h;rfl
 obtain⟨z,pre,post,b0,z0,vQ,r0,s0,rfl,hz,px,tok,aaa,TB,Tz,bad,tell⟩:=h;refine⟨_,ao (aI (i:=1) eZ.nd rfl (bO rfl) (bo ak))
  (ao (aI (i:=2) eZ.nd rfl (bO rfl) (bo ak))
  (ao (cD PassesOwn.leaving rfl (wB rfl T.E3 (ae (cX iK uB uC mr (pv 0) (ae aF ak)) ak)) (eJ rfl (aE (az (i:=3) eZ.nd rfl (bO rfl)) (aE (az (i:=4) eZ.nd rfl (bO rfl)) b_)))
   (ao (ik (iy:=5) ["word"] [] eZ.nd rfl rfl rfl (bK (cX iK uB uC mr (pv 4) (ae aF ak))) (bL rfl rfl) nofun rfl nofun
    (λ_ _ _ _ _=>az (i:=0) (show (["word"]:List Str).Nodup by decide +kernel) rfl (bO rfl)) (λ_ _ _ _ _=>gI (n5 K (pv 0) (λ_=>rfl))) (λ_ _ _ _ _=>pv 0))
   (au (b9 (PW.pt (gZ (gp (pv 5) (λ_=>rfl)) (gZ (jG (fc (cX iK PySem.F.slot_str_startswith PySem.F.type_str_startswith s_ (aQ aL (pv 5) ar (λ_ _=>rfl)) (ae aF ak))))
    (i9 (jG (fc (bp (GR.mono (by decide:3<=8)) hr rfl (ae (pv 5) (ae (pv 1) (ae (pv 2) ak)))))))))) (au (Na RZ (hr.mono nofun) rfl (pv 3))) aZ))))
  (au d7))),?_⟩
 refine⟨v9,λR Ow=>⟨v9,λS EK=>?_⟩⟩;have Eh:R≠S:=λe=>by rw [<-e,af] at EK;cases EK
 have fS:H S=none:=by rw [aj Eh.symm] at EK;exact EK
 have s1:aD H (upd (upd H R (.lst [])) S (.lst [])):=(ah Ow _).trans (ah EK _);have e1:upd (upd H R (.lst [])) S (.lst []) R=some (.lst []):=by rw [aj Eh,af]
 have e2:upd (upd H R (.lst [])) S (.lst []) S=some (.lst []):=af;generalize upd (upd H R (.lst [])) S (.lst [])=H1 at s1 e1 e2;have Sr:z.length+2<=sizeLine:=fits ∅;refine⟨_,rfl,rfl,z,⟨#[10]⟩,rfl,rfl,nofun,Sr,λL hL=>?_⟩;have s2:=ah hL (.lst ((Txt.split z ⟨#[10]⟩).map V.str));have e3:upd H1 L (.lst ((Txt.split z ⟨#[10]⟩).map V.str)) L=some (.lst ((Txt.split z ⟨#[10]⟩).map V.str)):=af;have RU:L≠R:=λe=>by rw [e,e1] at hL;cases hL
 have RT:L≠S:=λe=>by rw [e,e2] at hL;cases hL
 generalize upd H1 L (.lst ((Txt.split z ⟨#[10]⟩).map V.str))=H2 at s2 e3;generalize AN:Txt.split z ⟨#[10]⟩=rows at e3 px;have oX:rows.length=pre.length+1+post.length:=by rw [px,bZ,cH];omega
 refine⟨L,_,rfl,aH.of e3,tK (xs:=rows.map V.str) (λi σ H3=>∃(rs ss:List Addr)(ru st:List aA)(y3 y4 y5:Option V),σ=[some (.str z),bG R,bG S,y3,y4,y5]/\xJ R S H2 H3/\H3 R=some (.lst (rs.map V.ref))/\bq K H3 rs ru/\H3 S=some (.lst (ss.map V.ref))/\bq K H3 ss st/\i<=pre.length/\br ru st ((pre.drop i).map wordsOf) r0 s0)
  ⟨[],[],[],[],none,none,none,rfl,λ_ _ _ _ h=>h,s2 _ _ e1,.nil,s2 _ _ e2,.nil,dC _,tok⟩ ?_ ?_ ?_⟩
 .rintro i σ H3 _ ⟨rs,ss,ru,st,y3,y4,y5,_,sc,_⟩;exact aH.of (sc _ _ RU RT e3)
 .rintro i x σ H3 t ex ⟨rs,ss,ru,st,y3,y4,y5,rfl,sc,hR,cy,hS,pS,Ww,tk⟩ ht;rw [bH] at ex;obtain⟨row,er,rfl⟩:=cf.mp ex;obtain⟨hi,IE⟩:=bR.mp er;have SI:row.length<=90000:=df (split_len (by rw [AN];exact bQ er)) hz;refine⟨t,_,rfl,bj.of af,rfl,_,_,rfl,_,_,rfl,rfl,?_⟩;have s3:=ah ht (.tup [.int ((i+1:Nat):Int),.str row]);generalize upd H3 t (.tup [.int ((i+1:Nat):Int),.str row])=H4 at s3;refine⟨_,rfl,rfl,row,⟨#[32]⟩,rfl,rfl,nofun,fits ∅,λL2 TM=>?_⟩;have s4:=s3.trans (ah TM (.lst ((Txt.split row ⟨#[32]⟩).map V.str)));have e4:upd H4 L2 (.lst ((Txt.split row ⟨#[32]⟩).map V.str)) L2=some (.lst ((Txt.split row ⟨#[32]⟩).map V.str)):=af;generalize upd H4 L2 (.lst ((Txt.split row ⟨#[32]⟩).map V.str))=H5 at s4 e4;have R8:=PyProof.Rows.split_le row ⟨#[32]⟩;refine⟨L2,rfl,⟨_,aH.of e4⟩,λD hD=>cb (tif:=λσ H Q=>fE 0 σ H λx H'=>∃k,zS K x H' k/\Q k H') (xs:=(Txt.split row ⟨#[32]⟩).map V.str)
   (λj ys σ2 H6=>ys=(((Txt.split row ⟨#[32]⟩).take j).filter λu=>((u.length:Int) != 0)).map V.str/\(∃y0,σ2=[y0])/\aD H5 H6/\H6 D=some (.lst ys))
   ⟨rfl,⟨none,rfl⟩,ah hD _,af⟩ (λj ys σ2 H6 _ h=>h.2.2.1.seq (aH.of e4)) (λj x ys σ2 H6 ex h=>?_) (λys σ2 H6 h=>?_)⟩
  .obtain⟨rfl,⟨y0,rfl⟩,sm,hd⟩:=h;rw [bH] at ex;obtain⟨u,eu,rfl⟩:=cf.mp ex;have Z4:=split_len (bQ eu);refine goN ?_;refine⟨_,rfl,((u.length:Int) != 0),⟨fits ∅,rfl⟩,?_⟩;have et:(((Txt.split row ⟨#[32]⟩).take (j+1)).filter λu=>((u.length:Int) != 0))=(((Txt.split row ⟨#[32]⟩).take j).filter λu=>((u.length:Int) != 0))++(if ((u.length:Int) != 0)=true then [u] else []):=by
    rw [di,eu,lK]
    congr 1
    simp only [um,nE,List.filter_nil]
   refine c_ (λc=>?_) (λc=>?_)
   .rw [ay c] at et;refine⟨_,rfl,hd,bW ?_,by rw [et,bu];rfl,⟨_,rfl⟩,λb o hb=>?_,af⟩
    .rw [aC];have l1:=lL (λu:Str=>((u.length:Int) != 0)) ((Txt.split row ⟨#[32]⟩).take j);have l2:=List.length_take_le' j (Txt.split row ⟨#[32]⟩);omega
    rw [aj (λe=>by rw [e,hD] at hb;cases hb)];exact sm b o hb
   rw [av c,dD] at et;exact⟨by rw [et],⟨_,rfl⟩,sm,hd⟩
  obtain⟨rfl,_,sm,hd⟩:=h;rw [aC,de] at hd;have hd:H6 D=some (.lst ((wordsOf row).map V.str)):=hd;have s6:=s4.trans sm;have lw:(wordsOf row).length<=100000:=by
   have l1:=lL (λu:Str=>((u.length:Int) != 0)) (Txt.split row ⟨#[32]⟩);have:(wordsOf row).length<=(Txt.split row ⟨#[32]⟩).length:=l1;omega
  have zw:∀u∈wordsOf row,u.length<=sizeLine:=λu hu=>by
   have:=split_len (jk.mp hu).1;exact fits ∅
  have HX:xJ R S H2 H6:=λb o h1 h2 h3=>s6 _ _ (sc b o h1 h2 h3);have lr:=bM cy;have ls:=bM pS;have lrr:=bM cy;refine(Nat.lt_or_ge i pre.length).symm.elim (λPZ=>?_) (λPZ=>?_)
  .have ei:i=pre.length:=by omega
   subst ei;rw [px,p5 (aK _),Nat.sub_self] at er;cases er;rw [ub] at tk;cases tk;rw [TB] at hd lw zw;refine⟨_,rfl,true,.inl ⟨_,aH.of hd,rfl⟩,?_⟩;refine fU ?_;refine⟨_,rfl,D,_,_,_,rfl,rfl,aH.of hd,gP _ _,rfl,z0,⟨#[35]⟩,rfl,rfl,false,by rw [iQ,beq_false_of_ne Tz],?_⟩;refine fU ?_;refine⟨_,rfl,_,rfl,_,rfl,.inr ⟨D,R,S,z0::vQ,rs,r0,rfl,aH.of hd,lw,zw,s6 _ _ hR,cy.same s6,∅,bad,λH7 s7=>⟨false,rfl,?_⟩⟩⟩;refine fU ?_;exact⟨_,rfl,pre.length+1,rfl,by have:=PyProof.Rows.split_le z ⟨#[10]⟩;rw [AN] at this;omega,tell.mono ((λb o hb=>s7 _ _ (HX b o (aq hb Ow) (aq hb fS) (s2 _ _ (s1 _ _ hb)))):aD H H7)⟩
  have Wx:i < pre.length:=by omega
  have ID:pre[i]?=some row:=by
   rw [px,sC Wx] at er;exact er
  have Qj:pre[i]=row:=(bR.mp ID).2;rw [v7 Wx,Qj,bz] at tk;generalize wordsOf row=W at tk hd lw zw;cases tk with
  | none _ _ _ _ _ tk =>
   refine⟨_,rfl,false,.inl ⟨[],aH.of hd,rfl⟩,?_⟩;refine eC ?_;refine eC ?_;exact⟨rs,ss,ru,st,_,_,_,rfl,HX,s6 _ _ hR,cy.same s6,s6 _ _ hS,pS.same s6,PZ,tk⟩
  | mark _ _ u ws _ _ _ h tk =>
   refine⟨_,rfl,true,.inl ⟨_,aH.of hd,rfl⟩,?_⟩;refine fU ?_;refine⟨_,rfl,D,_,_,_,rfl,rfl,aH.of hd,gP _ _,rfl,u,⟨#[35]⟩,rfl,rfl,true,by rw [iQ,h];rfl,?_⟩;refine eC ?_;refine eC ?_;exact⟨rs,ss,ru,st,_,_,_,rfl,HX,s6 _ _ hR,cy.same s6,s6 _ _ hS,pS.same s6,PZ,tk⟩
  | row _ _ u ws _ r1 s1 _ _ h ok l1 l2 tk =>
   refine⟨_,rfl,true,.inl ⟨_,aH.of hd,rfl⟩,?_⟩;refine fU ?_;refine⟨_,rfl,D,_,_,_,rfl,rfl,aH.of hd,gP _ _,rfl,u,⟨#[35]⟩,rfl,rfl,false,by rw [iQ,beq_false_of_ne h],?_⟩;refine fU ?_;refine⟨_,rfl,_,rfl,_,rfl,.inl ⟨D,R,S,u::ws,rs,ss,ru,st,r1,s1,rfl,aH.of hd,lw,zw,s6 _ _ hR,cy.same s6,∅,s6 _ _ hS,pS.same s6,∅,Eh,ok,λLS LM H7 Q9 TH EB TF Kz=>⟨true,rfl,?_⟩⟩⟩;refine eC ?_;exact⟨LS,LM,r1,s1,_,_,_,rfl,λb o h1 h2 h3=>Q9 b o h1 h2 (HX b o h1 h2 h3),TH,EB,TF,Kz,PZ,tk⟩
 rintro σ H3 ⟨rs,ss,ru,st,y3,y4,y5,rfl,sc,hR,cy,hS,pS,Ww,tk⟩;rw [aC] at Ww;omega
end
abbrev yI:Stmt:=top 61
abbrev qG:Stmt:=top 62
abbrev kM:Stmt:=top 63
def Fd:List Str:=["rows","rows y","rows : y : z","rows : :",": : y","rows* : y","a+ : y","left","none","left a | b","left a : b",("rows : ":Str)++mf 120 15,mf 120 15++(" : y":Str),"rows : y :*+","right |?","rows :y",("left ":Str)++mf 119 15,"none : y |+"]
section
def Ao:Sp:=λvs H Q _=>∃d:Int,vs=[.int d]/\∀(t:Str)(H':Hp),aD H H'->t∈Fd->Q (.str t) H'
def uV:aM ["_law_draw","_law_some"] ["_law_draw"] (ax yI):=i5 rfl rfl rfl rfl nofun
def D_ (F:hU K "_law_bad" "_law_bad" yI f fd):bA P w K mg base e_ 1 f fd ["_law_draw"] Ao:=by
 refine F.ok uV (λvs H Q E h=>?_) (λdG A outer s H vs Q E hr h=>?_)
 .obtain⟨d,rfl,_⟩:=h;rfl
 obtain⟨d,rfl,q⟩:=h;refine⟨_,@ao _ _ _ _ _ (@aI _ _ 1 _ _ _ _ uV.nd rfl (bO rfl) (@bo _ _ _ _ (@ae _ _ _ _ _ (@aF _ _ _ _) (@ae _ _ _ _ _ (@aF _ _ _ _) (@ae _ _ _ _ _ (@aF _ _ _ _) (@ae _ _ _ _ _ (@aF _ _ _ _) (@ae _ _ _ _ _ (@aF _ _ _ _) (@ae _ _ _ _ _ (@aF _ _ _ _) (@ae _ _ _ _ _ (@aF _ _ _ _) (@ae _ _ _ _ _ (@aF _ _ _ _) (@ae _ _ _ _ _ (@aF _ _ _ _) (@ae _ _ _ _ _ (@aF _ _ _ _) (@ak _) rfl) rfl) rfl) rfl) rfl) rfl) rfl) rfl) rfl) rfl)) rfl (.inr rfl))
  (@ao _ _ _ _ _ (@aI _ _ 1 _ _ _ _ uV.nd rfl (bO rfl) (@bf _ _ _ _ _ _ _ _ iC (pv 1) (@bo _ _ _ _ (@ae _ _ _ _ _ (@aF _ _ _ _) (@ae _ _ _ _ _ (@bf _ _ _ _ _ _ _ _ g7 (@aF _ _ _ _) (@bf _ _ _ _ _ _ _ _ pO (@aF _ _ _ _) (@ar _ _ _ _))) (@ae _ _ _ _ _ (@bf _ _ _ _ _ _ _ _ g7 (@bf _ _ _ _ _ _ _ _ pO (@aF _ _ _ _) (@ar _ _ _ _)) (@aF _ _ _ _)) (@ae _ _ _ _ _ (@aF _ _ _ _) (@ae _ _ _ _ _ (@aF _ _ _ _) (@ae _ _ _ _ _ (@aF _ _ _ _) (@ak _) rfl) rfl) rfl) rfl) rfl) rfl))) rfl (.inr rfl))
  (@au _ _ _ (@aW _ _ _ _ (@aQ _ _ _ _ _ _ _ aL (@bf _ _ _ _ _ _ _ _ iC (pv 1) (@bo _ _ _ _ (@ae _ _ _ _ _ (@bf _ _ _ _ _ _ _ _ g7 (@aF _ _ _ _) (@bf _ _ _ _ _ _ _ _ pO (@aF _ _ _ _) (@ar _ _ _ _))) (@ae _ _ _ _ _ (@aF _ _ _ _) (@ak _) rfl) rfl))) (@bf _ _ _ _ _ _ _ _ dH (pv 0) (@ar _ _ _ _)) (λ_ _=>rfl))))) , ?_⟩
 obtain⟨t,ht,O0⟩:=Qv (zs:=Fd) 18 nofun rfl d;refine⟨QK,λL1 h1=>⟨_,rfl,120,15,rfl,rfl,nofun,nofun,_,_,rfl,rfl,fits (by rw [md];show 7+15<=1000000;decide),120,15,rfl,rfl,nofun,nofun,_,_,rfl,rfl,fits (by rw [md];show 15+4<=1000000;decide),Vi,λL2 h2=>?_⟩⟩;refine⟨L1,L2,_,_,rfl,rfl,ah h2 _ _ _ af,af,QI,λL3 h3=>?_⟩;refine⟨_,rfl,119,15,rfl,rfl,nofun,nofun,_,_,rfl,rfl,fits (by rw [md];show 5+15<=1000000;decide),kc,λL4 h4=>?_⟩;refine⟨L3,L4,_,_,rfl,rfl,ah h4 _ _ _ af,af,QH,λL5 h5=>?_⟩;exact⟨_,rfl,_,_,rfl,rfl,(by show (0:Int) < 18;decide),L5,_,_,_,rfl,rfl,aH.of af,O0,q t _ ((ah h1 _).trans ((ah h2 _).trans ((ah h3 _).trans ((ah h4 _).trans (ah h5 _))))) ht⟩
def Cu (K:aY)(mg:Str->Option Value)(C:Addr)(x:Str):Prop:=∃a:Addr,mg x=some (.ref a)/\kitOne K (.ref C) (.ref a)=some false
structure LG (K:aY)(mg:Str->Option Value)(C W:Addr):Prop where
 o1:Cu K mg C "NoPattern"
 o2:Cu K mg C "NoWord"
 o3:Cu K mg C "NoRules"
 o4:Cu K mg C "Twice"
 o5:Cu K mg C "Endless"
 o6:Cu K mg C "Unmet"
 o7:Cu K mg C "Loop"
 o8:Cu K mg C "Vast"
 o9:Cu K mg C "TooMany"
 YY:Cu K mg C "Clash"
 YX:Cu K mg C "Refused"
 YW:Cu K mg C "NoDeed"
 mC:mg "NoRow"=some (.ref C)
 mW:mg "WrightError"=some (.ref W)
 mV:mg "ValueError"=none
 xg:XG K C
 kV:kitOne K (.ref C) (.type "ValueError")=some true
 na:cV K C "row"
 xm:exmOne K (.ref C) (.ref W)=some true
def sP (C:Addr):Sp:=λvs H Q _=>∃(ea dx:Addr)(fs:List (Str×V)),vs=[.ref ea]/\IS H ea C dx fs/\∀H',aD H H'->Q (.bl false) H'
def sD {H H':Hp}{ea C dx:Addr}{fs:List (Str×V)}(h:IS H ea C dx fs)(s:aD H H'):IS H' ea C dx fs:=⟨s _ _ h.1,s _ _ h.2⟩
def jU:aM ["_law_caught","_law_some"] ["_law_caught"] (ax qG):=i5 rfl rfl rfl rfl nofun
def zc {C W:Addr}(F:hU K "_law_another" "_law_another" qG f fd)(T:Txt mg)(L:LG K mg C W):bA P w K mg base e_ 1 f fd ["_law_caught"] (sP C):=by
 obtain⟨a1,m1,k1⟩:=L.o1;obtain⟨a2,m2,k2⟩:=L.o2;obtain⟨a3,m3,k3⟩:=L.o3;obtain⟨a4,m4,k4⟩:=L.o4;obtain⟨a5,m5,k5⟩:=L.o5;obtain⟨a6,m6,k6⟩:=L.o6;obtain⟨a7,m7,k7⟩:=L.o7;obtain⟨a8,m8,k8⟩:=L.o8;obtain⟨a9,m9,k9⟩:=L.o9;obtain⟨U0,vT,ZV⟩:=L.YY;obtain⟨UZ,Zy,PX⟩:=L.YX;obtain⟨UY,Zx,ZU⟩:=L.YW;refine F.ok jU (λvs H Q E h=>?_) (λdG A outer s H vs Q E hr h=>?_)
 .obtain⟨ea,dx,fs,rfl,_⟩:=h;rfl
 obtain⟨ea,dx,fs,rfl,xo,q⟩:=h;refine⟨_,@ao _ _ _ _ _ (@aI _ _ 1 _ _ _ _ jU.nd rfl (bO rfl) (@bo _ _ _ _ (@ae _ _ _ _ _ (aJ cY rfl T.xY gF (@ae _ _ _ _ _ (pv 0) (@ae _ _ _ _ _ (cQ (v:=.ref a1) rfl m1 rfl) (@ak _) rfl) rfl)) (@ae _ _ _ _ _ (aJ cY rfl T.xY gF (@ae _ _ _ _ _ (pv 0) (@ae _ _ _ _ _ (cQ (v:=.ref a2) rfl m2 rfl) (@ak _) rfl) rfl)) (@ae _ _ _ _ _ (aJ cY rfl T.xY gF (@ae _ _ _ _ _ (pv 0) (@ae _ _ _ _ _ (cQ (v:=.ref a3) rfl m3 rfl) (@ak _) rfl) rfl)) (@ak _) rfl) rfl) rfl)) rfl (.inr rfl))
  (@ao _ _ _ _ _ (@aI _ _ 1 _ _ _ _ jU.nd rfl (bO rfl) (@bf _ _ _ _ _ _ _ _ iC (pv 1) (@bo _ _ _ _ (@ae _ _ _ _ _ (aJ cY rfl T.xY gF (@ae _ _ _ _ _ (pv 0) (@ae _ _ _ _ _ (cQ (v:=.ref a4) rfl m4 rfl) (@ak _) rfl) rfl)) (@ae _ _ _ _ _ (aJ cY rfl T.xY gF (@ae _ _ _ _ _ (pv 0) (@ae _ _ _ _ _ (cQ (v:=.ref a5) rfl m5 rfl) (@ak _) rfl) rfl)) (@ae _ _ _ _ _ (aJ cY rfl T.xY gF (@ae _ _ _ _ _ (pv 0) (@ae _ _ _ _ _ (cQ (v:=.ref a6) rfl m6 rfl) (@ak _) rfl) rfl)) (@ak _) rfl) rfl) rfl))) rfl (.inr rfl))
  (@ao _ _ _ _ _ (@aI _ _ 1 _ _ _ _ jU.nd rfl (bO rfl) (@bf _ _ _ _ _ _ _ _ iC (pv 1) (@bo _ _ _ _ (@ae _ _ _ _ _ (aJ cY rfl T.xY gF (@ae _ _ _ _ _ (pv 0) (@ae _ _ _ _ _ (cQ (v:=.ref a7) rfl m7 rfl) (@ak _) rfl) rfl)) (@ae _ _ _ _ _ (aJ cY rfl T.xY gF (@ae _ _ _ _ _ (pv 0) (@ae _ _ _ _ _ (cQ (v:=.ref a8) rfl m8 rfl) (@ak _) rfl) rfl)) (@ae _ _ _ _ _ (aJ cY rfl T.xY gF (@ae _ _ _ _ _ (pv 0) (@ae _ _ _ _ _ (cQ (v:=.ref a9) rfl m9 rfl) (@ak _) rfl) rfl)) (@ak _) rfl) rfl) rfl))) rfl (.inr rfl))
  (@au _ _ _ (@aW _ _ _ _ (aJ (Cf rfl) rfl T.any PyProof.Rows.boot_any (@ae _ _ _ _ _ (@bf _ _ _ _ _ _ _ _ iC (pv 1) (@bo _ _ _ _ (@ae _ _ _ _ _ (aJ cY rfl T.xY gF (@ae _ _ _ _ _ (pv 0) (@ae _ _ _ _ _ (cQ (v:=.ref U0) rfl vT rfl) (@ak _) rfl) rfl)) (@ae _ _ _ _ _ (aJ cY rfl T.xY gF (@ae _ _ _ _ _ (pv 0) (@ae _ _ _ _ _ (cQ (v:=.ref UZ) rfl Zy rfl) (@ak _) rfl) rfl)) (@ae _ _ _ _ _ (aJ cY rfl T.xY gF (@ae _ _ _ _ _ (pv 0) (@ae _ _ _ _ _ (cQ (v:=.ref UY) rfl Zx rfl) (@ak _) rfl) rfl)) (@ak _) rfl) rfl) rfl))) (@ak _) rfl)))))) , ?_⟩
 have xg:=L.xg;refine⟨_,rfl,ea,C,dx,fs,.ref a1,.ref a1,false,rfl,xo,xg,λ_ h=>h,k1,_,rfl,ea,C,dx,fs,.ref a2,.ref a2,false,rfl,xo,xg,λ_ h=>h,k2,_,rfl,ea,C,dx,fs,.ref a3,.ref a3,false,rfl,xo,xg,λ_ h=>h,k3,HL,λL1 h1=>?_⟩;have x1:=sD xo (ah h1 (.lst [.bl false,.bl false,.bl false]));refine⟨_,rfl,_,rfl,ea,C,dx,fs,.ref a4,.ref a4,false,rfl,x1,xg,λ_ h=>h,k4,_,rfl,ea,C,dx,fs,.ref a5,.ref a5,false,rfl,x1,xg,λ_ h=>h,k5,_,rfl,ea,C,dx,fs,.ref a6,.ref a6,false,rfl,x1,xg,λ_ h=>h,k6,HL,λL2 h2=>?_⟩;refine⟨L1,L2,_,_,rfl,rfl,ah h2 _ _ _ af,af,Vi,λL3 h3=>?_⟩;have x2:=sD (sD x1 (ah h2 (.lst [.bl false,.bl false,.bl false]))) (ah h3 (.lst ([.bl false,.bl false,.bl false]++[.bl false,.bl false,.bl false])));refine⟨_,rfl,_,rfl,ea,C,dx,fs,.ref a7,.ref a7,false,rfl,x2,xg,λ_ h=>h,k7,_,rfl,ea,C,dx,fs,.ref a8,.ref a8,false,rfl,x2,xg,λ_ h=>h,k8,_,rfl,ea,C,dx,fs,.ref a9,.ref a9,false,rfl,x2,xg,λ_ h=>h,k9,HL,λL4 h4=>?_⟩;refine⟨L3,L4,_,_,rfl,rfl,ah h4 _ _ _ af,af,XS,λL5 h5=>?_⟩;have x3:=sD (sD x2 (ah h4 (.lst [.bl false,.bl false,.bl false]))) (ah h5 (.lst ([.bl false,.bl false,.bl false,.bl false,.bl false,.bl false]++[.bl false,.bl false,.bl false])));refine⟨_,rfl,_,rfl,ea,C,dx,fs,.ref U0,.ref U0,false,rfl,x3,xg,λ_ h=>h,ZV,_,rfl,ea,C,dx,fs,.ref UZ,.ref UZ,false,rfl,x3,xg,λ_ h=>h,PX,_,rfl,ea,C,dx,fs,.ref UY,.ref UY,false,rfl,x3,xg,λ_ h=>h,ZU,HL,λL6 h6=>?_⟩;refine⟨L5,L6,_,_,rfl,rfl,ah h6 _ _ _ af,af,QJ,λL7 h7=>?_⟩;exact⟨L7,List.replicate 12 false,rfl,aH.of af,q _ ((ah h1 _).trans ((ah h2 _).trans ((ah h3 _).trans ((ah h4 _).trans ((ah h5 _).trans ((ah h6 _).trans (ah h7 _)))))))⟩
def Cj:bootBuiltins "ValueError"=some (.type "ValueError"):=by decide +kernel
def oR (K:aY):Sp:=λvs H Q _=>∃(z:Str) (pre post:List Str)(b z0:Str) (vQ:List Str)(r0 s0:List aA),vs=[.str z,.int ((pre.length+1:Nat):Int)]/\z.length<=90000/\Txt.split z ⟨#[10]⟩=pre++b::post/\br [] [] (pre.map wordsOf) r0 s0/\r0.length<=100000/\wordsOf b=z0::vQ/\(sg z0).head?≠some 35/\ji r0 (z0::vQ)/\∀H',aD H H'->Q (.bl true) H'
def ie:aM ["_law_text","_law_number","_law_caught","e"] ["_law_text","_law_number"] (ax kM):=i5 rfl rfl rfl rfl nofun
def vd {C W fG:Addr}{OE:FuncData}(F:hU K "_law_refused" "_law_refused" kM f fd)(T:Txt mg)(L:LG K mg C W)(FG:bA P w K mg base (xT P w) 9 fG OE ["text"] (wq K C))(mG:mg "read_grammar"=some (.ref fG))(kG:keepIn K (.ref fG)=true)(BG:Binds K OE ["text"] [])
  (GA:aG P w K mg base 9 "_law_another" ["_law_caught"] (sP C))(GW:aG P w K mg base 9 "_law_whole" ["_law_found"] Ae):bA P w K mg base e_ 10 f fd ["_law_text","_law_number"] (oR K):=by
 refine F.ok ie (λvs H Q E h=>?_) (λdG A outer s H vs Q E hr h=>?_)
 .obtain⟨z,pre,post,b,z0,vQ,r0,s0,rfl,_⟩:=h;rfl
 obtain⟨z,pre,post,b,z0,vQ,r0,s0,rfl,hz,px,tok,cy,hb,h35,bad,q⟩:=h;refine⟨_,@ao _ _ _ _ _ (@aI _ _ 2 _ _ _ _ ie.nd rfl (bO rfl) JP rfl (.inr rfl))
  (@ao _ _ _ _ _ (Gz (j:=3) rfl rfl (λ_ _ z=>z) FG hr rfl mG kG BG (@ae _ _ _ _ _ (pv 0) (@ak _) rfl) ie.nd rfl L.mW rfl rfl (λea=>au (aI (i:=2) ie.nd rfl (bO rfl) (pv 3))))
  (@ao _ _ _ _ _ (@b9 _ _ _ _ _ _ _ _ (PW.pt (Ic (jG (fc (aJ cY rfl T.xY gF (@ae _ _ _ _ _ (pv 2) (@ae _ _ _ _ _ (cQ (v:=.ref C) rfl L.mC rfl) (@ak _) rfl) rfl)))) (Du (jG (fc (aJ cY rfl T.xY gF (@ae _ _ _ _ _ (pv 2) (@ae _ _ _ _ _ (vb (v:=.ty "ValueError") rfl L.mV Cj rfl) (@ak _) rfl) rfl)))))))
  (@au _ _ _ (@aW _ _ _ _ eP)) aZ)
  (@au _ _ _ (@aW _ _ _ _ (g6 (u_ (@bp _ _ _ _ _ _ _ _ _ _ GA hr rfl (@ae _ _ _ _ _ (pv 2) (@ak _) rfl) rfl rfl rfl)) (g6 (@bp _ _ _ _ _ _ _ _ _ _ GW hr rfl (@ae _ _ _ _ _ (AA (pv 2) rfl) (@ak _) rfl) rfl rfl rfl) (jH (ir iS (AA (pv 2) rfl) (pv 1) (bX _))))))))) , ?_⟩
 refine⟨_,rfl,z,pre,post,b,z0,vQ,r0,s0,rfl,hz,px,tok,cy,hb,h35,bad,λdx H1 s1 e1=>⟨L.xm,λea BX=>?_⟩⟩;have xo:IS H1 ea C dx [("row",.int ((pre.length+1:Nat):Int))]:=⟨BX,e1⟩;refine⟨_,rfl,⟨_,rfl⟩,?_⟩;refine⟨_,rfl,ea,C,dx,_,.ref C,.ref C,true,rfl,xo,L.xg,λ_ h=>h,wR,true,rfl,?_⟩;refine eC ?_;refine⟨_,rfl,ea,C,dx,_,.ty "ValueError",.type "ValueError",true,rfl,xo,L.xg,λ_ h=>h,L.kV,true,rfl,?_⟩;refine eC ?_;refine⟨_,rfl,ea,dx,_,rfl,xo,λH2 s2=>⟨false,rfl,true,rfl,?_⟩⟩;have Vk:=sD xo s2;refine fU ?_;refine⟨_,rfl,ea,C,dx,_,_,rfl,Vk,L.xg,L.na,rfl,_,rfl,true,rfl,?_⟩;refine fU ?_;refine⟨_,rfl,ea,C,dx,_,_,rfl,Vk,L.xg,L.na,rfl,_,rfl,rfl,?_⟩;show Q (.bl (decide (V.int ((pre.length+1:Nat):Int)=V.int ((pre.length+1:Nat):Int)))) H2;rw [gC rfl];exact q H2 (s1.trans s2)
end
open PySem L2 M11
def Kj (u:Str):((u.length:Int) != 0)=decide (sg u≠[]):=by
 have e:(sg u).length=u.length:=by unfold sg;simp [Str.length]
 rw [iH,bne_iff_ne,decide_eq_true_eq,ne_eq,ne_eq,<-List.length_eq_zero_iff,e];omega
def yi (z:Str):(wordsOf z).map sg=wd (sg z):=by
 unfold wordsOf wd;rw [<-lR,List.filter_map]
 congr 1
 refine List.filter_congr λu _=>?_;rw [Kj];rfl
theorem kS:∀{a b:List Str},a.map sg=b.map sg->a=b
 | [],[],_=>rfl
 | [],_::_,h=>by cases h
 | _::_,[],h=>by cases h
 | x::a,y::b,h=>by
  rw [bz,bz] at h;injection h with h1 h2;rw [Ju h1,kS h2]
def yj {z:Str}{ws:List Str}(h:wd (sg z)=ws.map sg):wordsOf z=ws:=kS (by rw [yi,h])
structure Wd (z:Str):Prop where
 ne:sg z≠[]
 nb:32∉sg z
 nl:10∉sg z
theorem HN:∀{ps:List (List Nat)},(∀p∈ps,32∉p/\p≠[])->wd (jn 32 ps)=ps
 | [],_=>rfl
 | [x],h=>yk (h x bT).1 (h x bT).2
 | x::y::r,h=>by
  show wd (x++32::jn 32 (y::r))=_;rw [uJ,yk (h x bT).1 (h x bT).2,HN λp hp=>h p (cM _ hp)];rfl
def CO {ws:List Str}(h:∀z∈ws,Wd z):wd (sg (Txt.join ⟨#[32]⟩ ws))=ws.map sg:=by
 rw [wu];refine HN λp hp=>?_;obtain⟨z,hz,rfl⟩:=cT.mp hp;exact⟨(h z hz).nb,(h z hz).ne⟩
def yP {ws:List Str}(h:∀z∈ws,Wd z):wordsOf (Txt.join ⟨#[32]⟩ ws)=ws:=yj (CO h)
theorem gO:∀(ws:List Str)(d:List (List Str)) (c:List Str)(rws:List (List Str)) (ps:List Str),cC d c ws=some rws->(∀p∈ps,p≠("|":Str)/\cm p=true)->cC d c (ws++("|":Str)::ps)=some (rws++[ps])
 | [],d,c,rws,ps,h,hp=>by
  rw [cC] at h;cases h;show cC d c (("|":Str)::ps)=_;rw [cC,ay rfl];have key:∀(ps:List Str)(d:List (List Str)) (c:List Str),(∀p∈ps,p≠("|":Str)/\cm p=true)->cC d c ps=some (d++[c++ps]):=by
   intro ps
   induction ps with
   | nil=>intro d c _;rw [cC,dD]
   | cons p r ih =>
    intro d c hp;obtain⟨h1,h2⟩:=hp p bT;rw [cC,av h1,ay h2,ih d (c++[p]) λq hq=>hp q (cM _ hq),gS];rfl
  rw [key ps _ _ hp,lG]
 | w::ws,d,c,rws,ps,h,hp=>by
  rw [cC] at h;rw [List.cons_append,cC]
  split at h
  .rename_i e
   rw [ay e];exact gO ws _ _ rws ps h hp
  rename_i e
  rw [av e]
  split at h
  .rename_i e2
   rw [ay e2];exact gO ws _ _ rws ps h hp
  cases h
def nZ {ps:List Str}(hp:∀p∈ps,p≠("|":Str)/\cm p=true):cC [] [] ps=some [ps]:=by
 have h:=gO [] [] [] [[]] ps rfl hp;have e:cC [] [] ([]++("|":Str)::ps)=cC [[]] [] ps:=by
  rw [lG,cC,ay rfl];rfl
 have key:∀(ps:List Str)(d:List (List Str)) (c:List Str),(∀p∈ps,p≠("|":Str)/\cm p=true)->cC d c ps=some (d++[c++ps]):=by
  intro ps
  induction ps with
  | nil=>intro d c _;rw [cC,dD]
  | cons p r ih =>
   intro d c hp;obtain⟨h1,h2⟩:=hp p bT;rw [cC,av h1,ay h2,ih d (c++[p]) λq hq=>hp q (cM _ hq),gS];rfl
 exact key ps [] [] hp
def br.snoc {r s r1 s1 r2 s2:List aA}{rows:List (List Str)}{z:Str}{ws:List Str}(t:br r s rows r1 s1)(h:(sg z).head?≠some 35)(o:mU r1 s1 (z::ws) r2 s2)(lr:r1.length<=100000)(ls:s1.length<=100000):br r s (rows++[z::ws]) r2 s2:=by
 induction t with
 | nil r s=>exact .row _ _ _ _ _ _ _ _ _ h o lr ls (.nil _ _)
 | none r s rows r' s' t ih=>exact .none _ _ _ _ _ (ih o lr ls)
 | mark r s z ws rows r' s' h' t ih=>exact .mark _ _ _ _ _ _ _ h' (ih o lr ls)
 | row r s z ws rows r1 s1 r' s' h' o' R7 ZC t ih=>exact .row _ _ _ _ _ _ _ _ _ h' o' R7 ZC (ih o lr ls)
def Vc (ws:List Str):Prop:=ws=[]\/∃z r,ws=z::r/\(sg z).head?=some 35
inductive NZ:List (List Str)->List (List Str)->Prop
 | nil:NZ [] []
 | same (w a b)(t:NZ a b):NZ (w::a) (w::b)
 | extra (w a b)(h:Vc w)(t:NZ a b):NZ a (w::b)
def NZ.snoc {a b:List (List Str)}(w:List Str)(t:NZ a b):NZ (a++[w]) (b++[w]):=by
 induction t with
 | nil=>exact .same _ _ _ .nil
 | same w a b t ih=>exact .same _ _ _ ih
 | extra w a b h t ih=>exact .extra _ _ _ h ih
def NZ.text {a b:List (List Str)}(t:NZ a b):∀{r s r' s':List aA},br r s a r' s'->br r s b r' s':=by
 induction t with
 | nil=>exact λh=>h
 | same w a b t ih =>
  intro r s r' s' h;cases h with
  | none _ _ _ _ _ h=>exact .none _ _ _ _ _ (ih h)
  | mark _ _ z ws _ _ _ hz h=>exact .mark _ _ _ _ _ _ _ hz (ih h)
  | row _ _ z ws _ r1 s1 _ _ hz o lr ls h=>exact .row _ _ _ _ _ _ _ _ _ hz o lr ls (ih h)
 | extra w a b hw t ih =>
  intro r s r' s' h;rcases hw with rfl | ⟨z,ws,rfl,hz⟩
  .exact .none _ _ _ _ _ (ih h)
  exact .mark _ _ _ _ _ _ _ hz (ih h)
theorem wU {y:Str}{x:Nat}:∀{ts:List Str},x∈sg (Str.join y ts)->x∈sg y\/∃t∈ts,x∈sg t
 | [],h=>by cases h
 | [t],h=>.inr ⟨t,bT,h⟩
 | t::u::r,h=>by
  have h:x∈sg (t++y++Str.join y (u::r)):=h;rw [nW,nW] at h;rcases cN.mp h with h | h
  .rcases cN.mp h with h | h
   .exact .inr ⟨t,bT,h⟩
   exact .inl h
  rcases wU (ts:=u::r) h with h | ⟨v,hv,h⟩
  .exact .inl h
  exact .inr ⟨v,cM _ hv,h⟩
def qx {ts:List Str}(hn:ts≠[])(h:∀t∈ts,10∉sg t):Txt.split (Txt.join ⟨#[10]⟩ ts) ⟨#[10]⟩=ts:=by
 refine kS ?_;rw [lR,wu,C8 (by simpa using hn)];intro p hp;obtain⟨t,ht,rfl⟩:=cT.mp hp;exact h t ht
structure IX (p:Str):Prop where
 wd:Wd p
 ns:p≠("|":Str)
 ip:cm p=true
 le:p.length<=14
structure Pc (n:Str):Prop where
 pt:IX n
 ag:again n=false
 nh:(sg n).head?≠some 35
structure aas (st:aA):Prop where
 way:st.1∈fM
 ne:st.2≠[]
 nc:st.2.head?≠some (":":Str)
 le:st.2.length<=8
 pt:∀p∈st.2,Wd p/\cm p=true/\p.length<=14
def mX (r0:List aA) (ws:List Str)(r:List aA)(h:Str):Prop :=
 (∃rest rws ps,ws=("|":Str)::rest/\r0.getLast?=some (h,ps)/\cC [] [] rest=some rws/\r=r0++rws.map λp=>(h,p)) \/
 (∃rest rws,ws=h::(":":Str)::rest/\Pc h/\cC [] [] rest=some rws/\r=r0++rws.map λp=>(h,p))
def mX.text {r0 r s0:List aA}{ws:List Str}{h:Str}{rows:List (List Str)}(l:mX r0 ws r h)(t:br [] [] rows r0 s0)(l1:r0.length<=100000)(l2:s0.length<=100000):br [] [] (rows++[ws]) r s0:=by
 rcases l with ⟨rest,rws,ps,rfl,e,er,rfl⟩ | ⟨rest,rws,rfl,hn,er,rfl⟩
 .exact t.snoc nofun (.more h ps rest rws e er) l1 l2
 exact t.snoc hn.nh (.head h rest rws hn.pt.ns hn.pt.ip hn.ag er) l1 l2
def mX.add {r0 r:List aA}{ws ps:List Str}{h:Str}(l:mX r0 ws r h)(hp:∀p∈ps,IX p):mX r0 (ws++("|":Str)::ps) (r++[(h,ps)]) h:=by
 have lC:∀p∈ps,p≠("|":Str)/\cm p=true:=λp h=>⟨(hp p h).ns,(hp p h).ip⟩;rcases l with ⟨rest,rws,qs,rfl,e,er,rfl⟩ | ⟨rest,rws,rfl,hn,er,rfl⟩
 .exact .inl ⟨rest++("|":Str)::ps,rws++[ps],qs,rfl,e,gO _ _ _ _ _ er lC,by rw [bu,gS];rfl⟩
 exact .inr ⟨rest++("|":Str)::ps,rws++[ps],rfl,hn,gO _ _ _ _ _ er lC,by rw [bu,gS];rfl⟩
structure U8 (aa stg:List aA) (i k n:Nat) (ts:List Str):Prop where
 whole:br [] [] (ts.map wordsOf) (aa.take i) (stg.take k)
 nl:∀t∈ts,10∉sg t
 sum:(ts.map (·.length)).sum<=200 * n
 len:ts.length<=n
def G4 {ps:List Str}(h:∀p∈ps,Wd p):10∉sg (Txt.join ⟨#[32]⟩ ps):=λhx=>by
 have e:Txt.join ⟨#[32]⟩ ps=Str.join ⟨#[32]⟩ ps:=so _ _;rw [e] at hx;rcases wU hx with hx | ⟨t,ht,hx⟩
 .exact absurd hx nofun
 exact(h t ht).nl hx
def En {ps:List Str}(h:∀p∈ps,p.length<=14):(Txt.join ⟨#[32]⟩ ps).length<=15 * ps.length:=by
 have e:Txt.join ⟨#[32]⟩ ps=Str.join ⟨#[32]⟩ ps:=so _ _;have h1:=StrLaws.join_length_le ⟨#[32]⟩ ps;have h2:(ps.map (·.length)).sum<=14 * ps.length:=by
  clear h1 e
  induction ps with
  | nil=>exact dC _
  | cons p r ih =>
   have:=ih λq hq=>h q (cM _ hq);have hp:=h p bT;rw [bz,j9,cH];omega
 have e1:((⟨#[32]⟩:Str)).length=1:=rfl;rw [e1] at h1;rw [e];omega
def U8.put {aa stg:List aA}{i k i' k' n:Nat}{ts:List Str}{t:Str}(r:U8 aa stg i k n ts)(hw:br [] [] ((ts++[t]).map wordsOf) (aa.take i') (stg.take k'))(hn:10∉sg t)(hl:t.length<=200):U8 aa stg i' k' (n+1) (ts++[t]) where
 whole:=hw
 nl:=λu hu=>by
  rcases cN.mp hu with h | h
  .exact r.nl u h
  rw [cJ.mp h];exact hn
 sum:=by
  have:=r.sum;rw [bu,List.sum_append];show _+(t.length+0)<=_;omega
 len:=by
  have:=r.len;rw [bZ];show _+1<=_;omega
def Ha:List Str->Str->Nat
 | [],_=>0
 | a::r,x=>if a=x then 0 else Ha r x+1
theorem vv:∀(l:List Str)(x:Str),x∈l->l[Ha l x]?=some x
 | [],x,h=>by cases h
 | a::r,x,h=>by
  unfold Ha;by_cases c:a=x
  .rw [ay c];exact congrArg some c
  rw [av c];rcases aT.mp h with e | e
  .exact absurd e.symm c
  rw [List.getElem?_cons_succ];exact vv r x e
theorem qP:∀(l:List Str)(x:Str) (i:Nat),x∈l.take i->Ha l x < i
 | [],x,i,h=>by simp at h
 | a::r,x,0,h=>by simp at h
 | a::r,x,i+1,h=>by
  unfold Ha;by_cases c:a=x
  .rw [ay c];omega
  rw [av c];rw [qj] at h;rcases aT.mp h with e | e
  .exact absurd e.symm c
  have:=qP r x i e;omega
def z6 {l:List Str}{x:Str}{i:Nat}(h:x∈l.take i):∃j,j < i/\l[j]?=some x:=by
 obtain⟨j,hj⟩:=kb h;have lj:=(bR.mp hj).1;rw [fh] at lj;rw [List.getElem?_take_of_lt ∅] at hj;exact⟨j,∅,hj⟩
def w_ {aa:List aA}{ru:aA}(h:ru∈aa):ru.1∈hd aa:=(fX _ _ _).mpr (.inr (iI h))
def Ol {aa:List aA}{x:Str}(h:x∈hd aa):∃ru∈aa,ru.1=x:=by
 rcases (fX _ _ _).mp h with h | h
 .cases h
 obtain⟨ru,a,b⟩:=cT.mp h;exact⟨ru,a,b⟩
def IF {aa:List aA}{x:Str}(h:Em aa x):x∈hd aa:=by
 cases h with
 | mk h _=>exact w_ h
def E4 {aa:List aA}{bc:List (Str×Nat)}(h:vP aa bc):∀y∈bc.map (·.1),Em aa y:=by
 induction h with
 | nil=>intro y hy;cases hy
 | @snoc bc k ru _ e _ p ih =>
  intro y hy;rw [bu] at hy;rcases cN.mp hy with h | h
  .exact ih y h
  rw [cJ.mp h];exact .mk (bQ e) λq hq=>ih q (p q hq)
def wQ {b:Str->Bool}{zs:List Str}{i j:Nat}{x:Str}(h:G6 b zs j=true)(e:zs[i]?=some x)(n:i≠j):b x=true:=by
 cases hb:b x with
 | true=>rfl
 | false =>
  have li:=(bR.mp e).1;have m:((i:Nat):Int)∈B3 b zs zs.length:=by
   unfold B3;exact cT.mpr ⟨i,jk.mpr ⟨lE.mpr li,by rw [e];show (!(b x))=true;rw [hb];rfl⟩,rfl⟩
  unfold G6 at h;rcases Bool.or_eq_true_iff.mp h with h | h
  .rw [<-d5 h] at m;cases m
  rw [<-d5 h] at m;have:=cJ.mp m;omega
theorem z_ {f:Str->Int}{c:Int}:∀(ps:List Str),(∀x∈ps,f x<=c)->(ps.map f).sum<=ps.length * c
 | [],_=>by simp
 | p::r,h=>by
  have h1:=z_ r λx hx=>h x (cM _ hx);have h2:=h p bT;rw [bz,j9,cH];have:((r.length+1:Nat):Int) * c=(r.length:Int) * c+c:=by rw [Int.natCast_add,Int.add_mul];omega
  omega
structure Pa (aa:List aA) (ns E M Pl:List Str):Prop where
 n3:ns.length<=3
 vU:∀ru∈aa,ru.1∈ns
 p3:∀ru∈aa,ru.2.length<=3
 eN:E.Nodup
 eNs:∀x∈E,x∈ns
 eO:∀(i:Nat)(h:Str),E[i]?=some h->∃gG,(h,gG)∈aa/\∀p∈gG,p∈E.take i\/p∉hd aa
 eA:∀h∈hd aa,h∈E
 mO:∀(i:Nat)(h:Str),M[i]?=some h->(∃lB,aa[0]?=some lB/\h=lB.1)\/∃ru∈aa,ru.1∈M.take i/\h∈ru.2
 mA:∀h∈hd aa,h∈M
 lN:Pl.Nodup
 ZO:∀x∈Pl,x∈ns
 lO:∀(i:Nat)(h:Str),Pl[i]?=some h->∀ru∈aa,ru.1=h->∀(j:Nat)(z:Str),ru.2[j]?=some z->z∈hd aa->(∀(k:Nat)(y:Str),k≠j->ru.2[k]?=some y->Em aa y)->z∈Pl.take i
 lA:∀h∈hd aa,h∈Pl
def b3:Nat->Int
 | 0=>1
 | 1=>4
 | _=>13
def c3:Nat->Int
 | 0=>0
 | 1=>1
 | _=>4
def IQ {i j:Nat}(hi:i < 3)(h:j < i):b3 j<=c3 i:=by
 have:∀i:Nat,i < 3->∀j:Nat,j < i->b3 j<=c3 i:=by decide
 exact this i hi j h
def OU {i:Nat}:1+3 * c3 i=b3 i:=by
 match i with
 | 0=>rfl
 | 1=>rfl
 | _+2=>rfl
def IL {i:Nat}:0<=c3 i:=by
 match i with
 | 0=>decide
 | 1=>decide
 | _+2=>exact(by decide:(0:Int)<=4)
def Fe {i:Nat}:0<=b3 i/\b3 i<=60:=by
 match i with
 | 0=>decide
 | 1=>decide
 | _+2=>exact(by decide:(0:Int)<=13/\(13:Int)<=60)
def HW {f:Str->Int}{i:Nat}{ps:List Str}(h3:ps.length<=3)(h:∀x∈ps,f x<=c3 i):1+(ps.map f).sum<=b3 i:=by
 have h1:=z_ ps h;have h2:(ps.length:Int) * c3 i<=3 * c3 i:=Int.mul_le_mul_of_nonneg_right ∅ IL;have:=@OU i;omega
def bP (Pl:List Str)(x:Str):Int:=if x∈Pl then b3 (Ha Pl x) else 0
def Pa.good {aa:List aA}{ns E M Pl:List Str}(O:Pa aa ns E M Pl):Good aa (Ha Pl) (bP Pl) where
 least g st se:=by
  have ZM:E.length<=3:=df (fj E ns O.eN O.eNs) O.n3;have gb:∀x,x∉hd aa->∀ru∈aa,x∈ru.2->g x=some 0:=by
   intro x nn ru j7 hm;refine dw.keep (J:=λg=>g x=some 0) (λg LQ j h2 _=>?_) st ?_
   .show dj g LQ.1 _ x=some 0;unfold dj;have:x≠LQ.1:=λz=>nn (z ▸ w_ h2);rw [av this];exact j
   show vW aa x=some 0;unfold vW;rw [ay (uI _ _ _ _ (.inr ⟨kI.mpr ⟨ru,j7,hm⟩,nn⟩))]
  have key:∀(n i:Nat),i < n->∀h:Str,E[i]?=some h->∃m,g h=some m/\m<=b3 i:=by
   intro n
   induction n with
   | zero=>intro i hi;omega
   | succ n ih =>
    intro i hi h e;have li:=(bR.mp e).1;obtain⟨ps,hm,hp⟩:=O.eO i h e;have hv:∀p∈ps,∃m,g p=some m/\m<=c3 i:=λp Wj=>by
     rcases hp p Wj with h1 | h1
     .obtain⟨j,lj,ej⟩:=z6 h1;obtain⟨m,e1,e2⟩:=ih j ∅ p ej;exact⟨m,e1,Int.le_trans e2 (IQ ∅ lj)⟩
     exact⟨0,gb p h1 _ hm Wj,IL⟩
    have hs:=se _ hm;unfold cq at hs;have a1:jt g (h,ps)=true:=fY.mpr λp hp=>by obtain⟨m,e1,_⟩:=hv p hp;show (g p).isSome=true;rw [e1];rfl
    have s0:aP g (h,ps)<=b3 i:=by
     unfold aP;exact HW (O.p3 _ hm) λp hp=>by obtain⟨m,e1,e2⟩:=hv p hp;show (g p).getD 0<=_;rw [e1];exact e2
    rw [a1,p8] at hs;cases gn:g h with
    | none=>rw [show g (h,ps).1=none from gn] at hs;cases hs
    | some m =>
     rw [show g (h,ps).1=some m from gn] at hs;refine⟨m,rfl,?_⟩;have:¬aP g (h,ps) < m:=by simpa [M11.bl] using hs
     omega
  intro h hh;obtain⟨i,hi⟩:=kb (O.eA h hh);obtain⟨m,e1,e2⟩:=key (i+1) i ∅ h hi;exact⟨m,e1,Int.le_trans e2 Fe.2⟩
 met lB ms e0 h0 mc:=by
  have key:∀(n i:Nat),i < n->∀h:Str,M[i]?=some h->h∈ms:=by
   intro n
   induction n with
   | zero=>intro i hi;omega
   | succ n ih =>
    intro i hi h e;rcases O.mO i h e with ⟨r0,e1,e2⟩ | ⟨ru,j7,h1,h2⟩
    .rw [e0] at e1;cases e1;rw [e2];exact h0
    obtain⟨j,lj,ej⟩:=z6 h1;exact mc ru (by rw [de];exact j7) (ih j ∅ _ ej) h h2
  intro h hh;obtain⟨i,hi⟩:=kb (O.mA h hh);exact key (i+1) i ∅ h hi
 loop:=by
  rintro bc emp B5 n k j ⟨lB,z0,e1,e2,e3,e4,e5⟩ ru z er ez;rw [er] at e1;obtain rfl:ru=lB:=ib e1;rw [ez] at e3;obtain rfl:z=z0:=ib e3;have j7:=bQ er;have hn:n∈Pl:=O.lA n (e2 ▸ w_ j7);refine qP Pl z _ (O.lO _ n (vv Pl n hn) ru j7 e2 j z ez e4 λk' y nk ey=>?_);have:=wQ e5 ey nk;exact E4 emp y (d5 this)
 UG:=by
  refine⟨λz=>?_,λru j7 P8=>?_⟩
  .unfold bP
   split
   .exact Fe.1
   decide
  have hn:ru.1∈Pl:=O.lA _ (w_ j7);have li:=(bR.mp (vv Pl ru.1 hn)).1;have ZM:Pl.length<=3:=df (fj Pl ns O.lN O.ZO) O.n3;have e:bP Pl ru.1=b3 (Ha Pl ru.1):=ay hn;rw [e];refine HW (O.p3 ru j7) λp hp=>?_;obtain⟨j,ej⟩:=kb hp;have ht:=O.lO _ ru.1 (vv Pl ru.1 hn) ru j7 rfl j p ej (IF (P8 p hp)) λk' y _ ey=>P8 y (bQ ey);have e2:bP Pl p=b3 (Ha Pl p):=ay (pZ ht);rw [e2];exact IQ ∅ (qP Pl p _ ht)
 most h hh:=by
  unfold bP
  split
  .exact Fe.2
  decide
end fg
namespace M11
open PySem
def C6 (gb:Bool) (bF e:List Str)(ru:aA):List Str:=if ((ru.2.all λp=>decide (p∈e) || (gb && !decide (p∈bF))) && !decide (ru.1∈e))=true then e++[ru.1] else e
def passes {α:Type}(f:α->α):Nat->α->α
 | 0,a=>a
 | n+1,a=>f (passes f n a)
structure EO (gb:Bool) (bF:List Str)(aa:List aA) (e:List Str):Prop where
 nd:e.Nodup
 ord:∀(i:Nat)(h:Str),e[i]?=some h->∃gG,(h,gG)∈aa/\∀p∈gG,p∈e.take i\/(gb=true/\p∉bF)
def EO.step {gb:Bool}{bF:List Str}{aa:List aA}{e:List Str}(h:EO gb bF aa e){ru:aA}(hr:ru∈aa):EO gb bF aa (C6 gb bF e ru):=by
 unfold C6
 split
 .rename_i c
  obtain⟨c1,c2⟩:=sq.mp c;have c2':ru.1∉e:=by simpa using c2
  refine⟨jx.mpr ⟨h.nd,by simp,λa ha b hb z=>c2' (by rw [<-cJ.mp hb,<-z];exact ha)⟩,λi x hx=>?_⟩;by_cases l:i < e.length
  .rw [sC l] at hx;obtain⟨gG,a,b⟩:=h.ord i x hx;refine⟨gG,a,λp hp=>?_⟩;rw [yg ∅];exact b p hp
  have li:=(bR.mp hx).1;rw [bZ,qm] at li;have:i=e.length:=by omega
  subst this;rw [p5 (aK _),Nat.sub_self] at hx;cases hx;refine⟨ru.2,hr,λp hp=>?_⟩;rw [yg (aK _),de];have:=fY.mp c1 p hp;simp only [Bool.or_eq_true,decide_eq_true_eq,lH,nJ,decide_eq_false_iff_not] at this;exact this
 exact h
theorem EO.pass {gb:Bool}{bF:List Str}{aa:List aA}:∀(rs:List aA){e:List Str},(∀ru∈rs,ru∈aa)->EO gb bF aa e->EO gb bF aa (rs.foldl (C6 gb bF) e)
 | [],_,_,h=>h
 | ru::rs,_,hs,h=>EO.pass rs (λr hr=>hs r (cM _ hr)) (h.step (hs ru bT))
def EO.sub {gb:Bool}{bF:List Str}{aa:List aA}{e:List Str}(h:EO gb bF aa e):∀x∈e,x∈aa.map (·.1):=λx hx=>by
 obtain⟨i,hi⟩:=kb hx;obtain⟨gG,a,_⟩:=h.ord i x hi;exact cT.mpr ⟨_,a,rfl⟩
end M11
namespace fg
open PySem L2 M11
def br.app {r s r1 s1 r2 s2:List aA}{a b:List (List Str)}(h:br r s a r1 s1):br r1 s1 b r2 s2->br r s (a++b) r2 s2:=by
 induction h with
 | nil r s=>exact λt=>t
 | none r s rows r' s' _ ih=>exact λt=>.none _ _ _ _ _ (ih t)
 | mark r s z ws rows r' s' h _ ih=>exact λt=>.mark _ _ _ _ _ _ _ h (ih t)
 | row r s z ws rows r1 s1 r' s' h o lr ls _ ih=>exact λt=>.row _ _ _ _ _ _ _ _ _ h o lr ls (ih t)
theorem br.cut {b:List (List Str)}:∀{a:List (List Str)}{r s r2 s2:List aA},br r s (a++b) r2 s2->∃r1 s1,br r s a r1 s1/\br r1 s1 b r2 s2
 | [],r,s,r2,s2,h=>⟨r,s,.nil _ _,h⟩
 | w::a,r,s,r2,s2,h=>by
  cases h with
  | none _ _ _ _ _ t =>
   obtain⟨r1,s1,h1,h2⟩:=br.cut (a:=a) t;exact⟨r1,s1,.none _ _ _ _ _ h1,h2⟩
  | mark _ _ z ws _ _ _ h t =>
   obtain⟨r1,s1,h1,h2⟩:=br.cut (a:=a) t;exact⟨r1,s1,.mark _ _ _ _ _ _ _ h h1,h2⟩
  | row _ _ z ws _ r3 s3 _ _ h o lr ls t =>
   obtain⟨r1,s1,h1,h2⟩:=br.cut (a:=a) t;exact⟨r1,s1,.row _ _ _ _ _ _ _ _ _ h o lr ls h1,h2⟩
def br.one {r s r1 s1:List aA}{z:Str}{ws:List Str}(h:(sg z).head?≠some 35)(o:mU r s (z::ws) r1 s1)(lr:r.length<=100000)(ls:s.length<=100000):br r s [z::ws] r1 s1:=.row _ _ _ _ _ _ _ _ _ h o lr ls (.nil _ _)
def Lv (t:Str):Bool:=match wordsOf t with
 | []=>false
 | z::ws=>decide ((sg z).head?≠some 35) && decide (z≠("|":Str)) && decide (10∉sg t) && decide (t.length<=40) && (match ws with
  | []=>true
  | c::rest=>if c=(":":Str) then !(cm z && !again z && (cC [] [] rest).isSome) else !(decide (z∈fM) && (c::rest).all cm))
def xG:∀t∈Fd,Lv t=true:=by decide +kernel
def xF {t:Str}(h:Lv t=true):10∉sg t/\t.length<=40/\∃z ws,wordsOf t=z::ws/\(sg z).head?≠some 35/\∀r,ji r (z::ws):=by
 unfold Lv at h;cases e:wordsOf t with
 | nil=>rw [e] at h;cases h
 | cons z ws =>
  rw [e] at h;simp only [lH,decide_eq_true_eq] at h;obtain⟨⟨⟨⟨h1,h2⟩,h3⟩,h4⟩,h5⟩:=h;refine⟨h3,h4,z,ws,rfl,h1,λr=>?_⟩;cases ws with
  | nil=>exact .other z [] h2 (by simp) (λ_ n=>absurd rfl n)
  | cons c rest =>
   by_cases hc:c=(":":Str)
   .subst hc;simp only [if_true,nJ,Bool.and_eq_false_iff] at h5;refine .head z rest h2 λa b=>?_;rcases h5 with (h5 | h5) | h5
    .rw [a] at h5;cases h5
    .rw [b] at h5;cases h5
    cases hr:cC [] [] rest with
    | none=>rfl
    | some x=>rw [hr] at h5;cases h5
   simp only [av hc,nJ,Bool.and_eq_false_iff] at h5;refine .other z (c::rest) h2 (λe=>hc (by injection e)) λhw _=>?_;rcases h5 with h5 | h5
   .exact absurd hw (of_decide_eq_false h5)
   exact h5
def names3:List Str:=["rows","more","left"]
def uG:List Str:=["y","z","+"]
def kq:List aA:=[("rows",["y","more","left"]),("more",["y"]),("left",["y"]),("left",["+","more"])]
def wT (k:Nat):Str:=("w":Str)++((toString (k:Int):String):Str)
def AE (p:Str):Bool:=decide (sg p≠[]) && decide (32∉sg p) && decide (10∉sg p) && decide (p≠("|":Str)) && cm p && !again p && decide (p.length<=14)
structure IW (p:Str):Prop where
 wd:Wd p
 ns:p≠("|":Str)
 ip:cm p=true
 ag:again p=false
 le:p.length<=14
def ml {p:Str}(h:AE p=true):IW p:=by
 unfold AE at h;simp only [lH,decide_eq_true_eq,nJ] at h;obtain⟨⟨⟨⟨⟨⟨h1,h2⟩,h3⟩,h4⟩,h5⟩,h6⟩,h7⟩:=h;exact⟨⟨h1,h2,h3⟩,h4,h5,h6,h7⟩
def vp:∀p∈(["y","z","+","rows","more","left","-"]:List Str),AE p=true:=by decide +kernel
def Gr {n:Nat}(h1:1<=n)(tJ:n<=14):IW (mf 120 n):=by
 have e:=F_ 120 n;have l:=md 120 n;have hm:∀c∈sg (mf 120 n),c=120:=λc hc=>by rw [e] at hc;exact List.eq_of_mem_replicate hc
 have hh:∀c,c≠120->(sg (mf 120 n)).head?≠some c:=λc hc h=>hc (hm c (List.mem_of_mem_head? h));refine⟨⟨λh=>?_,λh=>absurd (hm _ h) nofun,λh=>absurd (hm _ h) nofun⟩,λh=>?_,BQ ∅ (hh 58 nofun) (hh 124 nofun),?_,∅⟩
 .rw [e] at h;have:=congrArg List.length h;rw [ql] at this;simp at this;omega
 .exact hh 124 nofun (by rw [h];rfl)
 have hl:∀c,c≠120->(sg (mf 120 n)).getLast?≠some c:=λc hc h=>hc (hm c (List.mem_of_getLast? h));unfold again;rw [beq_false_of_ne (hl 42 nofun),beq_false_of_ne (hl 43 nofun),beq_false_of_ne (hl 63 nofun)];simp
def Jb {n j:Nat}(h1:1<=n)(tJ:n<=14):∀p∈ke n j,IW p:=λp hp=>by
 have hp:=pZ hp;rcases aT.mp hp with rfl | hp
 .exact Gr h1 tJ
 exact ml (vp p ((show ∀p∈(["-","left","rows"]:List Str),p∈(["y","z","+","rows","more","left","-"]:List Str) by decide +kernel) p hp))
def uF {n j:Nat}(h1:1<=n)(tJ:n<=14):∀p∈("y":Str)::ke n j,IW p:=λp hp=>by
 rcases aT.mp hp with rfl | hp
 .exact ml (vp _ nofun)
 exact Jb h1 tJ p hp
structure HC (ru:aA):Prop where
 nm:ru.1∈names3
 wd:∃w∈ru.2,w∈uG
 l8:ru.2.length<=8
 pt:∀p∈ru.2,IW p
structure iE (k:Nat)(aa stg:List aA):Prop where
 fst:kq <+: aa
 ru:∀ru∈aa,HC ru
 st:∀st∈stg,∃i,i < k/\st.2=[wT i]
 nd:(stg.flatMap (·.2)).Nodup
 len:stg.length<=k
def iE.up {k:Nat}{aa stg:List aA}(h:iE k aa stg):iE (k+1) aa stg:=⟨h.fst,h.ru,λst hs=>by obtain⟨i,hi,e⟩:=h.st st hs;exact⟨i,∅,e⟩,h.nd,ug h.len⟩
def Hy:∀ru∈kq,HC ru:=λru h=>by
 have hb:=(show ∀ru∈kq,ru.1∈names3/\(∃w∈ru.2,w∈uG)/\ru.2.length<=8/\∀p∈ru.2,AE p=true by decide +kernel) ru h;exact⟨hb.1,hb.2.1,hb.2.2.1,λp hp=>ml (hb.2.2.2 p hp)⟩
def iE.JY (k:Nat):iE k kq []:=⟨List.prefix_refl _,Hy,λ_ h=>(by cases h),lF,dC _⟩
def CM {h:Str}{n j:Nat}(hh:h∈names3)(h1:1<=n)(tJ:n<=14):HC (h,("y":Str)::ke n j) :=
 ⟨hh,⟨"y",bT,nofun⟩,by rw [cH];have:=gH n j;omega,uF h1 tJ⟩
def iE.add {k:Nat}{aa stg:List aA}(s:iE k aa stg){more:List aA}(h:∀ru∈more,HC ru):iE k (aa++more) stg :=
 ⟨s.fst.trans (List.prefix_append _ _),λru hr=>(cN.mp hr).elim (s.ru ru) (h ru),s.st,s.nd,s.len⟩
def Mz:∀k:Nat,k < 42->∀z∈fM,wordsOf (z++(" w":Str)++((toString (k:Int):String):Str))=[z,wT k]/\cm (wT k)=true/\wT k≠(":":Str)/\(sg z).head?≠some 35/\10∉sg (z++(" w":Str)++((toString (k:Int):String):Str))/\(z++(" w":Str)++((toString (k:Int):String):Str)).length<=200:=by decide +kernel
def Je:∀i:Nat,i < 42->∀j:Nat,j < 42->wT i=wT j->i=j:=by decide +kernel
def Kd:∀t∈markL,((wordsOf t).head?.bind λz=>(sg z).head?)=some 35/\10∉sg t/\t.length<=200:=by decide +kernel
def JZ:∀t∈Ee,wordsOf t=[]/\10∉sg t/\t.length<=200:=by decide +kernel
def Ef {ws:List Str}(h:∀p∈ws,Wd p/\p.length<=14)(hl:ws.length<=10):10∉sg (Txt.join ⟨#[32]⟩ ws)/\(Txt.join ⟨#[32]⟩ ws).length<=200:=by
 refine⟨G4 λp hp=>(h p hp).1,?_⟩;have:=En λp hp=>(h p hp).2;omega
def Fc:Wd ("|":Str)/\("|":Str).length<=14:=⟨⟨nofun,nofun,nofun⟩,nofun⟩
def E7:Wd (":":Str)/\(":":Str).length<=14:=⟨⟨nofun,nofun,nofun⟩,nofun⟩
def IW.wl {p:Str}(h:IW p):Wd p/\p.length<=14:=⟨h.wd,h.le⟩
def AK {p:Str}(h:p∈(["y","z","+","rows","more","left","-"]:List Str)):IW p:=ml (vp p h)
def pH.step {k n:Nat}{t:Str}(h:pH k t n)(hk:k < 42){aa stg:List aA}(s:iE k aa stg)(lr:aa.length<=1000):10∉sg t/\t.length<=200/\∃gY uN,br aa stg [wordsOf t] gY uN/\gY.length=aa.length+n/\iE (k+1) gY uN:=by
 have ls:stg.length<=100000:=by have:=s.len;omega
 cases h with
 | rows n j h1 tJ hj =>
  have hy:=uF (j:=j) h1 tJ;have hw:∀p∈(["rows",":","y"]:List Str)++ke n j,Wd p/\p.length<=14:=λp hp=>by
   rcases aT.mp hp with rfl | hp
   .exact(AK nofun).wl
   rcases aT.mp hp with rfl | hp
   .exact E7
   exact(hy p hp).wl
  obtain⟨a,b⟩:=Ef hw (by rw [bZ];have:=gH n j;show 3+_<=10;omega);refine⟨a,b,aa++[(("rows":Str),("y":Str)::ke n j)],stg,?_,by rw [bZ];rfl,(s.add λru hr=>by rw [cJ.mp hr];exact CM nofun h1 tJ).up⟩;rw [yP λp hp=>(hw p hp).1];exact .one nofun (.head "rows" (("y":Str)::ke n j) [("y":Str)::ke n j] nofun nofun nofun (nZ λp hp=>⟨(hy p hp).ns,(hy p hp).ip⟩)) ∅ ls
 | more n j h1 tJ hj =>
  have hy:=uF (j:=j) h1 tJ;have hw:∀p∈(["more",":","y"]:List Str)++ke n j++(["|","z"]:List Str),Wd p/\p.length<=14:=λp hp=>by
   rcases cN.mp hp with hp | hp
   .rcases aT.mp hp with rfl | hp
    .exact(AK nofun).wl
    rcases aT.mp hp with rfl | hp
    .exact E7
    exact(hy p hp).wl
   rcases aT.mp hp with rfl | hp
   .exact Fc
   rw [cJ.mp hp];exact(AK nofun).wl
  obtain⟨a,b⟩:=Ef hw (by rw [bZ,bZ];have:=gH n j;show 3+_+2<=10;omega);refine⟨a,b,aa++[(("more":Str),("y":Str)::ke n j),(("more":Str),(["z"]:List Str))],stg,?_,by rw [bZ];rfl,(s.add λru hr=>?_).up⟩
  .rw [yP λp hp=>(hw p hp).1];have hz:∀p∈(["z"]:List Str),p≠("|":Str)/\cm p=true:=by decide +kernel
   have hr:=gO (("y":Str)::ke n j) [] [] [("y":Str)::ke n j] ["z"] (nZ λp hp=>⟨(hy p hp).ns,(hy p hp).ip⟩) hz;exact .one nofun (.head "more" (("y":Str)::ke n j++("|":Str)::["z"]) [("y":Str)::ke n j,["z"]] nofun nofun nofun hr) ∅ ls
  rcases aT.mp hr with rfl | hr
  .exact CM nofun h1 tJ
  rw [cJ.mp hr];exact⟨nofun,⟨"z",by simp,nofun⟩,nofun,λp hp=>by rw [cJ.mp hp];exact AK nofun⟩
 | bar n j h1 tJ hj =>
  have hy:=uF (j:=j) h1 tJ;have hw:∀p∈(["|","y"]:List Str)++ke n j,Wd p/\p.length<=14:=λp hp=>by
   rcases aT.mp hp with rfl | hp
   .exact Fc
   exact(hy p hp).wl
  obtain⟨a,b⟩:=Ef hw (by rw [bZ];have:=gH n j;show 2+_<=10;omega);obtain⟨h,ps,e⟩:∃h ps,aa.getLast?=some (h,ps):=by
   cases e:aa.getLast? with
   | some x=>exact⟨x.1,x.2,rfl⟩
   | none =>
    have hn:=List.getLast?_eq_none_iff.mp e;have:=s.fst.length_le;rw [hn] at this;exact absurd this nofun
  have hh:h∈names3:=(s.ru (h,ps) (List.mem_of_getLast? e)).nm;refine⟨a,b,aa++[(h,("y":Str)::ke n j)],stg,?_,by rw [bZ];rfl,(s.add λru hr=>by rw [cJ.mp hr];exact CM hh h1 tJ).up⟩;rw [yP λp hp=>(hw p hp).1];exact .one nofun (.more h ps (("y":Str)::ke n j) [("y":Str)::ke n j] e (nZ λp hp=>⟨(hy p hp).ns,(hy p hp).ip⟩)) ∅ ls
 | way z hz =>
  obtain⟨w1,w2,w3,w4,w5,w6⟩:=Mz k hk z hz;refine⟨w5,w6,aa,stg++[(z,[wT k])],?_,rfl,s.fst,s.ru,λst hs=>?_,?_,by rw [bZ];have:=s.len;show _+1<=_;omega⟩
  .rw [w1];exact .one w4 (.way z [wT k] hz (by simp) (λe=>w3 (by injection e)) (λp hp=>by rw [cJ.mp hp];exact w2)) ∅ ls
  .rcases cN.mp hs with h | h
   .obtain⟨i,hi,e⟩:=s.st st h;exact⟨i,∅,e⟩
   rw [cJ.mp h];exact⟨k,∅,rfl⟩
  rw [uu,jx];refine⟨s.nd,by simp,λa ha b hb e=>?_⟩;have hb:b=wT k:=by simpa using hb
  obtain⟨st,hs,hm⟩:=kI.mp ha;obtain⟨i,hi,es⟩:=s.st st hs;rw [es] at hm;have ha2:a=wT i:=cJ.mp hm;rw [ha2,hb] at e;have:=Je i ∅ k hk e;omega
 | mark t ht =>
  obtain⟨m1,m2,m3⟩:=Kd _ ht;refine⟨m2,m3,aa,stg,?_,rfl,s.up⟩;cases e:wordsOf t with
  | nil=>rw [e] at m1;cases m1
  | cons z ws=>rw [e] at m1;exact .mark _ _ _ _ _ _ _ m1 (.nil _ _)
 | none t ht =>
  obtain⟨m1,m2,m3⟩:=JZ _ ht;refine⟨m2,m3,aa,stg,?_,rfl,s.up⟩;rw [m1];exact .none _ _ _ _ _ (.nil _ _)
def oS:List Str:=["rows : y more left","more : y","left : y","left : + more"]
def Gq:oS.map wordsOf=([["rows",":","y","more","left"],["more",":","y"],["left",":","y"],["left",":","+","more"]]:List (List Str)):=by decide +kernel
def Dr:br [] [] (oS.map wordsOf) kq []:=by
 rw [Gq];refine .row _ _ _ _ _ [("rows",["y","more","left"])] [] _ _ nofun (.head (aa:=[]) (stg:=[]) "rows" ["y","more","left"] [["y","more","left"]] nofun nofun nofun nofun) nofun nofun ?_;refine .row _ _ _ _ _ [("rows",["y","more","left"]),("more",["y"])] [] _ _ nofun (.head (aa:=[("rows",["y","more","left"])]) (stg:=[]) "more" ["y"] [["y"]] nofun nofun nofun nofun) nofun nofun ?_;refine .row _ _ _ _ _ [("rows",["y","more","left"]),("more",["y"]),("left",["y"])] [] _ _ nofun (.head (aa:=[("rows",["y","more","left"]),("more",["y"])]) (stg:=[]) "left" ["y"] [["y"]] nofun nofun nofun nofun) nofun nofun ?_;refine .row _ _ _ _ _ kq [] _ _ nofun (.head (aa:=[("rows",["y","more","left"]),("more",["y"]),("left",["y"])]) (stg:=[]) "left" ["+","more"] [["+","more"]] nofun nofun nofun nofun) nofun nofun (.nil _ _)
def Ds:∀t∈oS,10∉sg t/\t.length<=200:=by decide +kernel
def qC {aa:List aA}{g:G}(se:gM M11.bl aa g){x:Str}{ps:List Str}(hm:(x,ps)∈aa)(hv:∀p∈ps,(g p).isSome=true):∃n,g x=some n/\n<=1+(ps.map λp=>(g p).getD 0).sum:=by
 have:=se _ hm;unfold cq at this;have a1:jt g (x,ps)=true:=fY.mpr λp hp=>hv p hp;have s0:aP g (x,ps)=1+(ps.map λp=>(g p).getD 0).sum:=rfl;rw [a1,s0,p8] at this;cases gn:g x with
 | none=>rw [show g (x,ps).1=none from gn] at this;cases this
 | some m =>
  rw [show g (x,ps).1=some m from gn] at this;refine⟨m,rfl,?_⟩;have:¬(1+(ps.map λp=>(g p).getD 0).sum:Int) < m:=by
   simpa [M11.bl] using this
  omega
theorem sE (bF:List Str):∀(ps bB:List Str)(x:Str),(x∈bB\/(x∈ps/\x∉bF))->x∈pJ bF bB ps
 | [],bB,x,h=>by
  rcases h with h | ⟨h,_⟩
  .exact h
  cases h
 | p::r,bB,x,h=>by
  show x∈pJ bF (addW bF bB p) r;apply sE bF r;unfold addW;by_cases c:p∈bF
  .rw [ay c];rcases h with h | ⟨h,n⟩
   .exact .inl h
   rcases aT.mp h with z | z
   .exact absurd (z ▸ c) n
   exact .inr ⟨z,n⟩
  rw [av c];rcases h with h | ⟨h,n⟩
  .exact .inl ((i0 _ _ _).mpr (.inl h))
  rcases aT.mp h with z | z
  .exact .inl ((i0 _ _ _).mpr (.inr z))
  exact .inr ⟨z,n⟩
theorem iE.hd {k:Nat}{aa stg:List aA}(s:iE k aa stg){x:Str}(h:x∈hd aa):x∈names3:=by
 obtain⟨ru,j7,rfl⟩:=Ol h;exact(s.ru ru j7).nm
def iE.wd {k:Nat}{aa stg:List aA}(s:iE k aa stg){x:Str}(h:x∈uG):x∉fg.hd aa:=λhx=>(show ∀x∈uG,x∉names3 by decide +kernel) x h (s.hd hx)
def iE.em {k:Nat}{aa stg:List aA}(s:iE k aa stg){ru:aA}(hr:ru∈aa)(h:∀p∈ru.2,Em aa p):False:=by
 obtain⟨w,hw,h3⟩:=(s.ru ru hr).wd;exact s.wd h3 (IF (h w hw))
def iE.Y9 {k:Nat}{aa stg:List aA}(s:iE k aa stg){x:Str}:¬Em aa x:=λh=>by
 cases h with
 | mk h1 h2=>exact s.em h1 h2
def iE.good {k:Nat}{aa stg:List aA}(s:iE k aa stg):Good aa (λ_=>0) (λ_=>1) where
 least gg st se:=by
  have gb:∀x,x∉fg.hd aa->∀ru∈aa,x∈ru.2->gg x=some 0:=by
   intro x nn ru j7 hm;refine dw.keep (J:=λg=>g x=some 0) (λg LQ j h2 _=>?_) st ?_
   .show dj g LQ.1 _ x=some 0;unfold dj;rw [av (λz=>nn (by rw [z];exact w_ h2))];exact j
   show vW aa x=some 0;unfold vW;rw [ay (sE _ _ _ _ (.inr ⟨kI.mpr ⟨ru,j7,hm⟩,nn⟩))]
  have m0:(("rows":Str),(["y","more","left"]:List Str))∈aa:=s.fst.subset nofun;have m1:(("more":Str),(["y"]:List Str))∈aa:=s.fst.subset nofun;have m2:(("left":Str),(["y"]:List Str))∈aa:=s.fst.subset nofun;have vy:=gb "y" (s.wd nofun) _ m1 (by simp);have one:∀x:Str,(x,(["y"]:List Str))∈aa->∃n,gg x=some n/\n<=1:=λx hm=>by
   obtain⟨n,gn,ln⟩:=qC se hm (λp hp=>by rw [cJ.mp hp,vy];rfl);rw [bz,iz,vy] at ln;exact⟨n,gn,ln⟩
  obtain⟨k1,g1,l1⟩:=one "more" m1;obtain⟨k2,g2,l2⟩:=one "left" m2;obtain⟨k0,g0,l0⟩:=qC se m0 (λp hp=>by
   rcases aT.mp hp with rfl | hp
   .rw [vy];rfl
   rcases aT.mp hp with rfl | hp
   .rw [g1];rfl
   rw [cJ.mp hp,g2];rfl)
  rw [bz,bz,bz,iz,vy,g1,g2] at l0;have l0:k0<=1+(0+(k1+(k2+0))):=l0;intro h hh;have hn:=s.hd hh;rcases aT.mp hn with rfl | hn
  .exact⟨k0,g0,∅⟩
  rcases aT.mp hn with rfl | hn
  .exact⟨k1,g1,∅⟩
  rw [cJ.mp hn];exact⟨k2,g2,∅⟩
 met lB ms Qk h0 mc:=by
  obtain⟨rest,rfl⟩:=s.fst;cases Qk;have h0:("rows":Str)∈ms:=h0;have V2:∀ru∈kq++rest,ru.1∈ms->∀x∈ru.2,x∈ms:=λru j7=>mc ru (by rw [de];exact j7);have m0:(("rows":Str),(["y","more","left"]:List Str))∈kq++rest:=oO _ nofun;intro h hh;have hn:=s.hd hh;rcases aT.mp hn with rfl | hn
  .exact h0
  rcases aT.mp hn with rfl | hn
  .exact V2 _ m0 h0 _ (by simp)
  rw [cJ.mp hn];exact V2 _ m0 h0 _ (by simp)
 loop bc he _ n k j hit ru z ek Qf:=by
  obtain⟨Aw,z',e1,rfl,e2,hz,hl⟩:=hit;rw [ek] at e1;cases e1;rw [Qf] at e2;cases e2;exfalso;obtain⟨w,hw,h3⟩:=(s.ru ru (bQ ek)).wd;obtain⟨i,hi⟩:=kb hw;by_cases c:i=j
  .rw [c,Qf] at hi;cases hi;exact s.wd h3 hz
  exact s.Y9 (E4 he w (d5 (wQ hl hi c)))
 UG:=⟨λ_=>(show (0:Int)<=1 by decide),λru j7 P8=>(s.em j7 P8).elim⟩
 most h _:=by show (1:Int)<=60;decide
abbrev JC:Stmt:=top 64
theorem iP:∀{ts:List Str},(∀t∈ts,t.length<=200)->(ts.map (·.length)).sum<=200 * ts.length
 | [],_=>dC _
 | t::r,h=>by
  have ih:=iP λx hx=>h x (cM _ hx);have ht:=h t bT;rw [bz,j9,cH];omega
def G_ {ts:List Str}(h:∀t∈ts,t.length<=200)(hl:ts.length<=100):(Txt.join ⟨#[10]⟩ ts).length<=90000:=by
 have e:Txt.join ⟨#[10]⟩ ts=Str.join ⟨#[10]⟩ ts:=so _ _;have h1:=StrLaws.join_length_le ⟨#[10]⟩ ts;have h2:=iP h;have e1:((⟨#[10]⟩:Str)).length=1:=rfl;rw [e1] at h1;rw [e];omega
def Ew {ts:List Str}(h:∀t∈ts,t.length<=200)(hl:ts.length<=110):(Txt.join ⟨#[10]⟩ ts).length<=90000:=by
 have e:Txt.join ⟨#[10]⟩ ts=Str.join ⟨#[10]⟩ ts:=so _ _;have h1:=StrLaws.join_length_le ⟨#[10]⟩ ts;have h2:=iP h;have e1:((⟨#[10]⟩:Str)).length=1:=rfl;rw [e1] at h1;rw [e];omega
def mU.Eo {r s r1 s1:List aA}{ws:List Str}(h:mU r s ws r1 s1):r.length<=r1.length:=by
 cases h <;> simp
theorem br.Eo {r s r1 s1:List aA}{a:List (List Str)}(h:br r s a r1 s1):r.length<=r1.length:=by
 induction h with
 | nil r s=>exact aK _
 | none r s rows r' s' _ ih=>exact ih
 | mark r s z ws rows r' s' h _ ih=>exact ih
 | row r s z ws rows r1 s1 r' s' h o lr ls _ ih=>exact df o.Eo ih
section
structure Fq (k:Nat) (ts:List Str)(aa stg:List aA):Prop where
 tx:br [] [] (ts.map wordsOf) aa stg
 st:iE k aa stg
 nl:∀t∈ts,10∉sg t/\t.length<=200
 ne:ts≠[]
def Fq.more {k n:Nat}{ts:List Str}{aa stg:List aA}{t:Str}(R:Fq k ts aa stg)(h:pH k t n)(hk:k < 42)(lr:aa.length<=1000):∃gY uN,Fq (k+1) (ts++[t]) gY uN/\gY.length=aa.length+n:=by
 obtain⟨a,b,r',s',h1,h2,h3⟩:=h.step hk R.st lr;refine⟨r',s',⟨?_,h3,λx hx=>?_,by simp⟩,h2⟩
 .rw [bu];exact R.tx.app h1
 rcases cN.mp hx with hx | hx
 .exact R.nl x hx
 rw [cJ.mp hx];exact⟨a,b⟩
def Al (K:aY)(T1 T2 T3:Addr):Sp:=λvs H Q _=>∃(a:Addr)(ns:List Int),vs=[.ref a]/\aH K H a (ns.map V.int)/\ns.length<=63/\zT T1 T2 T3 H/\∀H',Q (.bl true) H'
def ig:aM ["_law_script","_law_rows","_law_many","_law_k","_law_row_here","_law_count","_law_draws","_law_others","_law_bad_here","_law_at"] ["_law_script"] (ax JC):=i5 rfl rfl rfl rfl nofun
def JX {Cg T1 T2 T3:Addr}(F:hU K "law" "law" JC f fd)(T:Txt mg)(XR:aG P w K mg base 10 "_law_cell_at" ["_law_script","_law_k"] (Dd K))(GS:aG P w K mg base 10 "_law_stream" ["_law_cell","_law_many"] qy)
  (GR:aG P w K mg base 10 "_law_row" ["_law_cell","_law_at"] (Ah K))(GB:aG P w K mg base 10 "_law_bad" ["_law_draw"] Ao)(GF:aG P w K mg base 10 "_law_refused" ["_law_text","_law_number"] (oR K))
  (GG:aG P w K mg base 10 "read_grammar" ["text"] (Ai K Cg T1 T2 T3))(G:GC K Cg):bA P w K mg base e_ 11 f fd ["_law_script"] (Al K T1 T2 T3):=by
 refine F.ok ig (λvs H Q E h=>?_) (λdG A outer s H vs Q E hr h=>?_)
 .obtain⟨a,ns,rfl,_⟩:=h;rfl
 obtain⟨a,ns,rfl,hS,hl,hT,q⟩:=h;refine⟨_,@ao _ _ _ _ _ (@aI _ _ 1 _ _ _ _ ig.nd rfl (bO rfl) (@bo _ _ _ _ (@ae _ _ _ _ _ (@aF _ _ _ _) (@ae _ _ _ _ _ (@aF _ _ _ _) (@ae _ _ _ _ _ (@aF _ _ _ _) (@ae _ _ _ _ _ (@aF _ _ _ _) (@ak _) rfl) rfl) rfl) rfl)) rfl (.inr rfl))
  (@ao _ _ _ _ _ (@aI _ _ 2 _ _ _ _ ig.nd rfl (bO rfl) (@ar _ _ _ _) rfl (.inr rfl))
  (@ao _ _ _ _ _ (@cD _ _ _ _ _ _ _ _ cU rfl (Bl rfl T.Ia (@ae _ _ _ _ _ (@ar _ _ _ _) (@ae _ _ _ _ _ (aJ (Cd rfl) rfl T.min PyProof.Rows.boot_min (@ae _ _ _ _ _ (aJ bN rfl T.len fK (@ae _ _ _ _ _ (pv 0) (@ak _) rfl)) (@ae _ _ _ _ _ (@ar _ _ _ _) (@ak _) rfl) rfl)) (@ak _) rfl) rfl)) (az (i:=3) ig.nd rfl (bO rfl))
  (@ao _ _ _ _ _ (u9 (@bp _ _ _ _ _ _ _ _ _ _ GR hr rfl (@ae _ _ _ _ _ (@aQ _ _ _ _ _ _ _ aL (pv 0) (pv 3) (λ_ _=>rfl)) (@ae _ _ _ _ _ (pv 3) (@ak _) rfl) rfl) rfl rfl rfl) (iq (n:=2) K rfl (aE (az (i:=4) ig.nd rfl (bO rfl)) (aE (az (i:=5) ig.nd rfl (bO rfl)) b_))))
  (@ao _ _ _ _ _ (@jW _ _ _ (@b9 _ _ _ _ _ _ _ _ (bJ qI (@bf _ _ _ _ _ _ _ _ fP (pv 2) (pv 5)) (@ar _ _ _ _) (bX _))
  (@au _ _ _ (u9 (@bS _ _ _ _ _ (@ae _ _ _ _ _ (@aF _ _ _ _) (@ae _ _ _ _ _ (@ar _ _ _ _) (@ak _) rfl) rfl)) (iq (n:=2) K rfl (aE (az (i:=4) ig.nd rfl (bO rfl)) (aE (az (i:=5) ig.nd rfl (bO rfl)) b_))))) aZ))
  (@ao _ _ _ _ _ (cv (cX f_ iL iM cA (pv 1) (@ae _ _ _ _ _ (pv 4) (@ak _) rfl)))
  (@au _ _ _ (@aI _ _ 2 _ _ _ _ ig.nd rfl (bO rfl) (@bf _ _ _ _ _ _ _ _ fP (pv 2) (pv 5)) rfl (.inr rfl)))))) (λ_=>rfl))
  (@ao _ _ _ _ _ (@aI _ _ 6 _ _ _ _ ig.nd rfl (bO rfl) (@bp _ _ _ _ _ _ _ _ _ _ GS hr rfl (@ae _ _ _ _ _ (@bp _ _ _ _ _ _ _ _ _ _ XR hr rfl (@ae _ _ _ _ _ (pv 0) (@ae _ _ _ _ _ (@ar _ _ _ _) (@ak _) rfl) rfl) rfl rfl rfl) (@ae _ _ _ _ _ (@ar _ _ _ _) (@ak _) rfl) rfl) rfl rfl rfl) rfl (.inr rfl))
  (@ao _ _ _ _ _ (@aI _ _ 7 _ _ _ _ ig.nd rfl (bO rfl) (@bp _ _ _ _ _ _ _ _ _ _ GS hr rfl (@ae _ _ _ _ _ (@bp _ _ _ _ _ _ _ _ _ _ XR hr rfl (@ae _ _ _ _ _ (pv 0) (@ae _ _ _ _ _ (@ar _ _ _ _) (@ak _) rfl) rfl) rfl rfl rfl) (@ae _ _ _ _ _ (@ar _ _ _ _) (@ak _) rfl) rfl) rfl rfl rfl) rfl (.inr rfl))
  (@ao _ _ _ _ _ (@aI _ _ 8 _ _ _ _ ig.nd rfl (bO rfl) (a_ gL rfl T.lst g_ (@ae _ _ _ _ _ (pv 1) (@ak _) rfl)) rfl (.inr rfl))
  (@ao _ _ _ _ _ (@jW _ _ _ (@aI _ _ 9 _ _ _ _ ig.nd rfl (bO rfl) (@bf _ _ _ _ _ _ _ _ dH (@aQ _ _ _ _ _ _ _ aL (pv 6) (@ar _ _ _ _) (λ_ _=>rfl)) (@bf _ _ _ _ _ _ _ _ fP (aJ bN rfl T.len fK (@ae _ _ _ _ _ (pv 8) (@ak _) rfl)) (@ar _ _ _ _))) rfl (.inr rfl)))
  (@ao _ _ _ _ _ (@jW _ _ _ (@b9 _ _ _ _ _ _ _ _ (bJ iS (@bf _ _ _ _ _ _ _ _ dH (@aQ _ _ _ _ _ _ _ aL (pv 6) (@ar _ _ _ _) (λ_ _=>rfl)) (@ar _ _ _ _)) (@ar _ _ _ _) (bX _))
  (@ao _ _ _ _ _ (@aI _ _ 9 _ _ _ _ ig.nd rfl (bO rfl) (@ar _ _ _ _) rfl (.inr rfl))
  (@au _ _ _ (cv (cX f_ yd ye og (pv 8) (@ae _ _ _ _ _ (@ar _ _ _ _) (@ae _ _ _ _ _ (@aF _ _ _ _) (@ak _) rfl) rfl)))))
  (@au _ _ _ (cv (cX f_ yd ye og (pv 8) (@ae _ _ _ _ _ (pv 9) (@ae _ _ _ _ _ (@bp _ _ _ _ _ _ _ _ _ _ GB hr rfl (@ae _ _ _ _ _ (@aQ _ _ _ _ _ _ _ aL (pv 6) (@ar _ _ _ _) (λ_ _=>rfl)) (@ak _) rfl) rfl rfl rfl) (@ak _) rfl) rfl))))))
  (@ao _ _ _ _ _ (@jW _ _ _ (@b9 _ _ _ _ _ _ _ _ (bJ iS (@bf _ _ _ _ _ _ _ _ dH (@aQ _ _ _ _ _ _ _ aL (pv 7) (@ar _ _ _ _) (λ_ _=>rfl)) (@ar _ _ _ _)) (@ar _ _ _ _) (bX _))
  (@au _ _ _ (cv (cX f_ yd ye og (pv 8) (@ae _ _ _ _ _ (@bf _ _ _ _ _ _ _ _ fP (@bf _ _ _ _ _ _ _ _ fP (pv 9) (@ar _ _ _ _)) (@bf _ _ _ _ _ _ _ _ dH (@aQ _ _ _ _ _ _ _ aL (pv 7) (@ar _ _ _ _) (λ_ _=>rfl)) (@bf _ _ _ _ _ _ _ _ yV (aJ bN rfl T.len fK (@ae _ _ _ _ _ (pv 8) (@ak _) rfl)) (pv 9)))) (@ae _ _ _ _ _ (@bp _ _ _ _ _ _ _ _ _ _ GB hr rfl (@ae _ _ _ _ _ (@aQ _ _ _ _ _ _ _ aL (pv 7) (@ar _ _ _ _) (λ_ _=>rfl)) (@ak _) rfl) rfl rfl rfl) (@ak _) rfl) rfl)))) aZ))
  (@ao _ _ _ _ _ (@b9 _ _ _ _ _ _ _ _ (jG (fc (@bp _ _ _ _ _ _ _ _ _ _ GF hr rfl (@ae _ _ _ _ _ (cX iK sr su mv (@aF _ _ _ _) (@ae _ _ _ _ _ (pv 8) (@ak _) rfl)) (@ae _ _ _ _ _ (@bf _ _ _ _ _ _ _ _ fP (pv 9) (@ar _ _ _ _)) (@ak _) rfl) rfl) rfl rfl rfl)))
  (@au _ _ _ (@aW _ _ _ _ eP)) aZ)
  (@au _ _ _ (@aW _ _ _ _ (ir iS (aJ bN rfl T.len fK (@ae _ _ _ _ _ (dQ (@bp _ _ _ _ _ _ _ _ _ _ GG hr rfl (@ae _ _ _ _ _ (cX iK sr su mv (@aF _ _ _ _) (@ae _ _ _ _ _ (pv 1) (@ak _) rfl)) (@ak _) rfl) rfl rfl rfl) rfl) (@ak _) rfl)) (pv 2) (bX _))))))))))))) , ?_⟩
 refine⟨Pq,λL WK=>?_⟩;have s1:=ah WK (.lst (oS.map V.str));have e1:upd H L (.lst (oS.map V.str)) L=some (.lst (oS.map V.str)):=af;have R1:Fq 2 oS kq []:=⟨Dr,.JY 2,Ds,nofun⟩;obtain⟨m,hm,aad⟩:∃m:Nat,(if (42:Int) < (ns.length:Int) then (42:Int) else (ns.length:Int))=(m:Int)/\m<=42/\m<=ns.length:=by
  by_cases c:(42:Int) < (ns.length:Int)
  .exact⟨42,by rw [ay c];rfl,aK _,∅⟩
  exact⟨ns.length,by rw [av c],∅,aK _⟩
 refine⟨_,rfl,a,_,rfl,.inl (s1.seq hS),?_⟩;rw [aC];refine⟨_,_,rfl,?_⟩;rw [show (if (42:Int) < (ns.length:Int) then (42:Int) else (ns.length:Int))=(m:Int) from hm];refine⟨2,(m:Int),rfl,⟨∅,∅,∅,∅⟩,?_⟩;have e2:((m:Int) - 2).toNat=m - 2:=by omega
 rw [e2];refine ou (lo:=2) (n:=m - 2) (λi σ H2=>∃(ts:List Str)(aa stg:List aA)(y3 y4 y5:Option V),σ=[bG a,bG L,some (.int (aa.length:Int)),y3,y4,y5,none,none,none,none]/\aD H H2/\H2 L=some (.lst (ts.map V.str))/\Fq (2+i) ts aa stg/\aa.length<=24/\ts.length=4+i)
  ⟨oS,kq,[],none,none,none,rfl,s1,e1,R1,nofun,rfl⟩ ?_ ?_
 .rintro i σ H2 hi ⟨ts,aa,stg,y3,y4,y5,rfl,sm,eL,R,Qc,PQ⟩;have ei:(2:Int)+(i:Int)=((2+i:Nat):Int):=by omega
  rw [ei];have hk:2+i < 42:=by omega
  have lt:2+i < ns.length:=by omega
  refine⟨_,rfl,_,rfl,a,_,_,_,rfl,rfl,sm.seq hS,pW lt,_,rfl,_,2+i,rfl,hk,λRt t n H3 s3 v3 rt=>?_⟩;refine⟨Rt,_,rfl,v3,rfl,_,_,rfl,_,_,rfl,rfl,?_⟩;have eL3:=s3 _ _ eL;refine⟨λσ H4=>∃(t:Str) (n:Nat),σ=[bG a,bG L,some (.int (aa.length:Int)),some (.int ((2+i:Nat):Int)),some (.str t),some (.int (n:Int)),none,none,none,none]/\aD H3 H4/\pH (2+i) t n/\aa.length+n<=24,?_,?_⟩
  .refine⟨_,rfl,_,rfl,_,_,rfl,rfl,_,_,rfl,rfl,_,rfl,?_⟩;refine c_ (λc=>?_) (λc=>?_)
   .refine⟨kc,λp hp=>?_⟩;refine⟨p,_,rfl,bj.of af,rfl,_,_,rfl,_,_,rfl,rfl,?_⟩;exact⟨"",0,rfl,ah hp _,.none _ nofun,∅⟩
   have c':¬((24:Int) < (aa.length:Int)+(n:Int)):=λh=>c (gC h);exact⟨t,n,rfl,aD.refl _,rt,∅⟩
  rintro _ H4 ⟨t,n,rfl,s4,rt,l24⟩;have Mj:=s4 _ _ eL3;obtain⟨r',sN,R',R7⟩:=R.more rt hk ∅;refine⟨_,rfl,.inl ⟨rfl,_,aH.of Mj⟩,_,rfl,L,_,_,rfl,rfl,Mj,bW (by rw [aC];omega),?_⟩;refine⟨_,rfl,_,rfl,_,_,rfl,rfl,ts++[t],r',sN,some (.int ((2+i:Nat):Int)),some (.str t),some (.int (n:Int)),?_,?_,?_,R',∅,?_⟩
  .rw [R7];show [some (V.ref a),bG L,some (.int ((aa.length:Int)+(n:Int))),some (.int ((2+i:Nat):Int)),some (.str t),some (.int (n:Int)),none,none,none,none]=_;rw [show (((aa.length+n:Nat):Int))=(aa.length:Int)+(n:Int) by omega]
  .intro b o hb;rw [aj (aq hb WK)];exact s4 _ _ (s3 _ _ (sm b o hb))
  .rw [af,bu];rfl
  rw [bZ,PQ];rfl
 rintro σ H2 ⟨ts,aa,stg,y3,y4,y5,rfl,sm,eL,R,Qc,PQ⟩;have l46:ts.length<=46:=by omega
 refine⟨_,rfl,a,ns,0,rfl,sm.seq hS,∅,λc0=>⟨c0,3,rfl,nofun,λD1 ds H3 _ s3 eD1 ld _=>?_⟩⟩;refine⟨_,rfl,a,ns,1,rfl,(sm.trans s3).seq hS,∅,λc1=>⟨c1,3,rfl,nofun,λD2 os H4 _ s4 Xh lo _=>?_⟩⟩;have VB:=(sm.trans s3).trans s4;have Mj:=s4 _ _ (s3 _ _ eL);have OP:=s4 _ _ eD1;refine⟨_,rfl,L,_,rfl,.inl (aH.of Mj),λB hB=>?_⟩;have t5:=ah hB (.lst (ts.map V.str));have RW:L≠B:=aq Mj hB;have nB1:D1≠B:=aq OP hB;have V0:D2≠B:=aq Xh hB;have fB:H B=none:=by
  cases h:H B with
  | none=>rfl
  | some o=>rw [VB _ _ h] at hB;cases hB
 have Mm:upd H4 B (.lst (ts.map V.str)) B=some (.lst (ts.map V.str)):=af;have M5:=VB.trans t5;have Ur:=t5 _ _ Mj;have Hq:=t5 _ _ OP;have Lk:=t5 _ _ Xh;generalize upd H4 B (.lst (ts.map V.str))=H5 at t5 Mm M5 Ur Hq Lk;have Mp:∀(l:List Int) (i:Nat),i < l.length->∃x:Int,si (l.map V.int) (i:Int)=some (.int x):=λl i hi=>⟨l[i],pW hi⟩;obtain⟨d0,ad0⟩:=Mp ds 0 ∅;obtain⟨d1,ad1⟩:=Mp ds 1 ∅;obtain⟨d2,ad2⟩:=Mp ds 2 ∅;obtain⟨o0,ao0⟩:=Mp os 0 ∅;obtain⟨o1,ao1⟩:=Mp os 1 ∅;obtain⟨o2,ao2⟩:=Mp os 2 ∅;refine⟨λσ H6=>∃gP:Nat,σ=[bG a,bG L,some (.int (aa.length:Int)),y3,y4,y5,bG D1,bG D2,bG B,some (.int (gP:Int))]/\gP<=ts.length/\H6=H5,?_,?_⟩
 .refine⟨_,rfl,D1,_,_,_,rfl,rfl,aH.of Hq,ad0,_,rfl,B,_,rfl,.inl (aH.of Mm),?_⟩;rw [aC];have N6:(0:Int) < (ts.length:Int)+1:=by omega
  have h1:=Int.emod_nonneg d0 (show (ts.length:Int)+1≠0 by omega);have h2:=Int.emod_lt_of_pos d0 N6;refine⟨_,_,rfl,rfl,_,_,rfl,rfl,N6,(d0 % ((ts.length:Int)+1)).toNat,?_,∅,rfl⟩;rw [show (((d0 % ((ts.length:Int)+1)).toNat:Nat):Int)=d0 % ((ts.length:Int)+1) by omega];rfl
 rintro _ H6 ⟨gP,rfl,ND,eH⟩;rw [eH];clear eH H6;refine⟨λσ H6=>∃(fC:Nat)(b z0:Str) (vQ:List Str)(r0 s0:List aA),σ=[bG a,bG L,some (.int (aa.length:Int)),y3,y4,y5,bG D1,bG D2,bG B,some (.int (fC:Int))]/\fC<=ts.length/\H6 B=some (.lst ((ts.take fC++b::ts.drop fC).map V.str))/\10∉sg b/\b.length<=200/\wordsOf b=z0::vQ/\(sg z0).head?≠some 35/\br [] [] ((ts.take fC).map wordsOf) r0 s0/\r0.length<=24/\ji r0 (z0::vQ)/\aD H H6/\H6 L=some (.lst (ts.map V.str))/\H6 D2=some (.lst (os.map V.int)),?_,?_⟩
 .refine⟨_,rfl,D1,_,_,_,rfl,rfl,aH.of Hq,ad2,_,_,rfl,rfl,(by show (0:Int) < 8;decide),rfl,_,rfl,?_⟩;refine c_ (λ_=>?_) (λ_=>?_)
  .refine⟨_,rfl,.inl ⟨rfl,_,aH.of Mm⟩,B,_,0,.str "| y",rfl,rfl,Mm,dC _,by rw [aC];omega,?_⟩;refine⟨0,"| y","|",["y"],[],[],rfl,dC _,by rw [af];rfl,nofun,nofun,nofun,nofun,.nil _ _,nofun,.OX _ rfl,λb o hb=>?_,?_,?_⟩
   .rw [aj (aq hb fB)];exact M5 b o hb
   .rw [aj RW];exact Ur
   rw [aj V0];exact Lk
  refine⟨_,rfl,.inl ⟨rfl,_,aH.of Mm⟩,_,rfl,_,rfl,D1,_,_,_,rfl,rfl,aH.of Hq,ad1,_,rfl,λb H6 s6 hb=>?_⟩;obtain⟨b1,b2,z0,vQ,b3,b4,b5⟩:=xF (xG b hb);have Ml:=s6 _ _ Mm;refine⟨B,_,gP,.str b,rfl,rfl,Ml,by rw [aC];exact ND,by rw [aC];omega,?_⟩;have cut:=R.tx;rw [<-List.take_append_drop gP ts,bu] at cut;obtain⟨r0,s0,h1,h2⟩:=cut.cut;have V4:r0.length<=24:=df h2.Eo Qc;refine⟨gP,b,z0,vQ,r0,s0,rfl,ND,by rw [af,bu,bz,List.map_take,List.map_drop],b1,∅,b3,b4,h1,V4,b5 r0,λc o hc=>?_,?_,?_⟩
  .rw [aj (aq hc fB)];exact s6 _ _ (M5 c o hc)
  .rw [aj RW];exact s6 _ _ Ur
  rw [aj V0];exact s6 _ _ Lk
 rintro _ H6 ⟨fC,b,z0,vQ,r0,s0,rfl,lat,Ml,b10,UT,bw,b35,tk,V4,bad,s6,Xg,Lj⟩;refine⟨λσ H7=>∃(post:List Str),σ=[bG a,bG L,some (.int (aa.length:Int)),y3,y4,y5,bG D1,bG D2,bG B,some (.int (fC:Int))]/\H7 B=some (.lst ((ts.take fC++b::post).map V.str))/\(∀t∈post,10∉sg t/\t.length<=200)/\post.length<=60/\aD H H7/\H7 L=some (.lst (ts.map V.str)),?_,?_⟩
 .have dr:∀t∈ts.drop fC,10∉sg t/\t.length<=200:=λt ht=>R.nl t (List.mem_of_mem_drop ht);have R6:(ts.take fC++b::ts.drop fC).length=ts.length+1:=by rw [bZ,cH,fh,oH];omega
  refine⟨_,rfl,D2,_,_,_,rfl,rfl,aH.of Lj,ao2,_,_,rfl,rfl,(by show (0:Int) < 2;decide),rfl,_,rfl,?_⟩;refine c_ (λ_=>?_) (λ_=>?_)
  .refine⟨_,rfl,.inl ⟨rfl,_,aH.of Ml⟩,_,rfl,_,_,rfl,rfl,_,rfl,D2,_,_,_,rfl,rfl,aH.of Lj,ao0,_,rfl,B,_,rfl,.inl (aH.of Ml),?_⟩;rw [aC,R6];have je:(0:Int) < ((ts.length+1:Nat):Int) - (fC:Int):=by omega
   refine⟨_,rfl,_,_,rfl,rfl,_,_,rfl,rfl,je,_,_,rfl,rfl,_,rfl,D2,_,_,_,rfl,rfl,aH.of Lj,ao1,_,rfl,λb2 H7 s7 Hj=>?_⟩;obtain⟨c1,c2,_⟩:=xF (xG b2 Hj);obtain⟨j,hj,lj⟩:∃j:Nat,o0 % (((ts.length+1:Nat):Int) - (fC:Int))=(j:Int)/\j<=ts.length - fC:=by
    have h1:=Int.emod_nonneg o0 (show ((ts.length+1:Nat):Int) - (fC:Int)≠0 by omega);have h2:=Int.emod_lt_of_pos o0 je;exact⟨(o0 % (((ts.length+1:Nat):Int) - (fC:Int))).toNat,∅,∅⟩
   have Us:=s7 _ _ Ml;refine⟨B,_,fC+1+j,.str b2,rfl,?_,Us,by rw [aC,R6];omega,by rw [aC,R6];omega,?_⟩
   .rw [hj];show [V.int ((fC:Int)+1+(j:Int)),.str b2]=_;rw [show (((fC+1+j:Nat):Int))=(fC:Int)+1+(j:Int) by omega]
   refine⟨(ts.drop fC).take j++b2::(ts.drop fC).drop j,rfl,?_,λt ht=>?_,?_,λc o hc=>?_,?_⟩
   .have PR:(ts.take fC).length=fC:=by rw [fh];omega
    have ea:(ts.take fC++b::ts.drop fC).take (fC+1+j)=ts.take fC++b::(ts.drop fC).take j:=by
     rw [List.take_append,PR,show fC+1+j - fC=j+1 by omega,qj,qo ∅]
    have eb:(ts.take fC++b::ts.drop fC).drop (fC+1+j)=(ts.drop fC).drop j:=by
     rw [List.drop_append,PR,show fC+1+j - fC=j+1 by omega,List.drop_succ_cons,List.drop_of_length_le ∅,lG]
    rw [af,<-List.map_take,<-List.map_drop,ea,eb]
    congr 2
    rw [bu,bu,bz,bz,bu,bz,gS];rfl
   .rcases cN.mp ht with h | h
    .exact dr t (pZ h)
    rcases aT.mp h with rfl | h
    .exact⟨c1,∅⟩
    exact dr t (List.mem_of_mem_drop h)
   .have hd:(ts.drop fC).length<=46:=by rw [oH];omega
    generalize ts.drop fC=dx at hd;rw [bZ,cH,fh,oH];omega
   .rw [aj (aq hc fB)];exact s7 _ _ (s6 c o hc)
   rw [aj RW];exact s7 _ _ Xg
  exact⟨ts.drop fC,rfl,Ml,dr,by rw [oH];omega,s6,Xg⟩
 rintro _ H7 ⟨post,rfl,Us,YB,V5,s7,eL7⟩;have Lw:∀t∈ts.take fC++b::post,10∉sg t/\t.length<=200:=λt ht=>by
  rcases cN.mp ht with h | h
  .exact R.nl t (pZ h)
  rcases aT.mp h with rfl | h
  .exact⟨b10,UT⟩
  exact YB t h
 have Se:(ts.take fC++b::post).length<=110:=by rw [bZ,cH,fh];omega
 have jz:(Txt.join ⟨#[10]⟩ (ts.take fC++b::post)).length<=90000:=Ew (λt ht=>(Lw t ht).2) Se;have PR:(ts.take fC).length=fC:=by rw [fh];omega
 refine⟨rfl,_,rfl,⟨#[10]⟩,B,ts.take fC++b::post,rfl,rfl,aH.of Us,?_,_,rfl,_,_,rfl,rfl,?_⟩
 .have hs:=iP λt ht=>(Lw t ht).2;show _+_ * 1<=16777216;omega
 refine⟨_,ts.take fC,post,b,z0,vQ,r0,s0,?_,jz,qx (by simp) (λt ht=>(Lw t ht).1),tk,∅,bw,b35,bad,λH8 s8=>⟨true,rfl,?_⟩⟩
 .show [V.str _,.int ((fC:Int)+1)]=_;rw [PR,show (((fC+1:Nat):Int))=(fC:Int)+1 by omega]
 refine eC ?_;have eL8:=s8 _ _ eL7;have Yr:=s7.trans s8;have X0:=hT.same Yr;have S:=R.st;have Yt:aa≠[]:=λe=>by
  have:=S.fst.length_le;rw [e] at this;exact absurd this nofun
 refine⟨rfl,_,rfl,⟨#[10]⟩,L,ts,rfl,rfl,aH.of eL8,?_,Txt.join ⟨#[10]⟩ ts,aa,stg,_,_,rfl,G_ (λt ht=>(R.nl t ht).2) ∅,?_,∅,λru hr=>(S.ru ru hr).l8,Yt,λru hr p hp=>⟨fits (by have:=((S.ru ru hr).pt p hp).le;omega),((S.ru ru hr).pt p hp).ag⟩,by have:=S.len;omega,λst hs=>?_,S.nd,S.good,X0,λg bt LR ss2 H0 H9 s90 s3t tb9 Yu sl9 gv _=>?_⟩
 .have hs:=iP λt ht=>(R.nl t ht).2;show _+_ * 1<=16777216;omega
 .rw [qx R.ne λt ht=>(R.nl t ht).1];exact R.tx
 .obtain⟨i,_,e⟩:=S.st st hs;rw [e];exact(by decide:1<=8)
 obtain⟨gx,fs,R1',S1,eg,ZE,ls1,lb1,lt1,pD,es1,fr1,fr2⟩:=id gv;have ZD:=bM Yu;refine⟨g,Cg,gx,fs,_,rfl,eg,G.cls,G.a1,ZE,R1',_,rfl,.inl (aH.of pD),_,rfl,rfl,?_⟩;rw [aC,ZD];show Q (.bl (decide (V.int (aa.length:Int)=V.int (aa.length:Int)))) H9;rw [gC rfl];exact q H9
end
open PySem L2 M11 PySem.W
def A9 (K:Frag)(nm fld:Str)(C W f:Addr):Prop:=(nsIn K mainGlobals nm,F5 K C f Cm "ValueError.__new__",keepIn K (.ref C),(clsIn K C).map (λcd=>(cd.mro,cd.hasDict)),findIn K (.ref C) "__setattr__",takerIn K C fld,(K.lookup f).map (·.cls),exmOne K (.ref C) (.ref W),hasDictIn K C)=(some (some (.ref C)),true,true,some (.ref C::.ref W::Cm,true),some (some (.builtin "object.__setattr__")),some none,some (.type "function"),some true,true) /\
 (findIn K (.ref C) "__getattribute__",findIn K (.ref C) "__getattr__",mroIn K C (.type "BaseException"),mroIn K C (.type "object"),findIn K (.ref C) "__class__",kitCls K (.ref C) (.ref C),findIn K (.ref C) fld,findIn K (.ref C) "__init__")=(some (some (.builtin "BaseException.__getattribute__")),some none,some true,some true,some (some (.builtin "object.__class__")),some true,some none,some (some (.ref f)))
def CL (K:Frag)(W:Addr):Prop:=(specialIn K (.ref W) "__getattribute__",readsIn K W (.type "type"),findCls K (.ref W) (.type "type") "__init__",handedIn (.builtin "ValueError.__init__"),nsIn K mainGlobals "WrightError",nsIn K mainGlobals "ValueError",specialIn K (.builtin "object.__class__") "__get__",takesIn K (.builtin "object.__class__"))=(some (some (.builtin "type.__getattribute__")),true,some (.val (.builtin "ValueError.__init__")),true,some (some (.ref W)),some none,some (some (.builtin "getset_descriptor.__get__")),some true)
def A_ (K:Frag)(C:Addr)(x:Str):Prop:=∃a:Addr,nsIn K mainGlobals x=some (some (.ref a))/\kitOne K (.ref C) (.ref a)=some false
section
variable {K:Frag}{nm fld:Str}{C W f:Addr}{mg:Str->Option Value}{h:Heap}
def eqX (a:(nsIn K mainGlobals nm,F5 K C f Cm "ValueError.__new__",keepIn K (.ref C),(clsIn K C).map (λcd=>(cd.mro,cd.hasDict)),findIn K (.ref C) "__setattr__",takerIn K C fld,(K.lookup f).map (·.cls),exmOne K (.ref C) (.ref W),hasDictIn K C)=(some (some (.ref C)),true,true,some (.ref C::.ref W::Cm,true),some (some (.builtin "object.__setattr__")),some none,some (.type "function"),some true,true))
 (b:(findIn K (.ref C) "__getattribute__",findIn K (.ref C) "__getattr__",mroIn K C (.type "BaseException"),mroIn K C (.type "object"),findIn K (.ref C) "__class__",kitCls K (.ref C) (.ref C),findIn K (.ref C) fld,findIn K (.ref C) "__init__")=(some (some (.builtin "BaseException.__getattribute__")),some none,some true,some true,some (some (.builtin "object.__class__")),some true,some none,some (some (.ref f)))):A9 K nm fld C W f:=⟨a,b⟩
def eqW (a:(specialIn K (.ref W) "__getattribute__",readsIn K W (.type "type"),findCls K (.ref W) (.type "type") "__init__",handedIn (.builtin "ValueError.__init__"),nsIn K mainGlobals "WrightError",nsIn K mainGlobals "ValueError",specialIn K (.builtin "object.__class__") "__get__",takesIn K (.builtin "object.__class__"))=(some (some (.builtin "type.__getattribute__")),true,some (.val (.builtin "ValueError.__init__")),true,some (some (.ref W)),some none,some (some (.builtin "getset_descriptor.__get__")),some true)):CL K W:=a
def A9.np (e:A9 K "NoRow" "row" C W f)(w:CL K W)(X:K.In h)(G:h.Ns mainGlobals mg):Np K mg C W f:=by
 obtain⟨a,b⟩:=e;unfold CL at w;simp only [iG] at a b w;obtain⟨cd,h1,h2⟩:=cf.mp a.2.2.2.1;injection h2 with h2 h3;obtain⟨oI,o1,o2⟩:=cf.mp a.2.2.2.2.2.2.1;exact⟨a.2.1,a.2.2.1,mg_of X G a.1,mg_of X G w.2.2.2.2.1,⟨cd,h1,a.2.2.2.2.1,λself=>by rw [h2];rfl,by rw [h2];rfl,h3⟩,a.2.2.2.2.2.1,⟨w.1,⟨_,w.2.1,w.2.2.1⟩,w.2.2.2.1⟩,⟨oI,o1,o2⟩⟩
def A9.xg (e:A9 K nm fld C W f)(w:CL K W):XG K C:=by
 obtain⟨a,b⟩:=e;unfold CL at w;simp only [iG] at a b w;exact⟨a.2.2.2.2.2.2.2.2,b.1,b.2.1,b.2.2.1,b.2.2.2.1,b.2.2.2.2.1,w.2.2.2.2.2.2.1,w.2.2.2.2.2.2.2,b.2.2.2.2.2.1⟩
def A9.na (e:A9 K nm fld C W f):cV K C fld:=by
 obtain⟨a,b⟩:=e;simp only [iG] at b;exact b.2.2.2.2.2.2.1
def A9.xm (e:A9 K nm fld C W f):exmOne K (.ref C) (.ref W)=some true:=by
 obtain⟨a,b⟩:=e;simp only [iG] at a;exact a.2.2.2.2.2.2.2.1
def A9.ns (e:A9 K nm fld C W f)(X:K.In h)(G:h.Ns mainGlobals mg):mg nm=some (.ref C):=by
 obtain⟨a,b⟩:=e;simp only [iG] at a;exact mg_of X G a.1
theorem A9.at_ {g:Addr}(e:A9 K nm fld C W f)(m:Meth K C "__init__" g):g=f:=by
 obtain⟨a,b⟩:=e;simp only [iG] at b;have:=m.at_.symm.trans b.2.2.2.2.2.2.2;injection this with this;injection this with this;injection this
def CL.mW (ew:CL K W)(X:K.In h)(G:h.Ns mainGlobals mg):mg "WrightError"=some (.ref W):=by
 unfold CL at ew;simp only [iG] at ew;exact mg_of X G ew.2.2.2.2.1
def CL.mV (ew:CL K W)(X:K.In h)(G:h.Ns mainGlobals mg):mg "ValueError"=none:=by
 unfold CL at ew;simp only [iG] at ew;exact mg_none_of X G ew.2.2.2.2.2.1
def A_.o (e:A_ K C nm)(X:K.In h)(G:h.Ns mainGlobals mg):Cu K mg C nm:=by
 obtain⟨a,e1,e2⟩:=e;exact⟨a,mg_of X G e1,e2⟩
end
end fg
namespace L2
open PySem
def sG {C:List Value->Prop}(h:∀a,C [a]):∀us:List Value,us.length=1->C us
 | [a],_=>h a
def CW {C:List Value->Prop}(h:∀a b,C [a,b]):∀us:List Value,us.length=2->C us
 | [a,b],_=>h a b
def Jg {C:List Value->Prop}(h:∀a b c,C [a,b,c]):∀us:List Value,us.length=3->C us
 | [a,b,c],_=>h a b c
def eF (K:aY)(x:Str)(st:Stmt):Prop:=∃(g:Addr)(oc:Value)(od an:Option Addr)(sl:Array (Option Value))(kV dc pm cd ct:Value),PySem.W.nsIn K mainGlobals x=some (some (.ref g)) /\
 K.lookup g=some ⟨oc,od,.func (PySem.W.fnOf x x (cW st) (bV st) (ax st) .none kV dc pm an cd ct),sl⟩/\PySem.W.codeIn K cd x=true/\PySem.W.keepIn K (.ref g)=true
def eF.get {K:aY}{h:Heap}{mg:Str->Option Value}{x:Str}{st:Stmt}(X:K.In h)(G:h.Ns mainGlobals mg)(H:eF K x st):∃g gd,hU K x x st g gd/\mg x=some (.ref g):=by
 obtain⟨g,oc,od,an,sl,kV,dc,pm,cd,ct,a,l,c,k⟩:=H;exact⟨g,_,ET (st:=st) l c k,jj X G a⟩
def Cv (K:aY)(x:Str)(st:Stmt)(T:Addr):Prop:=∃(g:Addr)(oc:Value)(od an:Option Addr)(sl:Array (Option Value))(kV dc pm:Value)(c:Addr)(ct:Value),PySem.W.nsIn K mainGlobals x=some (some (.ref g)) /\
 K.lookup g=some ⟨oc,od,.func (PySem.W.fnOf x x (cW st) (bV st) (ax st) .none kV dc pm an (.ref c) ct),sl⟩/\PySem.W.codeIn K (.ref c) x=true/\PySem.W.codeHdIn K c T=true/\PySem.W.keepIn K (.ref g)=true
def Cv.get {K:aY}{h:Heap}{mg:Str->Option Value}{x:Str}{st:Stmt}{T:Addr}(X:K.In h)(G:h.Ns mainGlobals mg)(H:Cv K x st T):∃g gd,xO K x x st g gd T/\mg x=some (.ref g):=by
 obtain⟨g,oc,od,an,sl,kV,dc,pm,c,ct,a,l,d,e,k⟩:=H;exact⟨g,_,⟨⟨oc,od,kV,dc,pm,an,c,ct,sl,rfl,l,d,e⟩,k⟩,jj X G a⟩
def xO.binds {K:aY}{x qual:Str}{st:Stmt}{f T:Addr}{fd:FuncData}{ps:List Str}(F:xO K x qual st f fd T)
  (h:∀(kV doc pm:Value)(an:Option Addr)(dG ct:Value)(us:List Value),us.length=ps.length->bindArgs (PySem.W.fnOf x qual (cW st) (bV st) (ax st) .none kV doc pm an dG ct) ⟨us,[]⟩=pure (ps.zip us)):Binds K fd ps []:=by
 obtain⟨oc,od,kV,doc,pm,an,c,ct,vS,rfl,lk,rX,_⟩:=F.ex;exact .all (h kV doc pm an (.ref c) ct)
def xM (K:aY)(C:Addr)(m qual:Str)(st:Stmt):Prop:=∃(g:Addr)(oc:Value)(od an:Option Addr)(sl:Array (Option Value))(kV dc pm cd ct:Value),PySem.W.findIn K (.ref C) m=some (some (.ref g)) /\
 K.lookup g=some ⟨oc,od,.func (PySem.W.fnOf m qual (cW st) (bV st) (ax st) .none kV dc pm an cd ct),sl⟩/\PySem.W.codeIn K cd qual=true/\PySem.W.keepIn K (.ref g)=true/\PySem.W.isFn K (.ref g)=true
def xM.get {K:aY}{C:Addr}{m qual:Str}{st:Stmt}(H:xM K C m qual st):∃g gd,hU K m qual st g gd/\Meth K C m g:=by
 obtain⟨g,oc,od,an,sl,kV,dc,pm,cd,ct,a,l,c,k,i⟩:=H;exact⟨g,_,ET (st:=st) l c k,⟨a,i,k⟩⟩
def eF.c {K:aY}{h:Heap}{mg:Str->Option Value}{x:Str}{st:Stmt}{P:Program}{w:World}{base:Heap}{k:Nat}{ps:List Str}{sp:Sp}(H:eF K x st)(X:K.In h)(G:h.Ns mainGlobals mg)
  (b:∀(kV doc pm:Value)(an:Option Addr)(dG ct:Value)(us:List Value),us.length=ps.length->bindArgs (PySem.W.fnOf x x (cW st) (bV st) (ax st) .none kV doc pm an dG ct) ⟨us,[]⟩=pure (ps.zip us))
  (o:∀{f:Addr}{fd:FuncData},hU K x x st f fd->mg x=some (.ref f)->Binds K fd ps []->bA P w K mg base e_ k f fd ps sp):aG P w K mg base k x ps sp:=by
 obtain⟨f,fd,F,m⟩:=H.get X G;have B:=F.binds b;exact⟨f,fd,o F m B,B,F.kp,m⟩
def hD {K:aY}{x:Str}{st:Stmt}(g c:Addr)(pm:Value)(h:(PySem.W.nsIn K mainGlobals x,K.lookup g,PySem.W.codeIn K (.ref c) x,PySem.W.keepIn K (.ref g))=(some (some (.ref g)),some ⟨.type "function",none,.func (PySem.W.fnOf x x (cW st) (bV st) (ax st) .none .none .none pm none (.ref c) .none),#[]⟩,true,true)):eF K x st:=by
 simp only [iG] at h;exact⟨g,_,_,_,_,_,_,_,_,_,h.1,h.2.1,h.2.2.1,h.2.2.2⟩
def hC {K:aY}{x:Str}{st:Stmt}{T:Addr}(g c:Addr)(pm:Value)(h:(PySem.W.nsIn K mainGlobals x,K.lookup g,PySem.W.codeIn K (.ref c) x,PySem.W.codeHdIn K c T,PySem.W.keepIn K (.ref g))=(some (some (.ref g)),some ⟨.type "function",none,.func (PySem.W.fnOf x x (cW st) (bV st) (ax st) .none .none .none pm none (.ref c) .none),#[]⟩,true,true,true)):Cv K x st T:=by
 simp only [iG] at h;exact⟨g,_,_,_,_,_,_,_,c,_,h.1,h.2.1,h.2.2.1,h.2.2.2.1,h.2.2.2.2⟩
def WI {K:aY}{a:Addr}{xs:List V}(aO:Array Value)(h:K.lookup a=some ⟨.type "tuple",none,.seq aO 0,#[]⟩)(hs:aO.size<=sizeLine)(v:aU xs aO.toList):∀H,bj K H a xs:=λ_=>.inr ⟨_,aO,0,h,rfl,rfl,hs,v⟩
def hM {K:aY}{C:Addr}{m qual:Str}{st:Stmt}(g c:Addr)(pm:Value)(h:(PySem.W.findIn K (.ref C) m,K.lookup g,PySem.W.codeIn K (.ref c) qual,PySem.W.keepIn K (.ref g),PySem.W.isFn K (.ref g))=(some (some (.ref g)),some ⟨.type "function",none,.func (PySem.W.fnOf m qual (cW st) (bV st) (ax st) .none .none .none pm none (.ref c) .none),#[]⟩,true,true,true)):xM K C m qual st:=by
 simp only [iG] at h;exact⟨g,_,_,_,_,_,_,_,_,_,h.1,h.2.1,h.2.2.1,h.2.2.2.1,h.2.2.2.2⟩
end L2
namespace fg
open PySem L2 M11
def LI (K:aY)(C:Addr)(m qual:Str)(st:Stmt):Prop:=∃(g:Addr)(oc:Value)(od an:Option Addr)(sl:Array (Option Value))(kV dc pm cd ct:Value)(T:Addr)(o:Obj) (n:Nat),PySem.W.findIn K (.ref C) m=some (some (.ref g)) /\
 K.lookup g=some ⟨oc,od,.func (PySem.W.fnOf m qual (cW st) (bV st) (ax st) (.ref T) kV dc pm an cd ct),sl⟩/\PySem.W.codeIn K cd qual=true/\K.lookup T=some o/\o.data=.seq #[.none] n/\PySem.W.keepIn K (.ref g)=true/\PySem.W.isFn K (.ref g)=true
def LI.get {K:aY}{C:Addr}{m qual:Str}{st:Stmt}(H:LI K C m qual st):∃g gd,Fy K m qual st g gd/\PySem.W.findIn K (.ref C) m=some (some (.ref g))/\PySem.W.isFn K (.ref g)=true:=by
 obtain⟨g,oc,od,an,sl,kV,dc,pm,cd,ct,T,o,n,a,l,c,t,d,k,i⟩:=H;exact⟨g,_,⟨⟨oc,od,kV,dc,pm,an,cd,ct,sl,T,o,n,rfl,l,c,t,d⟩,k⟩,a,i⟩
structure Top (K:aY)(C Cg C3 T1 T2 T3 CR W fR:Addr)(tm:Tok):Prop where
 xR:A9 K "NoRow" "row" CR W fR
 xW:CL K W
 Zr:xM K CR "__init__" "NoRow.__init__" yE
 kV:PySem.W.kitOne K (.ref CR) (.type "ValueError")=some true
 YN:A_ K CR "NoPattern"
 YM:A_ K CR "NoWord"
 YL:A_ K CR "NoRules"
 YK:A_ K CR "Twice"
 YJ:A_ K CR "Endless"
 YI:A_ K CR "Unmet"
 YH:A_ K CR "Loop"
 YG:A_ K CR "Vast"
 YF:A_ K CR "TooMany"
 Ru:A_ K CR "Clash"
 Rr:A_ K CR "Refused"
 Rq:A_ K CR "NoDeed"
 nB:PySem.W.nsIn K mainGlobals "BeginTable"=some (some (.ref C))
 nG:PySem.W.nsIn K mainGlobals "Grammar"=some (some (.ref Cg))
 nL:PySem.W.nsIn K mainGlobals "LeastTrees"=some (some (.ref C3))
 nM:PySem.W.nsIn K mainGlobals "MOST_RULES"=some (some (.int 60 tm))
 FY:PySem.W.nsIn K mainGlobals "sorted"=some none
 h0:eF K "heads_of" yG
 h1:eF K "numbers_by_name" Dh
 h2:eF K "standings_by_part" JA
 h3:eF K "rule_size" nX
 h4:eF K "empty_by_name" qE
 h5:eF K "words_in" yy
 h6:eF K "found_empties" qF
 h7:eF K "first_places" uZ
 h8:eF K "way_back" Jz
 h9:eF K "steps_with_like_rows" yB
 h10:eF K "find_loop" Di
 h11:eF K "refuse_twice" yA
 h12:eF K "names_met" JB
 h13:eF K "is_part" u0
 tJ:eF K "comes_again" yK
 OB:eF K "read_rules" kN
 WQ:eF K "read_row" l7
 h17:eF K "with_added_rules" yL
 WO:eF K "read_grammar" uY
 h19:eF K "_law_cell_at" Dm
 h20:eF K "_law_stream" uW
 h21:eF K "_law_whole" yz
 h22:eF K "_law_row" yC
 h23:eF K "_law_bad" yI
 Qc:eF K "_law_another" qG
 h25:eF K "_law_refused" kM
 SX:eF K "law" JC
 SE:eF K "settled_sizes" lZ
 SM:eF K "refuse_faults" uX
 hL:Cv K "least_sizes" qD T1
 hG:Cv K "greatest_empty_sizes" u4 T2
 hLB:Cv K "least_by_part" l_ T3
 Zs:xM K C3 "__init__" "LeastTrees.__init__" yF
 Zw:xM K C "__init__" "BeginTable.__init__" yJ
 Zv:xM K C "find_begins" "BeginTable.find_begins" Dl
 Zu:xM K C "words_of_part" "BeginTable.words_of_part" yD
 Zt:LI K Cg "__init__" "Grammar.__init__" u5
 YE:PySem.W.plainGet K C Str.empty=true
 hdB:PySem.W.hasDictIn K C=true
 YA:PySem.W.plainOver K C=true
 Yo:PySem.W.findIn K (.ref C) "__setattr__"=some (some (.builtin "object.__setattr__"))
 Zn:PySem.W.makesIn K C=true
 ZS:PySem.W.keepIn K (.ref C)=true
 YD:PySem.W.plainGet K Cg Str.empty=true
 hdG:PySem.W.hasDictIn K Cg=true
 Yz:PySem.W.plainOver K Cg=true
 Yn:PySem.W.findIn K (.ref Cg) "__setattr__"=some (some (.builtin "object.__setattr__"))
 Zm:PySem.W.makesIn K Cg=true
 ZR:PySem.W.keepIn K (.ref Cg)=true
 YC:PySem.W.plainGet K C3 Str.empty=true
 hdL:PySem.W.hasDictIn K C3=true
 Yy:PySem.W.plainOver K C3=true
 Ym:PySem.W.findIn K (.ref C3) "__setattr__"=some (some (.builtin "object.__setattr__"))
 Zl:PySem.W.makesIn K C3=true
 ZQ:PySem.W.keepIn K (.ref C3)=true
 zR:PySem.W.findIn K (.ref C) "empties"=some none
 Fm:PySem.W.findIn K (.ref C) "empty"=some none
 Cs:PySem.W.findIn K (.ref C) "begins"=some none
 Cr:PySem.W.findIn K (.ref C) "firsts"=some none
 Fh:PySem.W.findIn K (.ref C3) "rules"=some none
 Fj:PySem.W.findIn K (.ref C3) "empty"=some none
 Fi:PySem.W.findIn K (.ref C3) "least"=some none
 Cq:PySem.W.findIn K (.ref C3) "hollow"=some none
 sj:PySem.W.findIn K (.ref C3) "beginnings"=some none
 Fl:PySem.W.findIn K (.ref Cg) "rules"=some none
 vM:PySem.W.findIn K (.ref Cg) "strengths"=some none
 rH:PySem.W.findIn K (.ref Cg) "begin_table"=some none
 vN:PySem.W.findIn K (.ref Cg) "standings"=some none
 rG:PySem.W.findIn K (.ref Cg) "small_trees"=some none
 QG:PySem.W.nsIn K mainGlobals "len"=some none
 I8:PySem.W.nsIn K mainGlobals "range"=some none
 v_:PySem.W.nsIn K mainGlobals "isinstance"=some none
 IZ:PySem.W.nsIn K mainGlobals "tuple"=some none
 Mw:PySem.W.nsIn K mainGlobals "list"=some none
 Mx:PySem.W.nsIn K mainGlobals "dict"=some none
 QN:PySem.W.nsIn K mainGlobals "all"=some none
 QM:PySem.W.nsIn K mainGlobals "any"=some none
 QD:PySem.W.nsIn K mainGlobals "str"=some none
 QL:PySem.W.nsIn K mainGlobals "int"=some none
 My:PySem.W.nsIn K mainGlobals "bool"=some none
 yh:PySem.W.nsIn K mainGlobals "enumerate"=some none
 QC:PySem.W.nsIn K mainGlobals "sum"=some none
 QF:PySem.W.nsIn K mainGlobals "max"=some none
 QE:PySem.W.nsIn K mainGlobals "min"=some none
 Zf:∃t:Tok,PySem.W.nsIn K mainGlobals "MOST_SIGNS"=some (some (.int 14 t))
 Kb:∃a:Addr,PySem.W.nsIn K mainGlobals "MARKS"=some (some (.ref a))/\∀H,bj K H a (BD.map V.str)
 Nu:∃a:Addr,PySem.W.nsIn K mainGlobals "WAYS"=some (some (.ref a))/\∀H,bj K H a (fM.map V.str)
def all_mk {l:PySem.W.OpenLaw}{w:World}{K:aY}{h:Heap}{mg:Str->Option Value}{fa C Cg C3 T1 T2 T3 CR W fR:Addr}{tm:Tok}(X:K.In h)(G:h.Ns mainGlobals mg)(hfa:mg "law"=some (.ref fa))(tp:Top K C Cg C3 T1 T2 T3 CR W fR tm) :
  ∃fd:FuncData,(∀(s:Shared)(v:Value),BindsTo s fd ⟨[v],[]⟩ [("_law_script",v)])/\∀base:Heap,K.In base->base.Ns mainGlobals mg->rN mg base->bA l.prog w K mg base e_ 11 fa fd ["_law_script"] (Al K T1 T2 T3):=by
 have T:Txt mg:=⟨gE X G tp.QG,gE X G tp.I8,gE X G tp.v_,gE X G tp.IZ,gE X G tp.Mw,gE X G tp.Mx,gE X G tp.QN,gE X G tp.QM,gE X G tp.QD,gE X G tp.QL,gE X G tp.My,gE X G tp.yh,gE X G tp.QC,gE X G tp.QF,gE X G tp.QE⟩;obtain⟨_,vj⟩:=tp.Zf;obtain⟨_,AI,Ax⟩:=tp.Kb;obtain⟨_,zh,yR⟩:=tp.Nu;obtain⟨IC,IJ,xP,Ik⟩:=tp.SE.get X G;have IP:=xP.binds (ps:=["rules","sizes","better"]) λ_ _ _ _ _ _=>by exact Jg λ_ _ _=>rfl
 obtain⟨OF,OR,Fz,Nx⟩:=tp.SM.get X G;have OY:=Fz.binds (ps:=["rules","strengths"]) λ_ _ _ _ _ _=>by exact CW λ_ _=>rfl
 obtain⟨f_L,d_L,Vd,Zp⟩:=tp.hL.get X G;have b_L:=Vd.binds (ps:=["rules"]) λ_ _ _ _ _ _=>by exact sG λ_=>rfl
 obtain⟨f_G,d_G,Ve,Zq⟩:=tp.hG.get X G;have b_G:=Ve.binds (ps:=["rules"]) λ_ _ _ _ _ _=>by exact sG λ_=>rfl
 obtain⟨T7,Uw,LK,R0⟩:=tp.hLB.get X G;have UN:=LK.binds (ps:=["rules"]) λ_ _ _ _ _ _=>by exact sG λ_=>rfl
 obtain⟨aah,Uv,Pj,RX⟩:=tp.Zr.get;have UL:=Pj.binds (ps:=["self","row"]) λ_ _ _ _ _ _=>by exact CW λ_ _=>rfl
 have V1:=tp.xR.np tp.xW X G;cases tp.xR.at_ RX;have XO:LG K mg CR W:=⟨tp.YN.o X G,tp.YM.o X G,tp.YL.o X G,tp.YK.o X G,tp.YJ.o X G,tp.YI.o X G,tp.YH.o X G,tp.YG.o X G,tp.YF.o X G,tp.Ru.o X G,tp.Rr.o X G,tp.Rq.o X G,tp.xR.ns X G,tp.xW.mW X G,tp.xW.mV X G,tp.xR.xg tp.xW,tp.kV,tp.xR.na,tp.xR.xm⟩;obtain⟨T_,aar,Pp,Nz⟩:=tp.Zw.get;have UR:=Pp.binds (ps:=["self","rules"]) λ_ _ _ _ _ _=>by exact CW λ_ _=>rfl
 obtain⟨aak,aaq,Po,R5⟩:=tp.Zv.get;have UQ:=Po.binds (ps:=["self","number","rule"]) λ_ _ _ _ _ _=>by exact Jg λ_ _ _=>rfl
 obtain⟨aaj,aap,Pn,R4⟩:=tp.Zu.get;have UP:=Pn.binds (ps:=["self","part"]) λ_ _ _ _ _ _=>by exact CW λ_ _=>rfl
 obtain⟨T8,aan,Pk,Ny⟩:=tp.Zs.get;have UO:=Pk.binds (ps:=["self","rules","begin_table"]) λ_ _ _ _ _ _=>by exact Jg λ_ _ _=>rfl
 obtain⟨T9,aao,Pm,R3,So⟩:=tp.Zt.get;have cB:BC K C:=⟨⟨tp.YE,tp.hdB,tp.YA,tp.Yo⟩,tp.zR,tp.Fm,tp.Cs,tp.Cr⟩;have cG:GC K Cg:=⟨⟨tp.YD,tp.hdG,tp.Yz,tp.Yn⟩,tp.Fl,tp.vM,tp.rH,tp.vN,tp.rG⟩;have cL:LC K C3:=⟨⟨tp.YC,tp.hdL,tp.Yy,tp.Ym⟩,tp.Fh,tp.Fj,tp.Fi,tp.Cq,tp.sj⟩;have kL:Mk K C3 T8:=⟨tp.Zl,Ny.at_,Ny.fn,tp.ZQ⟩;have kB:Mk K C T_:=⟨tp.Zn,Nz.at_,Nz.fn,tp.ZS⟩;have kG:Mk K Cg T9:=⟨tp.Zm,R3,So,tp.ZR⟩;obtain⟨f9,d9,F9,m9⟩:=tp.SX.get X G;have e:=hfa.symm.trans m9;cases e;obtain⟨oc,od,kV,doc,pm,an,dG,ct,vS,eL,lk,rX⟩:=F9.ex;refine⟨d9,λs v=>?_,λbase _ _ Oz=>?_⟩
 .rw [eL];exact .of_eq rfl
 have c0:=tp.h0.c (P:=l.prog) (w:=w) (base:=base) X G (λ_ _ _ _ _ _=>by exact sG λ_=>rfl) λF m B=>DX F T;have c1:=tp.h1.c (P:=l.prog) (w:=w) (base:=base) X G (λ_ _ _ _ _ _=>by exact sG λ_=>rfl) λF m B=>GV F T c0;have c2:=tp.h2.c (P:=l.prog) (w:=w) (base:=base) X G (λ_ _ _ _ _ _=>by exact sG λ_=>rfl) λF m B=>JV F T;have c3:=tp.h3.c (P:=l.prog) (w:=w) (base:=base) X G (λ_ _ _ _ _ _=>by exact CW λ_ _=>rfl) λF m B=>wG F T;have c4:=tp.h4.c (P:=l.prog) (w:=w) (base:=base) X G (λ_ _ _ _ _ _=>by exact CW λ_ _=>rfl) λF m B=>yZ F T;have c5:=tp.h5.c (P:=l.prog) (w:=w) (base:=base) X G (λ_ _ _ _ _ _=>by exact sG λ_=>rfl) λF m B=>DM F T;have c6:=tp.h6.c (P:=l.prog) (w:=w) (base:=base) X G (λ_ _ _ _ _ _=>by exact sG λ_=>rfl) λF m B=>y_ F T;have c7:=tp.h7.c (P:=l.prog) (w:=w) (base:=base) X G (λ_ _ _ _ _ _=>by exact CW λ_ _=>rfl) λF m B=>Bs F T;have c8:=tp.h8.c (P:=l.prog) (w:=w) (base:=base) X G (λ_ _ _ _ _ _=>by exact Jg λ_ _ _=>rfl) λF m B=>JU F T;have c9:=tp.h9.c (P:=l.prog) (w:=w) (base:=base) X G (λ_ _ _ _ _ _=>by exact sG λ_=>rfl) λF m B=>DQ F T c6 c0;have c10:=tp.h10.c (P:=l.prog) (w:=w) (base:=base) X G (λ_ _ _ _ _ _=>by exact sG λ_=>rfl) λF m B=>GX F T c9 c8;have c11:=tp.h11.c (P:=l.prog) (w:=w) (base:=base) X G (λ_ _ _ _ _ _=>by exact sG λ_=>rfl) λF m B=>DO F T;have c12:=tp.h12.c (P:=l.prog) (w:=w) (base:=base) X G (λ_ _ _ _ _ _=>by exact sG λ_=>rfl) λF m B=>JW F T;have E9:=tp.h13.c (P:=l.prog) (w:=w) (base:=base) X G (λ_ _ _ _ _ _=>by exact sG λ_=>rfl) λF m B=>Bt F T (jj X G vj) (jj X G AI) Ax;have Qu:=tp.tJ.c (P:=l.prog) (w:=w) (base:=base) X G (λ_ _ _ _ _ _=>by exact sG λ_=>rfl) λF m B=>Ea F T (jj X G AI) Ax;have OV:=tp.OB.c (P:=l.prog) (w:=w) (base:=base) X G (λ_ _ _ _ _ _=>by exact Jg λ_ _ _=>rfl) λF m B=>ve F T (E9.mono nofun);have c16:=tp.WQ.c (P:=l.prog) (w:=w) (base:=base) X G (λ_ _ _ _ _ _=>by exact Jg λ_ _ _=>rfl) λF m B=>qJ F T (jj X G zh) yR (E9.mono nofun) (Qu.mono nofun) (OV.mono nofun);have c17:=tp.h17.c (P:=l.prog) (w:=w) (base:=base) X G (λ_ _ _ _ _ _=>by exact sG λ_=>rfl) λF m B=>Eb F T (Qu.mono nofun);have c19:=tp.h19.c (P:=l.prog) (w:=w) (base:=base) X G (λ_ _ _ _ _ _=>by exact CW λ_ _=>rfl) λF m B=>G0 F T;have Xr:=tp.h20.c (P:=l.prog) (w:=w) (base:=base) X G (λ_ _ _ _ _ _=>by exact CW λ_ _=>rfl) λF m B=>Bp F T;have c21:=tp.h21.c (P:=l.prog) (w:=w) (base:=base) X G (λ_ _ _ _ _ _=>by exact sG λ_=>rfl) λF m B=>DN F T;have c22:=tp.h22.c (P:=l.prog) (w:=w) (base:=base) X G (λ_ _ _ _ _ _=>by exact CW λ_ _=>rfl) λF m B=>DR F T (Xr.mono nofun);have c23:=tp.h23.c (P:=l.prog) (w:=w) (base:=base) X G (λ_ _ _ _ _ _=>by exact sG λ_=>rfl) λF m B=>D_ F;have c24:=tp.Qc.c (P:=l.prog) (w:=w) (base:=base) X G (λ_ _ _ _ _ _=>by exact sG λ_=>rfl) λF m B=>zc F T XO;have UA:aG l.prog w K mg base 2 "settled_sizes" ["rules","sizes","better"] (gW K xX qN.1 qN.2.1 qN.2.2.1 M11.bl):=⟨IC,IJ,yW xP T,IP,xP.kp,Ik⟩;have UB:aG l.prog w K mg base 2 "settled_sizes" ["rules","sizes","better"] (gW K Il zp.1 zp.2.1 zp.2.2.1 M11.bg):=⟨IC,IJ,yX xP T,IP,xP.kp,Ik⟩;have Xq:aG l.prog w K mg base 3 "least_sizes" ["rules"] (pM K T1):=⟨f_L,d_L,DW Vd T Oz c5 UA,b_L,Vd.kp,Zp⟩;have c_G:aG l.prog w K mg base 3 "greatest_empty_sizes" ["rules"] (uO K T2):=⟨f_G,d_G,DY Ve Oz UB,b_G,Ve.kp,Zq⟩;have OT:aG l.prog w K mg base 4 "refuse_faults" ["rules","strengths"] (qA K T1 T2):=⟨OF,OR,Bq Fz T (jj X G tp.nM) c11 Xq c0 c12 c10 c_G,OY,Fz.kp,Nx⟩;have UD:aG l.prog w K mg base 4 "least_by_part" ["rules"] (nU K T1 T3):=⟨T7,Uw,yY LK T Oz (gE X G tp.FY) (c0.mono nofun) Xq (c1.mono nofun) (c3.mono nofun),UN,LK.kp,R0⟩;have RC:=DT (P:=l.prog) (w:=w) (base:=base) Pn T cB;have RD:=GY Po T cB c7 RC R4 UP;have RE:=D0 Pp T cB c6 c0 RD R5 UQ;have RA:=DV Pk T cB cL UD (c4.mono nofun);have RB:=DZ Pm T cG (OT.mono nofun) (c2.mono nofun) (RE.mono nofun) kB UR (jj X G tp.nB) RA kL UO (jj X G tp.nL);have RZ:Rz l.prog w K mg base CR:=⟨W,_,Uv,V1,DU Pj V1,UL⟩;have UC:=tp.WQ.c (P:=l.prog) (w:=w) (base:=base) X G (λ_ _ _ _ _ _=>by exact Jg λ_ _ _=>rfl) λF m B=>(qJ F T (jj X G zh) yR (E9.mono nofun) (Qu.mono nofun) (OV.mono nofun)).or (wH F T (jj X G zh) yR (E9.mono nofun) (Qu.mono nofun) (OV.mono nofun));obtain⟨aai,aam,LJ,RY⟩:=tp.WO.get X G;have UM:=LJ.binds (ps:=["text"]) λ_ _ _ _ _ _=>by exact sG λ_=>rfl
 have Ni:=Br LJ T RZ UC;have c18:=tp.WO.c (P:=l.prog) (w:=w) (base:=base) X G (λ_ _ _ _ _ _=>by exact sG λ_=>rfl) λF m B=>DS F T (c16.mono nofun) (c17.mono nofun) kG (RB.mono nofun) (EL Pm) (jj X G tp.nG);have c25:=tp.h25.c (P:=l.prog) (w:=w) (base:=base) X G (λ_ _ _ _ _ _=>by exact CW λ_ _=>rfl) λF m B=>vd F T XO (Ni.mono nofun) RY LJ.kp UM (c24.mono nofun) (c21.mono nofun);exact JX F9 T (c19.mono nofun) (Xr.mono nofun) (c22.mono nofun) (c23.mono nofun) (c25.mono nofun) (c18.mono nofun) cG
def walk {l:PySem.W.OpenLaw}{q:Program}{loose:List Str}{XP:(Str->Option Value)->Heap->Prop}{YP:World->Heap->Prop}{d:DefRec}{K:Params->aY}(T1 T2 T3 c1 c2 c3:Addr)(Ii:T1≠T2)(Ih:T1≠T3)(Ig:T2≠T3)(hn:l.most=some 63)(KR:d.params.defaults=[])
  (hY:∀(w:World)(h:Heap),YP w h->(K w.params).In h/\∀T∈[T3,T2,T1],h.get? T=some (PySem.W.tabObj #[]))
  (hK1:∀w:World,(K w.params).lookup T1=none)(hK2:∀w:World,(K w.params).lookup T2=none)(hK3:∀w:World,(K w.params).lookup T3=none)(hC1:∀w:World,PySem.W.codeHdIn (K w.params) c1 T1=true)(hC2:∀w:World,PySem.W.codeHdIn (K w.params) c2 T2=true)(hC3:∀w:World,PySem.W.codeHdIn (K w.params) c3 T3=true)
  (F:∀(w:World)(mg:Str->Option Value)(fa:Addr)(h:Heap),(K w.params).In h->h.Ns mainGlobals mg->mg d.name=some (.ref fa) ->
   ∃fd:FuncData,(∀(s:Shared)(u:Value),BindsTo s fd ⟨[u],[]⟩ [("_law_script",u)])/\∀base:Heap,(K w.params).In base->base.Ns mainGlobals mg->rN mg base->bA l.prog w (K w.params) mg base e_ 11 fa fd ["_law_script"] (Al (K w.params) T1 T2 T3)) :
  PySem.W.WalkO q loose XP YP l.row.toRowW d [] (λf vs=>PySem.call f vs) :=
 L2.CV (n:=63) (k:=11) (x := "_law_script") (CX:=λ_=>e_) (sp:=λw=>Al (K w.params) T1 T2 T3) hn nofun KR ⟨rfl,nofun,nofun⟩ hY (λw T hT=>by
  rcases aT.mp hT with e | hT
  .subst e;exact⟨hK3 w,c3,hC3 w⟩
  rcases aT.mp hT with e | hT
  .subst e;exact⟨hK2 w,c2,hC2 w⟩
  rw [cJ.mp hT];exact⟨hK1 w,c1,hC1 w⟩) F (λ_ H a ns hl _ hT hS=>⟨a,ns,rfl,hS,hl,⟨⟨#[],hT T1 (by simp),by trivial,.inl rfl⟩,⟨#[],hT T2 (by simp),by trivial,.inl rfl⟩,⟨#[],hT T3 (by simp),by trivial,.inl rfl⟩,Ii,Ih,Ig⟩,λ_=>rfl⟩) λ_ _ _ _ _ z=>z
end fg
set_option maxHeartbeats 0
end
namespace HD
open PySem PySem.W L2
def QS (P:Params):fg.Top (K P) 342 484 455 365 370 399 89 31 86 689:=⟨fg.eqX (nofun) (nofun),
 fg.eqW (nofun),
 hM 86 85 HD.m1 (nofun),nofun,
 ⟨51,nofun,nofun⟩,
 ⟨70,nofun,nofun⟩,
 ⟨101,nofun,nofun⟩,
 ⟨120,nofun,nofun⟩,
 ⟨139,nofun,nofun⟩,
 ⟨158,nofun,nofun⟩,
 ⟨177,nofun,nofun⟩,
 ⟨196,nofun,nofun⟩,
 ⟨208,nofun,nofun⟩,
 ⟨225,nofun,nofun⟩,
 ⟨244,nofun,nofun⟩,
 ⟨256,nofun,nofun⟩,nofun,nofun,nofun,nofun,nofun,
 hD 263 262 HD.m2 (nofun),
 hD 273 272 HD.m2 (nofun),
 hD 280 279 HD.m2 (nofun),
 hD 407 406 HD.m7 (nofun),
 hD 412 411 HD.m7 (nofun),
 hD 268 267 HD.m2 (nofun),
 hD 285 284 HD.m3 (nofun),
 hD 292 291 HD.m3 (nofun),
 hD 363 362 HD.m4 (nofun),
 hD 356 355 HD.m4 (nofun),
 hD 351 350 HD.m4 (nofun),
 hD 392 391 HD.m6 (nofun),
 hD 397 396 HD.m6 (nofun),
 hD 512 511 HD.m9 (nofun),
 hD 519 518 HD.m9 (nofun),
 hD 505 504 HD.m9 (nofun),
 hD 500 499 HD.m9 (nofun),
 hD 526 525 HD.m9 (nofun),
 hD 495 494 HD.m9 (nofun),
 hD 540 539 HD.vT (nofun),
 hD 554 553 HD.vT (nofun),
 hD 547 546 HD.vT (nofun),
 hD 561 560 HD.vT (nofun),
 hD 568 567 HD.vT (nofun),
 hD 575 574 HD.vT (nofun),
 hD 582 581 HD.vT (nofun),
 hD 589 588 HD.vT (nofun),
 hD 380 379 HD.m5 (nofun),
 hD 385 384 HD.m6 (nofun),
 hC 368 367 HD.m5 (nofun),
 hC 375 374 HD.m5 (nofun),
 hC 402 401 HD.m7 (nofun),
 hM 424 423 HD.m7 (nofun),
 hM 304 303 HD.m3 (nofun),
 hM 311 310 HD.m3 (nofun),
 hM 318 317 HD.m3 (nofun),
 ⟨474,.type "function",none,none,#[],.none,.none,.str "wright.grammars" 800,.ref 473,.none,467,⟨.type "tuple",none,.seq #[.none] 0,#[]⟩,0,nofun,nofun,nofun,nofun,rfl,nofun,nofun⟩,nofun,nofun,nofun,nofun,nofun,nofun,nofun,nofun,nofun,nofun,nofun,nofun,nofun,nofun,nofun,nofun,nofun,nofun,nofun,nofun,nofun,nofun,nofun,nofun,nofun,nofun,nofun,nofun,nofun,nofun,nofun,nofun,nofun,nofun,nofun,nofun,nofun,nofun,nofun,nofun,nofun,nofun,nofun,nofun,nofun,nofun,nofun,
 ⟨853,nofun⟩,
 ⟨490,nofun,WI #[.str "*" 849,.str "+" 850,.str "?" 851] (nofun) nofun (.cons ⟨_,rfl⟩ (.cons ⟨_,rfl⟩ (.cons ⟨_,rfl⟩ (.nil))))⟩,
 ⟨489,nofun,WI #[.str "left" 845,.str "right" 846,.str "none" 847] (nofun) nofun (.cons ⟨_,rfl⟩ (.cons ⟨_,rfl⟩ (.cons ⟨_,rfl⟩ (.nil))))⟩⟩
end HD
theorem PySem.Challenge.cw_wright_k17_rows_of_grammars_refused_holds : PySem.Challenge.rw_wright_k17_rows_of_grammars_refused.Holds := by
 refine HD.hold ?_ ?hw
 case hw=>w_witness2
 refine fg.walk (l:=PySem.Challenge.rw_wright_k17_rows_of_grammars_refused) (K:=HD.K) 365 370 399 367 374 401 nofun nofun nofun rfl HD.YR (λw h Y=>⟨PySem.W.km_in_of Y,PySem.W.km_tabs_of Y⟩) (λw=>by kernel_rfl) (λw=>by kernel_rfl) (λw=>by kernel_rfl) (λw=>by kernel_rfl) (λw=>by kernel_rfl) (λw=>by kernel_rfl) ?F;intro w mg fa h KX G KJ;exact fg.all_mk KX G KJ (HD.QS w.params)
