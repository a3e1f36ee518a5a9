import PyProof.Rows.All
import Wide.All
import OpenK.AllK
import Wide.FinOn
import Lean
import PyProof.EqAt
import PyProof.EqKinds
import PyProof.TupleCall
import KE.KNestM
import PyProof.IsiH_list
import PyProof.RaisesAny
import KE.KDictOf
import PyProof.CollectWalk
import PyProof.CompFree
import KE.KDictList
import PyProof.NeKinds
import PyProof.ConsumeWalk
import PyProof.StrBlockI
import PyProof.EnumFor
import PyProof.TupleIter
import PyProof.EnumMake
import KE.KLam
import PyProof.DictUpdate
import PyProof.SeqI3
import PyProof.DictWalks
import PyProof.ConsumeS
import PyProof.Rows.CallKwBuiltin
import PyProof.StrCalls2
import PyProof.StrLawsTight
import PyProof.StrLawsChain
import PyProof.Rows.StrItems
import PyProof.AutoListH
import PyProof.StrOps
import PyProof.StrOps2
import PyProof.StrCalls
import PyProof.Rows.StrPins
import PyProof.Rows.StrDouble
import PyProof.Rows.StrJoin2
import PyProof.ZipIter
import PyProof.ListNew
import KE.KRevSl
import PyProof.ListTruth
import PyProof.Rows.StrBool
import KE.KDictLaws
import KE.KSortKey
import PyProof.Draws
import PyProof.EnumIter
import PySem.Challenge.RW_wright_k15_grammars_read
set_option Elab.async false
set_option linter.all false
set_option maxRecDepth 100000
local macro_rules | `(tactic| omega) => `(tactic| first | lia | omega (config := {}))
local macro_rules | `(∅) => `(by omega)
local macro_rules | `(nofun) => `(by first | decide +kernel | kernel_rfl)
def bJ:=@Or.inl
abbrev aY:=PySem.W.Frag
def sj:0<=PySem.sizeLine:=by decide
def CT:1<=PySem.sizeLine:=by decide
def lV:2<=PySem.sizeLine:=by decide
def Q2:3<=PySem.sizeLine:=by decide
def MK:4<=PySem.sizeLine:=by decide
def Ze:5<=PySem.sizeLine:=by decide
def Zd:7<=PySem.sizeLine:=by decide
def av.{u,v}:=@List.length_map.{u,v}
def bx.{u}:=@List.getElem?_eq_some_iff.{u}
def aZ.{u,v}:=@List.getElem?_map.{u,v}
def aQ.{u,v}:=@List.map_append.{u,v}
def bZ:=@PySem.Heap.get?_push_of_some
def b_.{u,v}:=@Option.map_eq_some_iff.{u,v}
def bW.{u}:=@List.length_append.{u}
def cv.{u}:=@List.mem_of_getElem?.{u}
def dw.{u}:=@List.getElem?_eq_getElem.{u}
def cJ.{u}:=@List.mem_cons_of_mem.{u}
def aA:=@PySem.wpAny_bind
def bH.{u}:=@List.mem_singleton.{u}
def bG.{u}:=@List.mem_cons_self.{u}
def aX.{u}:=@List.mem_append.{u}
def aL:=@Nat.le_refl
def bO.{u}:=@List.size_toArray.{u}
def aW.{u}:=@List.mem_cons.{u}
def bV.{u}:=@List.length_cons.{u}
def br.{u,v}:=@List.map_cons.{u,v}
def bc:=@PySem.Heap.lt_size
def bK:=@PySem.Paired.length
def de:=@PySem.Heap.get?_push_size
def cY.{u}:=@List.take_add_one.{u}
def bT:=@Nat.ne_of_lt
def dJ:=@Bool.false_ne_true
def cX.{u}:=@List.length_take.{u}
def cP:=@PySem.PassesOwn.never
def ay.{u}:=@if_neg.{u}
def bj:=@PySem.wpAny_pure
def dF:=@of_decide_eq_true
def az.{u}:=@if_pos.{u}
def fQ:=@PySem.F.plainAttrs_list
def dB.{u}:=@List.take_length.{u}
def gN:=@PySem.F.type_list_append
def gM:=@PySem.F.slot_list_append
def fX.{u}:=@List.mem_append_right.{u}
def cM.{u,v}:=@List.mem_map.{u,v}
def gC.{u}:=@List.mem_of_mem_take.{u}
def fP:=@Nat.lt_of_lt_of_le
def fj.{u}:=@List.length_drop.{u}
def gB:=@PySem.W.mg_none_of
def fh.{u}:=@List.append_nil.{u}
def dI:=@Nat.le_trans
def gA.{u}:=@List.append_assoc.{u}
def dD:=@Nat.zero_le
def fw:=@PySem.boot_len
def fV.{u}:=@List.mem_filter.{u}
def cW:=@PySem.wpAny_mono
def fO:=@decide_eq_true
def ju:=@PySem.F.plainAttrs_str
def gL.{u}:=@List.all_eq_true.{u}
def gy:=@decide_eq_false
def iK.{u,v}:=@List.mem_map_of_mem.{u,v}
def jG.{u}:=@List.length_filter_le.{u}
def jt.{u}:=@beq_eq_false_iff_ne.{u}
def gw.{u}:=@List.sum_cons.{u}
def jF.{u}:=@List.getElem?_of_mem.{u}
def g6.{u}:=@Option.some.inj.{u}
def mh.{u}:=@Option.isSome_iff_exists.{u}
def iJ.{u}:=@List.nodup_append.{u}
def oX.{u}:=@List.getD_eq_getElem?_getD.{u}
def kN:=@PySem.StrLaws.glued_eq_join
def il:=@Bool.eq_iff_iff
def fN:=@PySem.Paired.snoc
def oW:=@PyProof.Rows.boot_tuple
def mf.{u}:=@List.mem_append_left.{u}
def kM.{u}:=@List.filter_append.{u}
def oV.{u}:=@List.take_of_length_le.{u}
def jr.{u}:=@List.nodup_cons.{u}
def jq.{u}:=@List.length_nil.{u}
def oU:=@PySem.wpAny_loadPart'
def oT.{u}:=@List.take_append_drop.{u}
def gZ.{u,v,w}:=@List.map_map.{u,v,w}
def kK:=@Int.toNat_natCast
def kJ:=@Bool.eq_false_iff
def kI:=@PySem.wpAny_pyIter_list
def oS.{u}:=@List.mem_iff_getElem.{u}
def kF:=@Nat.le_add_right
def kC.{u}:=@List.not_mem_nil.{u}
def sO.{u}:=@List.getElem?_append_right.{u}
def me:=@PySem.wpAny_Call_Name_kw
def sN.{u}:=@List.getElem?_append_left.{u}
def p5:=@PySem.F.type_str_join
def pZ:=@PySem.F.slot_str_join
def oR:=@Nat.lt_of_le_of_lt
def md:=@Nat.lt_succ_self
def pY.{u}:=@List.mem_of_mem_drop.{u}
def jo:=@Nat.ne_of_gt
def jm.{u,v}:=@List.map_nil.{u,v}
def v8:=@PyProof.Rows.callWith_type1
def ma.{u}:=@List.sum_append.{u}
def jE:=@PySem.wpAny_holding
def oQ:=@PySem.wpAny_truthy_bool
def kA:=@PySem.W.mg_of
def l_.{u}:=@List.nodup_nil.{u}
def lZ:=@List.mem_range
def v7.{u}:=@List.drop_eq_getElem_cons.{u}
def oP.{u}:=@List.nil_append.{u}
def pX.{u}:=@beq_self_eq_true.{u}
def pW.{u}:=@List.getElem_mem.{u}
def uL:=@PyProof.Rows.boot_isinstance
def nX.{u,v}:=@List.map_singleton.{u,v}
def i5:=@Nat.le_of_lt
def k8:=@Int.emod_nonneg
def jN:=@PySem.Heap.size_push
def qr:=@PySem.StrLaws.join_length_le
def nW.{u,v}:=@Option.isSome_map.{u,v}
def jM:=@Nat.lt_irrefl
def jL.{u,v}:=@List.map_drop.{u,v}
def nV:=@List.length_range
def nU:=@PySem.tupleKind_room_in1
def nS:=@PySem.Calls.spliced_cons
def qp:=@Bool.and_eq_true_iff
def k7:=@PySem.wpAny_passesOwn
def iC:=@PySem.wpAny_field
def nR.{u,v}:=@List.getElem_map.{u,v}
def nQ.{u}:=@List.any_eq_true.{u}
def nP:=@Bool.and_eq_true
def nO:=@PySem.wpAny_pyIter_enum
def qo:=@PySem.mem_of_lookup
def qm.{u}:=@Array.toList_append.{u}
def uK.{u,v}:=@List.length_filterMap_le.{u,v}
def uJ:=@PySem.F.slot_tuple_iterator_next
def ql:=@PySem.codeAny_call_builtin
def qk:=@PySem.Around.under_plainId
def uI.{u}:=@List.length_eq_zero_iff.{u}
def nN.{u}:=@List.find?_cons.{u}
def qj:=@Int.emod_lt_of_pos
def jK:=@PySem.codeAny_mono
def uH:=@PySem.F.slot_list_getattribute
def jJ:=@Nat.le_succ
def jI:=@Int.le_refl
def qi:=@PySem.wpAny_setField_rec
def uG:=@PySem.wpAny_getItem_str_slice
def uF:=@PySem.wpAny_callSpecial?_slot
def nK:=@PySem.codeAny_builtin
def kZ:=@Nat.lt_trans
def uE.{u}:=@List.length_singleton.{u}
def fY.{u}:=@Ne.symm.{u}
def qh.{u,v}:=@List.mem_flatMap.{u,v}
def qg.{u}:=@List.getElem_inj.{u}
def qf.{u}:=@List.filter_cons.{u}
def uD:=@PySem.Calls.callWith_builtin
def qe:=@PySem.wpAny_newObj_type
def nJ.{u,v}:=@List.map_take.{u,v}
def uC:=@PySem.wpAny_pyNext_list_end
def kY.{u,v}:=@Sum.inr.inj.{u,v}
def qd:=@PySem.W.kia_one
def qc.{u,v}:=@Option.map_some.{u,v}
def uB.{u,v}:=@List.map_congr_left.{u,v}
def qb.{u}:=@List.length_set.{u}
def uA:=@PySem.F.slot_enumerate_next
def uz.{u}:=@Array.length_toList.{u}
def uy:=@PySem.wpAny_loadName_local
def nI:=@Nat.zero_add
def ux.{u,v}:=@List.mem_filterMap.{u,v}
def uw:=@PySem.Calls.evalArgs_plain
def nH:=@PySem.plainId_quiet
def jH:=@PySem.wpAny_call
def yd:=@PySem.F.slot_dict_update
def uv:=@Nat.lt_succ_of_lt
def uu.{u}:=@List.take_sublist.{u}
def yc.{u}:=@List.eq_of_mem_replicate.{u}
def yb:=@PySem.wpAny_letOwnedTupleGo_enum
def ya:=@PySem.F.plainAttrs_dict
def qa.{u,v}:=@Prod.mk.injEq.{u,v}
def p_.{u}:=@List.any_cons.{u}
def x_:=@Int.eq_ofNat_of_zero_le
def p8:=@Bool.true_and
def nF:=@PySem.wpAny_typeOf
def ur:=@PySem.wpAny_pyIter_tuple
def p6:=@PySem.wpAny_seqItems
def x9:=@PySem.F.type_str_split
def x8:=@PySem.F.slot_str_split
namespace L2
open PySem PySem.Spec PyProof.Rows
abbrev aN:=Sum Int Str
def qS:aN->Value->Bool
 | .inl k,v=>Value.isInt k v
 | .inr x,v=>Value.isStrOf x v
def SH (w:World):aN->Int
 | .inl k=>hashInt k
 | .inr x=>hashStr w x
def c_:∀{k:aN}{v:Value},qS k v=true->(∃i t,k=Sum.inl i/\v=Value.int i t)\/(∃x t,k=Sum.inr x/\v=Value.str x t)
 | .inl i,v,h=>by
  obtain⟨t,e⟩:=Value.isInt_shape (k:=i) (v:=v) h;exact .inl ⟨i,t,rfl,e⟩
 | .inr x,v,h=>by
  obtain⟨t,e⟩:=Value.isStrOf_shape (x:=x) (v:=v) h;exact .inr ⟨x,t,rfl,e⟩
def B7 (i:Int)(t:Tok):qS (.inl i) (.int i t)=true:=by simp [qS,Value.isInt]
def B6 (x:Str)(t:Tok):qS (.inr x) (.str x t)=true:=by simp [qS,Value.isStrOf]
def KC (a b:Int):decide ((Sum.inl a:aN)=Sum.inl b)=(a == b):=by
 by_cases e:a=b
 .subst e;simp
 have h:¬(Sum.inl a:aN)=Sum.inl b:=λq=>e (Sum.inl.inj q);rw [gy h];exact(jt.mpr e).symm
def Ky (a b:Str):decide ((Sum.inr a:aN)=Sum.inr b)=decide (a=b):=by
 by_cases e:a=b
 .subst e;simp
 have h:¬(Sum.inr a:aN)=Sum.inr b:=λq=>e (kY q);rw [gy h,gy e]
def KA (a:Int)(b:Str):decide ((Sum.inl a:aN)=Sum.inr b)=false:=gy (λq=>nomatch q)
def Kz (a:Str) (b:Int):decide ((Sum.inr a:aN)=Sum.inl b)=false:=gy (λq=>nomatch q)
def a7 (prog:Program)(w:World):PySem.KeyKind prog w aN where
 is:=qS
 hash:=SH w
 inj:=λv a b ha hb=>by
  rcases c_ ha with ⟨i,t,rfl,rfl⟩ | ⟨x,t,rfl,rfl⟩
  .rcases c_ hb with ⟨j,u,rfl,e⟩ | ⟨y,u,rfl,e⟩
   .injection e with e1 _;rw [e1]
   exact nomatch e
  rcases c_ hb with ⟨j,u,rfl,e⟩ | ⟨y,u,rfl,e⟩
  .exact nomatch e
  injection e with e1 _;rw [e1]
 byValue:=λk v h=>by
  rcases c_ h with ⟨i,t,rfl,rfl⟩ | ⟨x,t,rfl,rfl⟩ <;> rfl
 pyHash:=λhv h=>by
  rcases c_ hv with ⟨i,t,rfl,rfl⟩ | ⟨x,t,rfl,rfl⟩
  .exact wpAny_pyHash_int h
  exact wpAny_pyHash_str h
 eqBool:=λhu hv h=>by
  rcases c_ hu with ⟨i,t,rfl,rfl⟩ | ⟨x,t,rfl,rfl⟩
  .rcases c_ hv with ⟨j,u,rfl,rfl⟩ | ⟨y,u,rfl,rfl⟩
   .rw [KC] at h;exact wpAny_eqBool_int h
   rw [KA] at h;exact SeqAt.EqAt.int_str i t y u _ _ _ _ h
  rcases c_ hv with ⟨j,u,rfl,rfl⟩ | ⟨y,u,rfl,rfl⟩
  .rw [Kz] at h;exact SeqAt.EqAt.str_int x t j u _ _ _ _ h
  rw [Ky] at h;exact wpAny_eqBool_str h
 «strs»:=λk x t v h=>by
  rcases c_ h with ⟨i,u,rfl,e⟩ | ⟨y,u,rfl,e⟩
  .exact nomatch e
  injection e with e1 _;subst e1;cases v <;> rfl
def wW (prog:Program)(w:World) (i:Int)(t:Tok):(a7 prog w).is (.inl i) (.int i t)=true:=B7 i t
def wV (prog:Program)(w:World)(x:Str)(t:Tok):(a7 prog w).is (.inr x) (.str x t)=true:=B6 x t
inductive V where
 | d5 | bl (b:Bool) | int (i:Int) | str (x:Str) | z5 (b:Array UInt8) | Li (b:UInt64) | ref (a:Addr) | ty (n:String)
 deriving DecidableEq
def RelV:V->Value->Prop
 | .d5,u=>u=Value.none
 | .bl b,u=>u=Value.bool b
 | .int i,u=>∃t,u=Value.int i t
 | .str x,u=>∃t,u=Value.str x t
 | .z5 b,u=>∃t,u=Value.bytes b t
 | .Li b,u=>∃t,u=Value.float b t
 | .ref a,u=>u=Value.ref a
 | .ty n,u=>u=Value.type n
abbrev aT:List V->List Value->Prop:=Paired RelV
theorem aT.length {xs:List V}{us:List Value}(r:aT xs us):xs.length=us.length:=bK r
theorem aT.get:∀{xs:List V}{us:List Value}{i:Nat}{x:V},aT xs us->xs[i]?=some x->∃u,us[i]?=some u/\RelV x u
 | _,_,_,_,.nil,e=>by simp at e
 | _,_,0,_,.cons r _,e=>by simp at e;subst e;exact⟨_,rfl,r⟩
 | _,_,i+1,x,.cons _ t,e=>by
  obtain⟨u,h1,h2⟩:=aT.get (i:=i) (x:=x) t (by simpa using e);exact⟨u,by simpa using h1,h2⟩
theorem aT.set {x:V}{u:Value}(r:RelV x u):∀{xs:List V}{us:List Value}(i:Nat),aT xs us->aT (xs.set i x) (us.set i u)
 | _,_,_,.nil=>.nil
 | _,_,0,.cons _ t=>.cons r t
 | _,_,i+1,.cons q t=>.cons q (aT.set r i t)
theorem aT.append:∀{xs ys:List V}{us ws:List Value},aT xs us->aT ys ws->aT (xs++ys) (us++ws)
 | _,_,_,_,.nil,s=>s
 | _,_,_,_,.cons r t,s=>.cons r (aT.append t s)
theorem aT.take:∀{xs:List V}{us:List Value}(n:Nat),aT xs us->aT (xs.take n) (us.take n)
 | _,_,0,_=>.nil
 | _,_,_+1,.nil=>.nil
 | _,_,n+1,.cons r t=>.cons r (aT.take n t)
theorem aT.drop:∀{xs:List V}{us:List Value}(n:Nat),aT xs us->aT (xs.drop n) (us.drop n)
 | _,_,0,r=>r
 | _,_,_+1,.nil=>.nil
 | _,_,n+1,.cons _ t=>aT.drop n t
def aT.none_of:∀{xs:List V}{us:List Value}{i:Nat},aT xs us->xs[i]?=none->us[i]?=none:=λ{xs us i} r e=>by
 have h1:=r.length;have h2:xs.length<=i:=List.getElem?_eq_none_iff.mp e;exact List.getElem?_eq_none_iff.mpr ∅
def jk:Option V->Option Value->Prop
 | some v,some u=>RelV v u
 | none,none=>True
 | _,_=>False
def KV {κ:Type}:List (κ×V)->List (κ×Value)->Prop:=Paired λ(p:κ×V)(q:κ×Value)=>p.1=q.1/\RelV p.2 q.2
def kV:aN->V
 | .inl i=>.int i
 | .inr x=>.str x
inductive HO where
 | lst (xs:List V)
 | tup (xs:List V)
 | dK (kvs:List (aN×V)) | dT (kvs:List (List aN×V))
 | set (S:Int->Bool) (n:Nat)
 | ins (C dx:Addr)(fs:List (Str×V))
 | own (x:Addr)
 | xd (fs:List (Str×V))
 | met (f x:Addr)
 | FR (lo hi:Int)
 | jD (o:Obj)(u:HO)
 | rW (ps:Array Value)
 | ext (φ:Heap->Prop)
abbrev Hp:=Addr->Option HO
def upd (H:Hp)(a:Addr)(o:HO):Hp:=λb=>if b=a then some o else H b
def ab {H:Hp}{a:Addr}{o:HO}:upd H a o a=some o:=by unfold upd;rw [az rfl]
def ai {H:Hp}{a b:Addr}{o:HO}(h:b≠a):upd H a o b=H b:=by unfold upd;rw [ay h]
def i8 {H:Hp}{a:Addr}{o u:HO}:upd (upd H a o) a u=upd H a u:=by
 funext b;unfold upd;split <;> rfl
def NC {H:Hp}{a b:Addr}{o u:HO}(h:H a=some o)(h':H b=some u)(d:o≠u):a≠b:=by
 intro e;subst e;rw [h] at h';exact d (g6 h')
def aq {H:Hp}{a b:Addr}{o:HO}(h:H a=some o)(h':H b=none):a≠b:=by
 intro e;subst e;rw [h] at h';cases h'
section
variable (P:Program)(w:World)
def cC (H:Hp)(h:Heap)(a:Addr):HO->Prop
 | .lst xs=>xs.length<=sizeLine/\∃(aJ:List Value) (n:Nat),aT xs aJ/\h.get? a=some { cls:=.type "list",data:=.seq aJ.toArray n }
 | .tup xs=>xs.length<=sizeLine/\∃aJ:List Value,aT xs aJ/\IsTup h a aJ.toArray
 | .dK kvs=>kvs.length<=sizeLine/\(a == sysModules)=false/\∃vs,KV kvs vs/\h.DictOf (a7 P w) a vs
 | .dT kvs=>kvs.length<=sizeLine/\(a == sysModules)=false/\∃xs:List (List aN×Addr×Value),
   Paired (λ(p:List aN×V)(q:List aN×Addr×Value)=>p.1=q.1/\H q.2.1=some (.tup (p.1.map kV))/\RelV p.2 q.2.2) kvs xs /\
   ∃o es ep,h.get? a=some o/\o.ExactDict/\o.data=.dict es ep/\es.toList=xs.map (entryOfKey (tupleKind (a7 P w)))/\(xs.map (·.1)).Nodup
 | .set S n=>h.SetOf (intKind P w) a S n
 | .ins C dx fs=>H dx=some (.own a)/\fs.length<=1000/\dx≠a/\h.get? a=some (PySem.W.instObj C dx) /\
   ∃mA,h.Ns1 dx mA/\(∀f,jk (fs.lookup f) (mA f))/\PySem.Within mA (fs.map (·.1))
 | .own _=>∃o,h.get? a=some o
 | .xd fs=>∃mA,h.Ns1 a mA/\∀f,jk (fs.lookup f) (mA f)
 | .FR lo hi=>∃t u v,h.get? a=some { cls:=.type "range",data:=.fields #[.int lo t,.int hi u,.int 1 v] }
 | .jD o u=>h.get? a=some o/\cC H h a u
 | .rW ps=>h.get? a=some { cls:=.none,data:=.fields ps }
 | .met f x=>h.get? a=some (PySem.W.methodObj (.ref f) (.ref x))
 | .ext φ=>φ h/\(∃o,h.get? a=some o)/\∀h1 h2:Heap,φ h1->(∀o,h1.get? a=some o->h2.get? a=some o)->φ h2
def kX (H:Hp)(h:Heap):Prop:=∀a o,H a=some o->cC P w H h a o
end
section
variable {P:Program}{w:World}{H H':Hp}{h h':Heap}{a:Addr}{o:HO}
theorem cC.lt (x:cC P w H h a o):a < h.objs.size:=by
 cases o with
 | lst xs=>obtain⟨_,_,_,_,e⟩:=x;exact bc e
 | tup xs=>obtain⟨_,_,_,p⟩:=x;exact p.lt
 | dK kvs=>obtain⟨_,_,_,_,o,_,_,e,_⟩:=x;exact bc e
 | dT kvs=>obtain⟨_,_,_,_,o,_,_,e,_⟩:=x;exact bc e
 | set S n=>obtain⟨o,_,_,_,e,_⟩:=x;exact bc e
 | ins C dx fs=>obtain⟨_,_,_,e,_⟩:=x;exact bc e
 | own y=>obtain⟨_,e⟩:=x;exact bc e
 | xd fs=>obtain⟨_,⟨_,_,_,e,_⟩,_⟩:=x;exact bc e
 | FR lo hi=>obtain⟨_,_,_,e⟩:=x;exact bc e
 | jD ob u=>obtain⟨e,_⟩:=x;exact bc e
 | rW ps=>exact bc (show h.get? a=some _ from x)
 | met f y=>exact bc (show h.get? a=some _ from x)
 | ext φ=>obtain⟨_,⟨_,e⟩,_⟩:=x;exact bc e
theorem Paired.gS {α β:Type}{F G:α->β->Prop}:∀{l₁:List α}{l₂:List β},Paired F l₁ l₂->(∀a b,F a b->G a b)->Paired G l₁ l₂
 | _,_,.nil,_=>.nil
 | _,_,.cons r t,f=>.cons (f _ _ r) (Paired.gS t f)
def cC.g7 (x:cC P w H h a o)(k:∀b u,(b=a\/H b=some (.own a))->h.get? b=some u->h'.get? b=some u)
  (ho:∀b,H b=some (.own a)->H' b=some (.own a))(ht:∀b xs,H b=some (.tup xs)->H' b=some (.tup xs)):cC P w H' h' a o:=by
 induction o with
 | lst xs=>obtain⟨z,aJ,n,r,e⟩:=x;exact⟨z,aJ,n,r,k _ _ (.inl rfl) e⟩
 | tup xs=>obtain⟨z,aJ,r,ob,e,c⟩:=x;exact⟨z,aJ,r,ob,k _ _ (.inl rfl) e,c⟩
 | dK kvs=>obtain⟨z,y,vs,r,ob,es,ep,e,c⟩:=x;exact⟨z,y,vs,r,ob,es,ep,k _ _ (.inl rfl) e,c⟩
 | dT kvs =>
  obtain⟨z,y,xs,r,ob,es,ep,e,c⟩:=x;exact⟨z,y,xs,Paired.gS r λp q z=>⟨z.1,ht _ _ z.2.1,z.2.2⟩,ob,es,ep,k _ _ (.inl rfl) e,c⟩
 | set S n=>obtain⟨ob,es,ep,t,e,c⟩:=x;exact⟨ob,es,ep,t,k _ _ (.inl rfl) e,c⟩
 | ins C dx fs =>
  obtain⟨d,z,ne,e,mA,⟨od,es,ep,e2,c⟩,r⟩:=x;exact⟨ho _ d,z,ne,k _ _ (.inl rfl) e,mA,⟨od,es,ep,k _ _ (.inr d) e2,c⟩,r⟩
 | own y=>obtain⟨ob,e⟩:=x;exact⟨ob,k _ _ (.inl rfl) e⟩
 | xd fs=>obtain⟨mA,⟨od,es,ep,e,c⟩,r⟩:=x;exact⟨mA,⟨od,es,ep,k _ _ (.inl rfl) e,c⟩,r⟩
 | FR lo hi=>obtain⟨t,u,v,e⟩:=x;exact⟨t,u,v,k _ _ (.inl rfl) e⟩
 | jD ob u ih=>obtain⟨e,q⟩:=x;exact⟨k _ _ (.inl rfl) e,ih q⟩
 | rW ps =>
  have e:h.get? a=some { cls:=.none,data:=.fields ps }:=x;show h'.get? a=some { cls:=.none,data:=.fields ps };exact k a _ (.inl rfl) e
 | met f y =>
  have e:h.get? a=some (PySem.W.methodObj (.ref f) (.ref y)):=x;show h'.get? a=some (PySem.W.methodObj (.ref f) (.ref y));exact k a _ (.inl rfl) e
 | ext φ=>obtain⟨p,⟨o,e⟩,st⟩:=x;exact⟨st _ _ p λo q=>k _ _ (.inl rfl) q,⟨o,k _ _ (.inl rfl) e⟩,st⟩
theorem kX.lt (x:kX P w H h)(e:H a=some o):a < h.objs.size:=(x a o e).lt
def kX.fresh (x:kX P w H h)(e:h.objs.size<=a):H a=none:=by
 cases q:H a with
 | none=>rfl
 | some u=>exact absurd (fP (x.lt q) e) (jM _)
def kX.kept (x:kX P w H h)(k:∀b u,h.get? b=some u->h'.get? b=some u):kX P w H h':=λa o e =>
 (x a o e).g7 (λb u _ q=>k b u q) (λ_ q=>q) λ_ _ q=>q
def kX.laid (x:kX P w H h)(k:∀b u,h.get? b=some u->h'.get? b=some u)(hp:h.objs.size<=a)(new:cC P w (upd H a o) h' a o):kX P w (upd H a o) h':=λb u e=>by
 have hn:=x.fresh hp;by_cases hb:b=a
 .subst hb;rw [ab] at e;cases e;exact new
 rw [ai hb] at e;exact(x b u e).g7 (λc v _ q=>k c v q) (λc q=>by rw [ai (aq q hn)];exact q) λc xs q=>by rw [ai (aq q hn)];exact q
end
def Rd (H:Hp)(a:Addr)(u:HO):Prop:=H a=some u\/∃o,H a=some (.jD o u)
def Rd.of {H:Hp}{a:Addr}{u:HO}(h:H a=some u):Rd H a u:=.inl h
def Rd.ok {P:Program}{w:World}{H:Hp}{h:Heap}{a:Addr}{u:HO}(r:Rd H a u)(x:kX P w H h):cC P w H h a u:=by
 rcases r with r | ⟨o,r⟩
 .exact x a u r
 obtain⟨_,q⟩:=x a _ r;exact q
def Pr:Option HO->Prop
 | some (.lst _)=>True
 | some (.dK _)=>True
 | some (.dT _)=>True
 | some (.set _ _)=>True
 | some (.ins _ _ _)=>True
 | some (.ext _)=>True
 | _=>False
section
variable {P:Program}{w:World}{H:Hp}{h h':Heap}{x e:Addr}{o':HO}
def kX.write (ok:kX P w H h)(mu:Pr (H x))(he:e=x\/H e=some (.own x))(k:∀b u,b≠e->h.get? b=some u->h'.get? b=some u)(Ma:∃u,h'.get? e=some u)
  (new:cC P w (upd H x o') h' x o'):kX P w (upd H x o') h':=λb u q=>by
 have Ny:∀c y,H c=some (.own y)->c≠x:=λc y r z=>by subst z;rw [r] at mu;exact mu
 have R4:∀c xs,H c=some (.tup xs)->c≠x:=λc xs r z=>by subst z;rw [r] at mu;exact mu
 by_cases hb:b=x
 .subst hb;rw [ab] at q;cases q;exact new
 rw [ai hb] at q;by_cases F2:b=e
 .have q':H b=some (.own x):=by
   rcases he with z | z
   .exact absurd (F2.trans z) hb
   rw [F2];exact z
  rw [q] at q';cases q';obtain⟨v,hv⟩:=Ma;exact⟨v,by rw [F2];exact hv⟩
 refine(ok b u q).g7 (λc v hc r=>k c v ?_ r) (λc r=>by rw [ai (Ny c b r)];exact r) λc xs r=>by rw [ai (R4 c xs r)];exact r
 rcases hc with rfl | hc
 .exact F2
 rintro rfl;rcases he with z | z
 .exact Ny c b hc z
 rw [hc] at z;cases z;exact hb rfl
end
structure Un (fs ex:List Addr)(H H':Hp)(h h':Heap):Prop where
 keep:∀b o,h.get? b=some o->H b=none->b∉fs->b∉ex->h'.get? b=some o
 slot:∀b o,h.get? b=some o->H b=none->b∈fs->b∉ex->∃sl,h'.get? b=some { o with slots:=sl }
 free:∀b o,h.get? b=some o->H b=none->b∉ex->H' b=none
 there:∀b o,h.get? b=some o->b∉ex->∃o',h'.get? b=some o'
 nZ:∀b xs,H b=some (.tup xs)->H' b=some (.tup xs)
 lR:∀b o u,H b=some (.jD o u)->H' b=some (.jD o u)
 mn:∀b ps,H b=some (.rW ps)->∃more,H' b=some (.rW (ps++more))
section
variable {fs F5 ex X3:List Addr}{H H1 H2:Hp}{h h1 h2 h':Heap}{a x e:Addr}{o:HO}
def Un.any (u:Un fs ex H H1 h h1){b:Addr}{ob:Obj}(q:h.get? b=some ob)(n:H b=none)(hx:b∉ex):∃sl,h1.get? b=some { ob with slots:=sl }:=by
 by_cases hb:b∈fs
 .exact u.slot b ob q n hb hx
 exact⟨ob.slots,u.keep b ob q n hb hx⟩
def Un.trans (a:Un fs ex H H1 h h1)(b:Un fs ex H1 H2 h1 h2):Un fs ex H H2 h h2 where
 keep:=λc ob q n hc hx=>b.keep c ob (a.keep c ob q n hc hx) (a.free c ob q n hx) hc hx
 slot:=λc ob q n hc hx=>by
  obtain⟨sl,e1⟩:=a.slot c ob q n hc hx;obtain⟨Rw,e2⟩:=b.slot c _ e1 (a.free c ob q n hx) hc hx;exact⟨Rw,e2⟩
 free:=λc ob q n hx=>by
  obtain⟨o',e1⟩:=a.there c ob q hx;exact b.free c o' e1 (a.free c ob q n hx) hx
 there:=λc ob q hx=>by
  obtain⟨o',e1⟩:=a.there c ob q hx;exact b.there c o' e1 hx
 nZ:=λc xs q=>b.nZ c xs (a.nZ c xs q)
 lR:=λc ob xs q=>b.lR c ob xs (a.lR c ob xs q)
 mn:=λc ps q=>by
  obtain⟨m1,e1⟩:=a.mn c ps q;obtain⟨m2,e2⟩:=b.mn c _ e1;exact⟨m1++m2,by rw [e2,Array.append_assoc]⟩
def Un.kept (k:∀b u,h.get? b=some u->h'.get? b=some u):Un fs ex H H h h' :=
 ⟨λb ob q _ _ _=>k b ob q,λb ob q _ _ _=>⟨ob.slots,k b ob q⟩,λ_ _ _ n _=>n,λb ob q _=>⟨ob,k b ob q⟩,λ_ _ q=>q,λ_ _ _ q=>q,λ_ ps q=>⟨#[],by rw [q];simp⟩⟩
def Un.refl:Un fs ex H H h h:=Un.kept λ_ _ q=>q
def Un.laid (k:∀b u,h.get? b=some u->h'.get? b=some u)(hp:h.objs.size<=a)(hn:H a=none):Un fs ex H (upd H a o) h h' where
 keep:=λb u q _ _ _=>k b u q
 slot:=λb u q _ _ _=>⟨u.slots,k b u q⟩
 free:=λb u q n _=>by rw [ai (bT (fP (bc q) hp))];exact n
 there:=λb u q _=>⟨u,k b u q⟩
 nZ:=λb xs q=>by rw [ai (aq q hn)];exact q
 lR:=λb u xs q=>by rw [ai (aq q hn)];exact q
 mn:=λb ps q=>⟨#[],by rw [ai (aq q hn),q];simp⟩
def Un.write (mu:Pr (H x))(he:e=x\/H e=some (.own x))(k:∀b u,b≠e->h.get? b=some u->h'.get? b=some u)(Ma:∃u,h'.get? e=some u):Un fs ex H (upd H x o) h h':=by
 have hx:∀b,H b=none->b≠x:=λb n z=>by subst z;rw [n] at mu;exact mu
 have hb:∀b,H b=none->b≠e:=λb n z=>by
  subst z;rcases he with r | r
  .exact hx b n r
  rw [n] at r;cases r
 have hm:∀b u,H b=some u->¬Pr (some u)->b≠x:=λb u q nm z=>by subst z;rw [q] at mu;exact nm mu
 refine⟨λb u q n _ _=>k b u (hb b n) q,λb u q n _ _=>⟨u.slots,k b u (hb b n) q⟩,λb u q n _=>by rw [ai (hx b n)];exact n,λb u q _=>?_,
  λb xs q=>by rw [ai (hm b _ q λz=>z)];exact q,λb u xs q=>by rw [ai (hm b _ q λz=>z)];exact q,λb ps q=>⟨#[],by rw [ai (hm b _ q λz=>z),q];simp⟩⟩
 by_cases F2:b=e
 .subst F2;exact Ma
 exact⟨u,k b u F2 q⟩
def Un.mono (u:Un fs ex H H1 h h1)(hs:∀b∈fs,b∈F5)(hx:∀b∈ex,b∈X3):Un F5 X3 H H1 h h1 :=
 ⟨λb ob q n hb he=>u.keep b ob q n (λz=>hb (hs b z)) λz=>he (hx b z),λ_ _ q n _ he=>u.any q n λz=>he (hx _ z),λb ob q n he=>u.free b ob q n λz=>he (hx b z),λb ob q he=>u.there b ob q λz=>he (hx b z),u.nZ,u.lR,u.mn⟩
end
def FK (h:Heap)(H:Hp):List Addr:=(List.range h.objs.size).filter λa=>(H a).isSome
def lP (h:Heap)(H:Hp):Heap:=PySem.W.hideAll h (FK h H)
def tT (h:Heap)(H:Hp):(lP h H).objs.size=h.objs.size:=PySem.W.hideAll_size _ _
def w_ {h:Heap}{H:Hp}{b:Addr}{o:Obj}(e:h.get? b=some o)(n:H b=none):(lP h H).get? b=some o :=
 PySem.W.hideAll_get _ e λhm=>by
  have q:(H b).isSome=true:=(fV.mp hm).2;rw [n] at q;simp at q
def AO {h:Heap}{H:Hp}{b:Addr}{o:Obj}(e:(lP h H).get? b=some o):h.get? b=some o/\H b=none:=by
 have e':h.get? b=some o:=PySem.W.of_hideAll (FK h H) e;refine⟨e',?_⟩;cases q:H b with
 | none=>rfl
 | some x =>
  have hm:b∈FK h H:=fV.mpr ⟨lZ.mpr (bc e'),by simp [q]⟩;have z:(lP h H).get? b=none:=PySem.W.hideAll_none (FK h H) hm;rw [z] at e;cases e
def HW (g h:Heap)(L:Addr):List (Addr×Obj):=(List.range h.objs.size).filterMap λa=>if a=L\/(g.get? a).isSome=true then none else (h.get? a).map λo=>(a,o)
def rest (g h:Heap)(L d:Addr):List (Addr×Obj):=(HW g h L).filter λp=>decide (p.1≠d)
structure Mod (K:aY)(mg:Str->Option Value)(base:Heap):Prop where
 NV:K.In base
 glob:base.Ns mainGlobals mg
 blt:∃mb,base.Ns builtinsNs mb/\∀x:Str,x ≠ "__name__" -> mb x=bootBuiltins x
 nolimit:base.NoLimit
structure Cx where
 prog:Program
 w:World
 K:aY
 mg:Str->Option Value
 base:Heap
 A:Around
 N:List Str
 s₀:Shared
 H₀:Hp
 env:Env
 outer:List Env
 stack:List Env
 ex:List Addr
 fn:Str->Bool
 calm:Bool
 pn:List (Addr×Obj)
 xe:Value->Shared->Prop
def Ce (l:List Env):List Addr:=l.filterMap (·.frame)
abbrev Cx.fs (X:Cx):List Addr:=Ce X.outer
def QR (sc:Scope)(x:Str):Prop:=sc.names.lookup x=some .local\/sc.names.lookup x=some .cell\/sc.names.lookup x=some .free
def Loc (sc:Scope)(x:Str):Prop:=sc.names.lookup x=some .local\/sc.names.lookup x=some .cell
def Look (env:Env)(h:Heap)(m:Str->Option Value)(x:Str)(u:Value):Prop :=
 (env.kindOf x=some .local/\m x=some u)\/((env.kindOf x=some .cell\/env.kindOf x=some .free)/\∃c,env.cells.lookup x=some c/\h.IsCell c (some u))
structure Cx.Ok (X:Cx):Prop where
 mod:Mod X.K X.mg X.base
 kind:X.env.scope.kind=.function
 glob:X.env.globals=mainGlobals
 blt:X.env.builtins=builtinsNs
 above:X.s₀.heap.objs.size<=X.env.locals
 inj:∀x y c,X.env.cells.lookup x=some c->X.env.cells.lookup y=some c->x=y
 has:∀x,(X.env.kindOf x=some .cell\/X.env.kindOf x=some .free)->∃c,X.env.cells.lookup x=some c
 O9:∀x c,X.fn x=true->X.env.cells.lookup x=some c->X.s₀.heap.objs.size<=c
 hd:X.calm=true->X.A.handled=none
 frames:X.A.frames=some X.stack
 PM:X.stack=X.outer\/(X.stack=X.env::X.outer/\X.env.frame=some X.env.locals)
 Mo:∀b∈X.ex,b≠X.env.locals/\∀x c,X.env.cells.lookup x=some c->c≠b
 bs:∀b o,X.base.get? b=some o->X.s₀.heap.get? b=some o/\X.H₀ b=none
 F8:X.base.objs.size<=X.s₀.heap.objs.size
 Ep:∀b o,X.base.get? b=some o->b∉X.ex
 Ck:∀b∈X.ex,b∉X.fs
 oz:X.s₀.heap.FunFrames X.base X.outer
 I9:∀b∈X.fs,X.H₀ b=none
structure Inv (X:Cx)(ah:List (Addr×Obj))(σ:List (Option V))(H:Hp)(s:Shared):Prop where
 ok:X.Ok
 os:s.os=X.s₀.os
 bare:AllBare s.gens
 base:Un X.fs X.ex X.H₀ H X.s₀.heap s.heap
 loc:∃m,s.heap.Ns X.env.locals m/\∀(i:Nat)(x:Str)(v:V),X.N[i]?=some x->σ[i]?=some (some v)->QR X.env.scope x->∃u,RelV v u/\Look X.env s.heap m x u
 cell:∀x c,X.env.cells.lookup x=some c->∃v,s.heap.IsCell c v
 free:H X.env.locals=none
 kQ:∀x c,X.env.cells.lookup x=some c->H c=none
 pin:∀p∈X.pn++ah,s.heap.get? p.1=some p.2/\H p.1=none/\p.1≠X.env.locals/\p.1∉X.fs/\∀v,p.2.data≠.cell v
 bU:kX X.prog X.w H s.heap
 len:σ.length=X.N.length
section
variable {X:Cx}{ah:List (Addr×Obj)}{σ:List (Option V)}{H H':Hp}{s:Shared}{h':Heap}
def Cx.Ok.R7 (ok:X.Ok){b:Addr}{o:Obj}(e:X.base.get? b=some o):b∉X.fs:=λhb=>by
 have:=(ok.oz.mem hb).1;rw [e] at this;cases this
theorem Inv.bs (I:Inv X ah σ H s):∀b o,X.base.get? b=some o->s.heap.get? b=some o/\H b=none:=λb o e =>
 ⟨I.base.keep b o (I.ok.bs b o e).1 (I.ok.bs b o e).2 (I.ok.R7 e) (I.ok.Ep b o e),I.base.free b o (I.ok.bs b o e).1 (I.ok.bs b o e).2 (I.ok.Ep b o e)⟩
def Inv.bk (I:Inv X ah σ H s):∀b o,X.base.get? b=some o->s.heap.get? b=some o:=λb o e=>(I.bs b o e).1
theorem Inv.mod (I:Inv X ah σ H s):Mod X.K X.mg X.base:=I.ok.mod
def Inv.sC (I:Inv X ah σ H s):X.K.In s.heap:=I.ok.mod.NV.keeps I.bk
theorem Inv.nolimit (I:Inv X ah σ H s):s.heap.NoLimit:=I.ok.mod.nolimit.keeps I.bk
def Inv.fr (I:Inv X ah σ H s):∃m,Fr X.base X.env.locals s.heap m :=
 let ⟨m,hn,_⟩:=I.loc
 ⟨m,hn,I.bk,dI I.ok.F8 I.ok.above⟩
theorem Inv.lt (I:Inv X ah σ H s):X.env.locals < s.heap.objs.size:=let ⟨_,hn,_⟩:=I.loc;hn.lt
def Inv.sz (I:Inv X ah σ H s):X.s₀.heap.objs.size<=s.heap.objs.size:=dI I.ok.above (i5 I.lt)
def Inv.R6 (I:Inv X ah σ H s){a:Addr}(h:s.heap.objs.size<=a):a∉X.fs:=λhb=>by
 obtain⟨_,o,ho,_⟩:=I.ok.oz.mem hb;exact absurd (fP (bc ho) (dI I.sz h)) (jM _)
def Inv.Lx (I:Inv X ah σ H s):∀x c,X.env.cells.lookup x=some c->c≠X.env.locals:=λx c e z=>by
 obtain⟨v,o,ho,hd⟩:=I.cell x c e;obtain⟨m,⟨o',es,ep,HB,Ca,_⟩,_⟩:=I.loc;rw [z,HB] at ho;cases ho;rw [Ca] at hd;cases hd
theorem Inv.oz (I:Inv X ah σ H s):s.heap.FunFrames X.base X.outer:=by
 have all:∀(l:List Env),(∀b∈Ce l,b∈X.fs)->X.s₀.heap.FunFrames X.base l->s.heap.FunFrames X.base l:=by
  intro l
  induction l with
  | nil=>intro _ _;trivial
  | cons env r ih =>
   intro hs hl;obtain⟨hk,⟨L,o,hf,hn,ho,hd⟩,hr⟩:=hl;have hL:L∈X.fs:=hs L (by unfold Ce;rw [List.filterMap_cons,hf];exact bG);obtain⟨sl,e⟩:=I.base.slot L o ho (I.ok.I9 L hL) hL λz=>I.ok.Ck L z hL;exact⟨hk,⟨L,_,hf,hn,e,hd⟩,ih (λb hb=>hs b (by unfold Ce;rw [List.filterMap_cons,hf];exact cJ _ hb)) hr⟩
 exact all X.outer (λ_ hb=>hb) I.ok.oz
theorem Inv.stack (I:Inv X ah σ H s):s.heap.FunFrames X.base X.stack:=by
 rcases I.ok.PM with e | ⟨e,hf⟩
 .rw [e];exact I.oz
 rw [e];obtain⟨m,hn,_⟩:=I.loc;refine .cons (by rw [I.ok.kind];decide) hf hn ?_ I.oz;exact Heap.get?_none_of_le (dI I.ok.F8 I.ok.above)
def Inv.yo (I:Inv X ah σ H s):∀b∈Ce X.stack,b∈X.env.locals::X.fs:=λb hb=>by
 rcases I.ok.PM with e | ⟨e,hf⟩
 .rw [e] at hb;exact cJ _ hb
 rw [e] at hb;unfold Ce at hb;rw [List.filterMap_cons,hf] at hb;exact hb
def Inv.Al (I:Inv X ah σ H s):∀b∈Ce X.stack,H b=none:=λb hb=>by
 rcases aW.mp (I.yo b hb) with e | hb
 .rw [e];exact I.free
 obtain⟨_,o,ho,_⟩:=I.ok.oz.mem hb;exact I.base.free b o ho (I.ok.I9 b hb) λz=>I.ok.Ck b z hb
def Inv.step {g':Array GenState}{t':Nat}{d':Drawn}{ch:List Addr}(I:Inv X ah σ H s)
  (F1:∀b∈ch,(b∈X.ex\/X.s₀.heap.objs.size<=b)/\b≠X.env.locals/\(∀x c,X.env.cells.lookup x=some c->c≠b)/\∀p∈X.pn++ah,p.1≠b)
  (keep:∀b o,b≠X.env.locals->b∉X.fs->b∉ch->s.heap.get? b=some o->H b=none->h'.get? b=some o)
  (slot:∀b o,b≠X.env.locals->b∈X.fs->b∉ch->s.heap.get? b=some o->H b=none->∃sl,h'.get? b=some { o with slots:=sl })(free:∀b o,b∉ch->s.heap.get? b=some o->H b=none->H' b=none)
  (there:∀b o,b∉ch->s.heap.get? b=some o->∃o',h'.get? b=some o')
  (nZ:∀b xs,H b=some (.tup xs)->H' b=some (.tup xs))(lR:∀b o u,H b=some (.jD o u)->H' b=some (.jD o u))(mn:∀b ps,H b=some (.rW ps)->∃more,H' b=some (.rW (ps++more)))
  (ns:∀m,s.heap.Ns X.env.locals m->h'.Ns X.env.locals m)(bU:kX X.prog X.w H' h')(hg:AllBare g') :
  Inv X ah σ H' { s with heap:=h',gens:=g',drawn:=d',toks:=t' }:=by
 have Wt:∀b o,X.s₀.heap.get? b=some o->b≠X.env.locals:=λb o e=>bT (fP (bc e) I.ok.above);have LP:∀b o,X.s₀.heap.get? b=some o->b∉X.ex->b∉ch:=λb o e hx hb=>by
  rcases (F1 b hb).1 with z | z
  .exact hx z
  exact absurd (fP (bc e) z) (jM _)
 have cellK:∀x c,X.env.cells.lookup x=some c->∀v,s.heap.IsCell c v->h'.IsCell c v:=λx c e v ⟨o,ho,hd⟩=>by
  have ND:c∉ch:=λz=>(F1 c z).2.2.1 x c e rfl;by_cases hc:c∈X.fs
  .obtain⟨sl,q⟩:=slot c o (I.Lx x c e) hc ND ho (I.kQ x c e);exact⟨_,q,hd⟩
  exact⟨o,keep c o (I.Lx x c e) hc ND ho (I.kQ x c e),hd⟩
 refine⟨I.ok,I.os,hg,⟨λb o e n hb hx=>?_,λb o e n hb hx=>?_,λb o e n hx=>?_,λb o e hx=>?_,λb xs e=>nZ b xs (I.base.nZ b xs e),λb o xs e=>lR b o xs (I.base.lR b o xs e),λb ps e=>?_⟩,?_,λx c e=>?_,?_,λx c e=>?_,λp hp=>?_,bU,I.len⟩
 .exact keep b o (Wt b o e) hb (LP b o e hx) (I.base.keep b o e n hb hx) (I.base.free b o e n hx)
 .obtain⟨sl,e1⟩:=I.base.slot b o e n hb hx;obtain⟨Rw,e2⟩:=slot b _ (Wt b o e) hb (LP b o e hx) e1 (I.base.free b o e n hx);exact⟨Rw,e2⟩
 .obtain⟨o',e1⟩:=I.base.there b o e hx;exact free b o' (LP b o e hx) e1 (I.base.free b o e n hx)
 .obtain⟨o',e1⟩:=I.base.there b o e hx;exact there b o' (LP b o e hx) e1
 .obtain⟨m1,e1⟩:=I.base.mn b ps e;obtain⟨m2,e2⟩:=mn b _ e1;exact⟨m1++m2,by rw [e2,Array.append_assoc]⟩
 .obtain⟨m,hn,hl⟩:=I.loc;refine⟨m,ns m hn,λi x v e1 e2 e3=>?_⟩;obtain⟨u,r,l⟩:=hl i x v e1 e2 e3;refine⟨u,r,?_⟩;rcases l with l | ⟨k,c,e,z⟩
  .exact .inl l
  exact .inr ⟨k,c,e,cellK x c e _ z⟩
 .obtain⟨v,z⟩:=I.cell x c e;exact⟨v,cellK x c e v z⟩
 .obtain⟨m,⟨o,_,_,ho,_⟩,_⟩:=I.loc;exact free _ o (λz=>(F1 _ z).2.1 rfl) ho I.free
 .obtain⟨v,o,ho,hd⟩:=I.cell x c e;exact free c o (λz=>(F1 c z).2.2.1 x c e rfl) ho (I.kQ x c e)
 obtain⟨e,n,ne,nf,d⟩:=I.pin p hp;have ND:p.1∉ch:=λz=>(F1 p.1 z).2.2.2 p hp rfl;exact⟨keep p.1 p.2 ne nf ND e n,free p.1 p.2 ND e n,ne,nf,d⟩
def Inv.un {t':Nat}(I:Inv X ah σ H s)(u:Un X.fs [] H H' s.heap h')(bU:kX X.prog X.w H' h'):Inv X ah σ H' { s with heap:=h',toks:=t' }:=by
 obtain⟨m,⟨o,es,ep,ho,r⟩,_⟩:=id I.loc;obtain⟨sl,hL⟩:=u.any ho I.free (by simp);exact I.step (g':=s.gens) (d':=s.drawn) (ch:=[]) (λ_ z=>nomatch z) (λb o _ hb _ e n=>u.keep b o e n hb (by simp)) (λb o _ hb _ e n=>u.slot b o e n hb (by simp)) (λb o _ e n=>u.free b o e n (by simp)) (λb o _ e=>u.there b o e (by simp)) u.nZ u.lR u.mn (λm' hm=>by
  obtain⟨o',UH,UM,HB,r'⟩:=hm;rw [ho] at HB;cases HB;exact⟨_,UH,UM,hL,r'⟩) bU I.bare
def Inv.call {g':Array GenState}{t':Nat}{d':Drawn}{ch:List Addr}(I:Inv X ah σ H s)(u:Un (Ce X.stack) ch H H' s.heap h')(bU:kX X.prog X.w H' h')(hg:AllBare g')
  (F1:∀b∈ch,(b∈X.ex\/X.s₀.heap.objs.size<=b)/\b≠X.env.locals/\(∀x c,X.env.cells.lookup x=some c->c≠b)/\∀p∈X.pn++ah,p.1≠b) :
  Inv X ah σ H' { s with heap:=h',gens:=g',drawn:=d',toks:=t' }:=by
 obtain⟨m,⟨o,es,ep,ho,r⟩,_⟩:=id I.loc;obtain⟨sl,hL⟩:=u.any ho I.free λz=>(F1 _ z).2.1 rfl;exact I.step (ch:=ch) F1 (λb o hL hb hc e n=>u.keep b o e n (λz=>(aW.mp (I.yo b z)).elim hL hb) hc) (λb o _ _ hc e n=>u.any e n hc) (λb o hc e n=>u.free b o e n hc) (λb o hc e=>u.there b o e hc) u.nZ u.lR u.mn (λm' hm=>by
  obtain⟨o',UH,UM,HB,r'⟩:=hm;rw [ho] at HB;cases HB;exact⟨_,UH,UM,hL,r'⟩) bU hg
def Inv.turned {t':Nat}{it:Addr}(I:Inv X ah σ H s)(k:∀b o,b≠it->s.heap.get? b=some o->h'.get? b=some o)(hn:H it=none)(hL:it≠X.env.locals)
  (h1:it∈X.ex\/X.s₀.heap.objs.size<=it)(h2:∀x c,X.env.cells.lookup x=some c->c≠it)(h3:∀p∈X.pn++ah,p.1≠it):Inv X ah σ H { s with heap:=h',toks:=t' }:=by
 have Ws:∀b u,H b=some u->b≠it:=λb u e z=>by rw [z,hn] at e;cases e
 refine I.step (g':=s.gens) (d':=s.drawn) (ch:=[it]) (λb hb=>?_) (λb o _ _ hc e _=>k b o (λz=>hc (by simp [z])) e) (λb o _ _ hc e _=>⟨o.slots,k b o (λz=>hc (by simp [z])) e⟩) (λ_ _ _ _ n=>n)
  (λb o hc e=>⟨o,k b o (λz=>hc (by simp [z])) e⟩) (λ_ _ e=>e) (λ_ _ _ e=>e) (λb ps e=>⟨#[],by rw [e];simp⟩) (λm hm=>?_) (λb u e=>?_) I.bare
 .have e:b=it:=by simpa using hb
  subst e;exact⟨h1,hL,h2,h3⟩
 .obtain⟨o,es,ep,ho,r⟩:=hm;exact⟨o,es,ep,k _ o (fY hL) ho,r⟩
 refine(I.bU b u e).g7 (λc v hc q=>k c v ?_ q) (λ_ q=>q) λ_ _ q=>q;rcases hc with z | z
 .rw [z];exact Ws b u e
 exact Ws c _ z
def Inv.tok (I:Inv X ah σ H s) (t:Nat):Inv X ah σ H { s with toks:=t }:=I.un (h':=s.heap) (t':=t) Un.refl I.bU
theorem Inv.kept {t':Nat}(I:Inv X ah σ H s)(k:∀b u,s.heap.get? b=some u->h'.get? b=some u):Inv X ah σ H { s with heap:=h',toks:=t' }:=I.un (Un.kept k) (I.bU.kept k)
theorem Inv.laid {a:Addr}{o:HO}{t':Nat}(I:Inv X ah σ H s)(k:∀b u,s.heap.get? b=some u->h'.get? b=some u)(hp:s.heap.objs.size<=a)(new:cC X.prog X.w (upd H a o) h' a o) :
  Inv X ah σ (upd H a o) { s with heap:=h',toks:=t' }:=I.un (Un.laid k hp (I.bU.fresh hp)) (I.bU.laid k hp new)
theorem Inv.write {x e:Addr}{o:HO}{t':Nat}(I:Inv X ah σ H s)(mu:Pr (H x))(he:e=x\/H e=some (.own x))(k:∀b u,b≠e->s.heap.get? b=some u->h'.get? b=some u)(Ma:∃u,h'.get? e=some u)
  (new:cC X.prog X.w (upd H x o) h' x o):Inv X ah σ (upd H x o) { s with heap:=h',toks:=t' }:=I.un (Un.write mu he k Ma) (I.bU.write mu he k Ma new)
def Inv.AJ {jx:List (Addr×Obj)}(I:Inv X ah σ H s)(h:∀p∈jx,s.heap.get? p.1=some p.2/\H p.1=none/\p.1≠X.env.locals/\p.1∉X.fs/\∀v,p.2.data≠.cell v):Inv X jx σ H s :=
 ⟨I.ok,I.os,I.bare,I.base,I.loc,I.cell,I.free,I.kQ,λp hp=>(aX.mp hp).elim (λz=>I.pin p (mf _ z)) (h p),I.bU,I.len⟩
def wO {N:List Str}(hN:N.Nodup){i j:Nat}{x:Str}(a:N[i]?=some x)(b:N[j]?=some x):i=j:=by
 obtain⟨h1,e1⟩:=bx.mp a;obtain⟨h2,e2⟩:=bx.mp b;exact(qg hN).mp (e1.trans e2.symm)
def sV {M:Model}{A:Around}{E:Value->Shared->Prop}{i:Nat}{x:Str}{v:V}{u:Value}{Q:Unit->Shared->Prop}(I:Inv X ah σ H s)(hN:X.N.Nodup)(hi:X.N[i]?=some x)(hx:Loc X.env.scope x)(r:RelV v u)
  (h:∀s',Inv X ah (σ.set i (some v)) H s'->(∃a,Heap.SameBut a s.heap s'.heap/\(a=X.env.locals\/X.env.cells.lookup x=some a))->Q () s')(hf:X.fn x=true\/X.env.scope.names.lookup x=some .local:=by first | exact .inl rfl | exact .inr rfl | assumption):wpAny M A (storeName X.env x u) Q E s:=by
 obtain⟨m,hn,hl⟩:=id I.loc;have Uc:(X.env.scope.kind == .class || (X.env.scope.kind == .module && X.env.locals != X.env.globals))=false:=by rw [I.ok.kind];rfl
 have Xh:i < σ.length:=by rw [I.len];exact(bx.mp hi).1
 have Lx:=I.Lx;have tracked:∀{a:Addr}{h':Heap},(∃o,s.heap.get? a=some o/\H a=none)->Heap.SameBut a s.heap h'->kX X.prog X.w H h':=λ{a h'} ha hs b ob e=>by
  obtain⟨_,_,mW⟩:=ha;refine(I.bU b ob e).g7 (λc w' hc q=>(hs.2 c ?_).trans q) (λ_ q=>q) λ_ _ q=>q;rintro rfl;rcases hc with rfl | hc
  .rw [mW] at e;cases e
  rw [mW] at hc;cases hc
 rcases hx with hk | hk
 .refine wpAny_storeName_local hk hn (λh' IV hs=>?_) Uc;obtain⟨oL,_,_,hoL,_⟩:=id hn;refine h _ ⟨I.ok,I.os,I.bare,⟨λb o e n hb hx=>?_,λb o e n hb hx=>?_,I.base.free,λb o e hx=>?_,I.base.nZ,I.base.lR,I.base.mn⟩,⟨_,IV,λj y v' e1 e2 e3=>?_⟩,λy c e=>?_,I.free,I.kQ,λp hp=>?_,tracked ⟨oL,hoL,I.free⟩ hs,by simpa using I.len⟩ ⟨_,hs,.inl rfl⟩
  .exact(hs.2 b (bT (fP (bc e) I.ok.above))).trans (I.base.keep b o e n hb hx)
  .obtain⟨sl,e1⟩:=I.base.slot b o e n hb hx;exact⟨sl,(hs.2 b (bT (fP (bc e) I.ok.above))).trans e1⟩
  .obtain⟨o',e1⟩:=I.base.there b o e hx;exact⟨o',(hs.2 b (bT (fP (bc e) I.ok.above))).trans e1⟩
  .by_cases hj:j=i
   .subst hj;rw [hi] at e1;cases e1;rw [List.getElem?_set_self Xh] at e2;cases e2;exact⟨u,r,.inl ⟨hk,by simp⟩⟩
   rw [List.getElem?_set_ne (fY hj)] at e2;obtain⟨u',r',q⟩:=hl j y v' e1 e2 e3;refine⟨u',r',?_⟩;rcases q with ⟨k,e⟩ | ⟨k,c,e,z⟩
   .refine .inl ⟨k,?_⟩;have:y≠x:=λe=>hj (wO hN e1 (e ▸ hi));simp [this,e]
   exact .inr ⟨k,c,e,z.sameBut hs (Lx y c e)⟩
  .obtain⟨w',z⟩:=I.cell y c e;exact⟨w',z.sameBut hs (Lx y c e)⟩
  obtain⟨e,n,ne,nf,d⟩:=I.pin p hp;exact⟨(hs.2 p.1 ne).trans e,n,ne,nf,d⟩
 have T4:X.fn x=true:=by
  rcases hf with z | z
  .exact z
  rw [z] at hk;cases hk
 obtain⟨c,hc⟩:=I.ok.has x (.inl hk);obtain⟨w',z⟩:=I.cell x c hc;refine wpAny_storeName_cell I.ok.kind hk hc z (λh' iz hs=>?_);obtain⟨oc,xT,Tz⟩:=id z;refine h { s with heap:=h' } ⟨I.ok,I.os,I.bare,⟨λb o e n hb hx=>?_,λb o e n hb hx=>?_,I.base.free,λb o e hx=>?_,I.base.nZ,I.base.lR,I.base.mn⟩,⟨m,hn.sameBut hs (fY (Lx x c hc)),λj y v' e1 e2 e3=>?_⟩,λy c' e=>?_,I.free,I.kQ,λp hp=>?_,tracked ⟨oc,xT,I.kQ x c hc⟩ hs,by simpa using I.len⟩ ⟨c,hs,.inr hc⟩
 .exact(hs.2 b (bT (fP (bc e) (I.ok.O9 x c T4 hc)))).trans (I.base.keep b o e n hb hx)
 .obtain⟨sl,e1⟩:=I.base.slot b o e n hb hx;exact⟨sl,(hs.2 b (bT (fP (bc e) (I.ok.O9 x c T4 hc)))).trans e1⟩
 .obtain⟨o',e1⟩:=I.base.there b o e hx;exact⟨o',(hs.2 b (bT (fP (bc e) (I.ok.O9 x c T4 hc)))).trans e1⟩
 .by_cases hj:j=i
  .subst hj;rw [hi] at e1;cases e1;rw [List.getElem?_set_self Xh] at e2;cases e2;exact⟨u,r,.inr ⟨.inl hk,c,hc,iz⟩⟩
  rw [List.getElem?_set_ne (fY hj)] at e2;obtain⟨u',r',q⟩:=hl j y v' e1 e2 e3;refine⟨u',r',?_⟩;rcases q with q | ⟨k,c',e,z'⟩
  .exact .inl q
  refine .inr ⟨k,c',e,z'.sameBut hs ?_⟩;rintro rfl;exact hj (wO hN e1 (I.ok.inj _ _ _ e hc ▸ hi))
 .by_cases HH:c'=c
  .subst HH;exact⟨_,iz⟩
  obtain⟨w2,z2⟩:=I.cell y c' e;exact⟨w2,z2.sameBut hs HH⟩
 obtain⟨e,n,ne,nf,d⟩:=I.pin p hp;refine⟨(hs.2 p.1 ?_).trans e,n,ne,nf,d⟩;intro q;rw [q,xT] at e;have q':oc=p.2:=g6 e;exact d w' (by rw [<-q'];exact Tz)
def qx {M:Model}{A:Around}{E:Value->Shared->Prop}{i:Nat}{x:Str}{v:V}{u:Value}{Q:Unit->Shared->Prop}(I:Inv X ah σ H s)(hN:X.N.Nodup)(hi:X.N[i]?=some x)(hx:Loc X.env.scope x)(r:RelV v u)
  (h:∀s',Inv X ah (σ.set i (some v)) H s'->Q () s')(hf:X.fn x=true\/X.env.scope.names.lookup x=some .local:=by first | exact .inl rfl | exact .inr rfl | assumption):wpAny M A (storeName X.env x u) Q E s :=
 sV I hN hi hx r (λs' I' _=>h s' I') hf
def Inv.Jf {s':Shared}{ch:List Addr}(I:Inv X ah σ H s)(ho:s'.os=s.os)(u:Un (Ce X.stack) ch H H' s.heap s'.heap)(bU:kX X.prog X.w H' s'.heap)(hg:AllBare s'.gens)
  (F1:∀b∈ch,(b∈X.ex\/X.s₀.heap.objs.size<=b)/\b≠X.env.locals/\(∀x c,X.env.cells.lookup x=some c->c≠b)/\∀p∈X.pn++ah,p.1≠b):Inv X ah σ H' s':=by
 obtain⟨h',g',d',t',o'⟩:=s';have e:o'=s.os:=ho;subst e;exact I.call (g':=g') (t':=t') (d':=d') u bU hg F1
end
abbrev XK:=Value->Option Addr->Hp->Prop
abbrev St:=List (Option V)
abbrev aG (a:Addr):Option V:=some (.ref a)
abbrev VK:=V->Hp->Prop
abbrev TE:=St->Hp->VK->Prop
abbrev TT:=St->Hp->(Bool->Hp->Prop)->Prop
abbrev TA:=St->Hp->(List V->Hp->Prop)->Prop
structure Ends where
 nx:St->Hp->Prop
 rt:VK
 bk:St->Hp->Prop:=λ_ _=>False
 ct:St->Hp->Prop:=λ_ _=>False
abbrev TS:=Ends->St->Hp->Prop
def EP (X:Cx)(ah:List (Addr×Obj))(σ:St)(Q:VK)(u:Value)(s':Shared):Prop:=∃v H',Inv X ah σ H' s'/\RelV v u/\Q v H'
def TP (X:Cx)(ah:List (Addr×Obj))(σ:St)(Q:Bool->Hp->Prop)(b:Bool)(s':Shared):Prop:=∃H',Inv X ah σ H' s'/\Q b H'
def AP (X:Cx)(ah:List (Addr×Obj))(σ:St)(Q:List V->Hp->Prop)(us:List Value)(s':Shared):Prop:=∃vs H',Inv X ah σ H' s'/\aT vs us/\Q vs H'
def SP (X:Cx)(ah:List (Addr×Obj))(D:Ends)(f:Flow)(s':Shared):Prop :=
 match f with
 | .next=>∃σ' H',Inv X ah σ' H' s'/\D.nx σ' H'
 | .brk=>∃σ' H',Inv X ah σ' H' s'/\D.bk σ' H'
 | .cont=>∃σ' H',Inv X ah σ' H' s'/\D.ct σ' H'
 | .ret u=>∃v σ' H',Inv X ah σ' H' s'/\RelV v u/\D.rt v H'
def PE (X:Cx)(e:Expr)(t:TE):Prop :=
 ∀(ah:List (Addr×Obj))(s:Shared)(σ:St)(H:Hp)(Q:VK),Inv X ah σ H s->t σ H Q->wpAny (model X.prog X.w) X.A (eval e X.env) (EP X ah σ Q) X.xe s
def PT (X:Cx)(e:Expr)(t:TT):Prop :=
 ∀(ah:List (Addr×Obj))(s:Shared)(σ:St)(H:Hp)(Q:Bool->Hp->Prop),Inv X ah σ H s->t σ H Q->wpAny (model X.prog X.w) X.A (isTrue e X.env (eval e X.env)) (TP X ah σ Q) X.xe s
def PW (X:Cx)(e:Expr)(t:TT):Prop :=
 ∀(whole:Sem Value)(ah:List (Addr×Obj))(s:Shared)(σ:St)(H:Hp)(Q:Bool->Hp->Prop),Inv X ah σ H s->t σ H Q->wpAny (model X.prog X.w) X.A (isTrue e X.env whole) (TP X ah σ Q) X.xe s
def PW.pt {X:Cx}{e:Expr}{t:TT}(h:PW X e t):PT X e t:=h _
def PA (X:Cx)(es:List Expr)(t:TA):Prop :=
 ∀(pos:Pos)(ah:List (Addr×Obj))(s:Shared)(σ:St)(H:Hp)(Q:List V->Hp->Prop),Inv X ah σ H s->t σ H Q->wpAny (model X.prog X.w) X.A (spliced (backTo pos (starEach es X.env))) (AP X ah σ Q) X.xe s
def PS (X:Cx)(st:Stmt)(t:TS):Prop :=
 ∀(ah:List (Addr×Obj))(s:Shared)(σ:St)(H:Hp)(D:Ends),Inv X ah σ H s->t D σ H->wpAny (model X.prog X.w) X.A (exec st X.env) (SP X ah D) X.xe s
def z7 (X:Cx)(st:List Stmt)(t:TS):Prop :=
 ∀(ah:List (Addr×Obj))(s:Shared)(σ:St)(H:Hp)(D:Ends),Inv X ah σ H s->t D σ H->wpAny (model X.prog X.w) X.A (execs st X.env) (SP X ah D) X.xe s
def cS {α:Type}{t:Sem α}{Q Q':α->Shared->Prop}{M:Model}{A:Around}{E:Value->Shared->Prop}{s:Shared}(h:wpAny M A t Q E s)(hQ:∀a s,Q a s->Q' a s):wpAny M A t Q' E s:=cW h hQ λ_ _ x=>x
section
variable {X:Cx}
def bin {a b:Expr}{ta tb:TE}(ha:PE X a ta)(hb:PE X b tb){ah:List (Addr×Obj)}{s:Shared}{σ:St}{H:Hp}{R:V->V->Hp->Prop}(I:Inv X ah σ H s)(h:ta σ H λx H1=>tb σ H1 λy H2=>R x y H2)
  {α:Type}{Q:α->Shared->Prop}{f:Value->Value->Sem α}
  (hf:∀v u s2 x y H2,Inv X ah σ H2 s2->RelV x v->RelV y u->R x y H2->wpAny (model X.prog X.w) X.A (f v u) Q X.xe s2) :
  wpAny (model X.prog X.w) X.A (eval a X.env) (λv s₁=>wpAny (model X.prog X.w) X.A (eval b X.env) (λu s₂=>wpAny (model X.prog X.w) X.A (f v u) Q X.xe s₂) X.xe s₁) X.xe s:=by
 refine cS (ha ah s σ H _ I h) λv s1 bh=>?_;obtain⟨x,H1,I1,r1,q1⟩:=bh;refine cS (hb ah s1 σ H1 _ I1 q1) λu s2 bh=>?_;obtain⟨y,H2,I2,r2,q2⟩:=bh;exact hf v u s2 x y H2 I2 r1 r2 q2
inductive Pj (o:Option (Option V))(R:V->Prop):Prop
|mk(v:V)(e:o=some (some v))(q:R v)
inductive XB (x:V)(R:Bool->Prop):Prop
|mk(c:Bool)(e:x=.bl c)(q:R c)
inductive VF (x:V)(R:Int->Prop):Prop
|mk(i:Int)(e:x=.int i)(q:R i)
inductive Y3 (x y:V)(R:Int->Int->Prop):Prop
|mk(i j:Int)(e:x=.int i)(e2:y=.int j)(q:R i j)
inductive Y2 (x y:V)(C:Int->Int->Prop)(R:Int->Int->Prop):Prop
|mk(i j:Int)(e:x=.int i)(e2:y=.int j)(c:C i j)(q:R i j)
inductive Ji (vs:List V)(R:V->List V->Prop):Prop
|mk(v:V)(r:List V)(e:vs=v::r)(q:R v r)
inductive Pk (v:V)(S:Addr->List V->Prop) (n:Nat)(R:List V->Prop):Prop
|mk(a:Addr)(xs:List V)(e:v=.ref a)(s:S a xs)(l:xs.length=n)(q:R xs)
inductive QP (x:V)(S:Addr->Prop)(R:Addr->Prop):Prop
|mk(a:Addr)(e:x=.ref a)(s:S a)(q:R a)
inductive YX (x:V)(S:Addr->List V->Prop)(R:List V->Prop):Prop
|mk(a:Addr)(xs:List V)(e:x=.ref a)(s:S a xs)(q:R xs)
inductive Y7 (S:Addr->List V->Prop)(x y:V)(R:List V->List V->Prop):Prop
|mk(a b:Addr)(xs ys:List V)(e:x=.ref a)(e2:y=.ref b)(s:S a xs)(s2:S b ys)(z:xs.length+ys.length<=sizeLine)(q:R xs ys)
inductive YZ (vs:List V)(R:Int->Prop):Prop
|mk(j:Int)(e:vs=[.int j])(l:-(2 ^ 62)<=j)(u:j < 2 ^ 62)(q:R j)
inductive QQ (vs:List V)(S:Addr->List V->Prop)(R:Addr->Prop):Prop
|mk(a:Addr)(xs:List V)(e:vs=[.ref a])(s:S a xs)(q:R a)
inductive Ft (xs:List V)(S:Addr->List V->Prop)(R:List V->Prop):Prop
|mk(p:Addr)(ys:List V)(e:xs=[.ref p])(s:S p ys)(q:R ys)
def gF (i:Nat):TE:=λσ H Q=>Pj σ[i]? λv=>Q v H
def tC (v:V):TE:=λ_ H Q=>Q v H
def J0 {i:Nat}{x:Str}{pos:Pos}(hN:X.N[i]?=some x)(hv:QR X.env.scope x)(hd:(x == ("__debug__":Str))=false:=by decide)(vF:(x == ("__classdict__":Str))=false:=by decide):PE X (.Name x pos) (gF i):=by
 intro ah s σ H Q I h;obtain⟨v,e,h⟩:=h;obtain⟨m,hn,hl⟩:=I.loc;obtain⟨u,r,l⟩:=hl i x v hN e hv;have fin:EP X ah σ Q u s:=⟨v,H,I,r,h⟩;rcases l with ⟨hk,hm⟩ | ⟨hk,c,hc,iV⟩
 .exact wpAny_Name (uy I.ok.kind hk hn hm fin) hd
 rcases hk with hk | hk
 .exact wpAny_Name (wpAny_loadName_cell I.ok.kind hk hc iV fin) hd
 exact wpAny_Name (wpAny_loadName_free I.ok.kind hk hc iV fin vF) hd
def ao {i j pos}:PE X (.Constant (.int i) j pos) (tC (.int i)):=λ_ _ _ H _ I h=>wpAny_Constant_int ⟨.int i,H,I.tok _,⟨_,rfl⟩,h⟩
def eV {b j pos}:PE X (.Constant (.bool b) j pos) (tC (.bl b)):=λ_ _ _ H _ I h=>Constant_bool ⟨.bl b,H,I,rfl,h⟩
def J_ {j pos}:PE X (.Constant .none j pos) (tC .d5):=λ_ _ _ H _ I h=>Constant_none ⟨.d5,H,I,rfl,h⟩
def aU {x j pos}:PE X (.Constant (.str x) j pos) (tC (.str x)):=λ_ _ _ H _ I h=>Calls.Constant_str ⟨.str x,H,I.tok _,⟨_,rfl⟩,h⟩
def Gl (X:Cx)(x:Str):Prop:=X.env.kindOf x=some .globalImplicit
def vy {E:Value->Shared->Prop}{ah:List (Addr×Obj)}{s:Shared}{σ:St}{H:Hp}{x:Str}{u:Value}{pos:Pos}{Q:Value->Shared->Prop}(I:Inv X ah σ H s)(hg:Gl X x)(hm:X.mg x=some u)(h:Q u s)
  (hd:(x == ("__debug__":Str))=false:=by decide):wpAny (model X.prog X.w) X.A (eval (.Name x pos) X.env) Q E s :=
 Calls.Name_function_global I.ok.kind hg (Calls.loadGlobal_global (by rw [I.ok.glob];exact I.mod.glob.keeps I.bk) hm h) hd
def ib {E:Value->Shared->Prop}{ah:List (Addr×Obj)}{s:Shared}{σ:St}{H:Hp}{x:Str}{u:Value}{pos:Pos}{Q:Value->Shared->Prop}(I:Inv X ah σ H s)(hg:Gl X x)(hm:X.mg x=none)(hv:bootBuiltins x=some u)(h:Q u s)
  (hn:x ≠ "__name__" := by decide)(hd:(x == ("__debug__":Str))=false:=by decide):wpAny (model X.prog X.w) X.A (eval (.Name x pos) X.env) Q E s:=by
 obtain⟨mb,h1,h2⟩:=I.mod.blt;exact Calls.Name_function_global I.ok.kind hg (Calls.loadGlobal_builtin (by rw [I.ok.glob];exact I.mod.glob.keeps I.bk) hm (by rw [I.ok.blt];exact h1.keeps I.bk) ((h2 x hn).trans hv) h) hd
def mM {x:Str}{v:V}{u:Value}{pos:Pos}(hg:Gl X x)(hm:X.mg x=some u)(r:RelV v u)(hd:(x == ("__debug__":Str))=false:=by decide):PE X (.Name x pos) (tC v) :=
 λ_ _ _ H _ I h=>vy I hg hm ⟨v,H,I,r,h⟩ hd
def pL {x:Str}{v:V}{u:Value}{pos:Pos}(hg:Gl X x)(hm:X.mg x=none)(hv:bootBuiltins x=some u)(r:RelV v u)(hn:x ≠ "__name__" := by decide)(hd:(x == ("__debug__":Str))=false:=by decide):PE X (.Name x pos) (tC v) :=
 λ_ _ _ H _ I h=>ib I hg hm hv ⟨v,H,I,r,h⟩ hn hd
variable {a b:Expr}{ta tb:TE}{pos:Pos}
def PC (X:Cx)(op:CmpOp)(a b:Expr)(t:TE):Prop :=
 ∀(ah:List (Addr×Obj))(s:Shared)(σ:St)(H:Hp)(Q:VK),Inv X ah σ H s->t σ H Q ->
  wpAny (model X.prog X.w) X.A (eval a X.env) (λv s₁=>wpAny (model X.prog X.w) X.A (eval b X.env) (λu s₂=>wpAny (model X.prog X.w) X.A (compareOp op v u) (EP X ah σ Q) X.xe s₂) X.xe s₁) X.xe s
def wQ (b:Expr){op:CmpOp}(h:op≠.In)(h2:op≠.NotIn):behindInMarks op b=false:=by
 have e1:(op == CmpOp.In)=false:=by cases op <;> first | rfl | exact absurd rfl h
 have e2:(op == CmpOp.NotIn)=false:=by cases op <;> first | rfl | exact absurd rfl h2
 cases b <;> simp [behindInMarks,e1,e2]
def Rk (ta:TE):TE:=λσ H Q=>ta σ H λx H1=>Q (.bl (decide (x=.d5))) H1
def RelV.Eo {x:V}{v:Value}(r:RelV x v):(v == Value.none)=decide (x=.d5):=by
 cases x with
 | d5=>cases r;rfl
 | bl _=>cases r;rfl
 | int _=>obtain⟨t,rfl⟩:=r;rfl
 | str _=>obtain⟨t,rfl⟩:=r;rfl
 | z5 _=>obtain⟨t,rfl⟩:=r;rfl
 | Li _=>obtain⟨t,rfl⟩:=r;rfl
 | ref _=>cases r;rfl
 | ty _=>cases r;rfl
def Ka {j pos'}(ha:PE X a ta):PC X .Is a (.Constant .none j pos') (Rk ta):=by
 intro ah s σ H Q I h;refine cS (ha ah s σ H _ I h) λv s1 bh=>?_;obtain⟨x,H1,I1,r1,q1⟩:=bh;exact Constant_none (is_none_gen ⟨.bl _,H1,I1,by rw [r1.Eo];rfl,q1⟩)
def tB (t:TE):TT:=λσ H Q=>t σ H λx H1=>XB x λc=>Q c H1
def DR {op:CmpOp}{t:TE}(h:PC X op a b t)(h1:behindInMarks op b=false:=by first | exact wQ _ nofun nofun | rfl):PE X (.Compare a [op] [b] pos) t:=λah s σ H Q I hw=>wpAny_Compare1 (h ah s σ H Q I hw) h1
def fq {op:CmpOp}{t:TE}(h:PC X op a b t)(h1:behindInMarks op b=false:=by first | exact wQ _ nofun nofun | rfl):PT X (.Compare a [op] [b] pos) (tB t):=by
 intro ah s σ H Q I hw;refine wpAny_isTrue_Compare1 (cS (h ah s σ H _ I hw) λv s1 h1=>cS h1 λu s2 h2=>cS h2 λc s3 bh=>?_) h1;obtain⟨x,H1,I1,r1,q1⟩:=bh;obtain⟨d,rfl,q⟩:=q1;cases r1;exact oQ ⟨H1,I1,q⟩
def fk {e:Expr}{t:TE}(h:PE X e t)(he:∀whole,isTrue e X.env whole=(do let v <-whole;standAt e.pos;holding [v] (truthy v)):=by intro _;rfl):PT X e (tB t):=by
 intro ah s σ H Q I hw;refine isTrue_plain (cS (h ah s σ H _ I hw) λv s1 bh=>?_) (he _);obtain⟨x,H1,I1,r1,q1⟩:=bh;obtain⟨d,rfl,q⟩:=q1;cases r1;exact oQ ⟨H1,I1,q⟩
variable {tA PJ:TT}{rest:List Expr}
def Rp (t u:TT):TT:=λσ H Q=>t σ H λc H1=>if c=true then u σ H1 Q else Q false H1
def Zq (t u:TT):TT:=λσ H Q=>t σ H λc H1=>if c=true then Q true H1 else u σ H1 Q
def Ri (t:TT):TT:=λσ H Q=>t σ H λc H1=>Q (!c) H1
def jc (ha:PT X a tA):PW X (.BoolOp .And [a] pos) tA:=by
 intro wh ah s σ H Q I h;refine isTrue_and (cS (ha ah s σ H Q I h) λc s1 e=>?_);cases c with
 | true=>exact isTrue_and_nil e
 | false=>exact e
def lE (ha:PT X a tA):PW X (.BoolOp .Or [a] pos) tA:=by
 intro wh ah s σ H Q I h;refine isTrue_or (cS (ha ah s σ H Q I h) λc s1 e=>?_);cases c with
 | false=>exact isTrue_or_nil e
 | true=>exact e
def jd (ha:PT X a tA)(hb:PW X (.BoolOp .And (b::rest) pos) PJ):PW X (.BoolOp .And (a::b::rest) pos) (Rp tA PJ):=by
 intro wh ah s σ H Q I h;refine isTrue_and (cS (ha ah s σ H _ I h) λc s1 bh=>?_);obtain⟨H1,I1,q1⟩:=bh;cases c with
 | true=>exact hb wh ah s1 σ H1 Q I1 q1
 | false=>exact⟨H1,I1,q1⟩
def qI (ha:PT X a tA)(hb:PW X (.BoolOp .Or (b::rest) pos) PJ):PW X (.BoolOp .Or (a::b::rest) pos) (Zq tA PJ):=by
 intro wh ah s σ H Q I h;refine isTrue_or (cS (ha ah s σ H _ I h) λc s1 bh=>?_);obtain⟨H1,I1,q1⟩:=bh;cases c with
 | true=>exact⟨H1,I1,q1⟩
 | false=>exact hb wh ah s1 σ H1 Q I1 q1
def iF (ha:PT X a tA):PT X (.UnaryOp .Not a pos) (Ri tA):=by
 intro ah s σ H Q I h;exact isTrue_not (ha ah s σ H (λc H1=>Q (!c) H1) I h)
def Na (ta tb:TE):TE:=λσ H Q=>ta σ H λx H1=>XB x λc=>if c=true then tb σ H1 Q else Q (.bl false) H1
def MY (ta:TE):TE:=λσ H Q=>ta σ H λx H1=>XB x λc=>Q (.bl (!c)) H1
def vh {op}{t:TE}(h:PE X a t):PE X (.BoolOp op [a] pos) t:=λah s σ H Q I hw=>BoolOp_one (h ah s σ H Q I hw)
def qK (ha:PE X a ta)(hb:PE X (.BoolOp .And (b::rest) pos) tb):PE X (.BoolOp .And (a::b::rest) pos) (Na ta tb):=by
 intro ah s σ H Q I h;refine BoolOp_and (cS (ha ah s σ H _ I h) λv s1 bh=>?_);obtain⟨x,H1,I1,r1,q1⟩:=bh;obtain⟨c,rfl,q1⟩:=q1;cases r1;refine oQ ?_;cases c with
 | true=>exact hb ah s1 σ H1 Q I1 q1
 | false=>exact⟨.bl false,H1,I1,rfl,q1⟩
def J3 (ha:PE X a ta):PE X (.UnaryOp .Not a pos) (MY ta):=by
 intro ah s σ H Q I h;refine UnaryOp_ (cS (ha ah s σ H _ I h) λv s1 bh=>?_);obtain⟨x,H1,I1,r1,q1⟩:=bh;obtain⟨c,rfl,q1⟩:=q1;cases r1;exact not_of (oQ ⟨.bl (!c),H1,I1,rfl,q1⟩)
def Zr (t:TT)(ta tb:TE):TE:=λσ H Q=>t σ H λc H1=>if c=true then ta σ H1 Q else tb σ H1 Q
def wH {c:Expr}(hc:PT X c tA)(ha:PE X a ta)(hb:PE X b tb):PE X (.IfExp c a b pos) (Zr tA ta tb):=by
 intro ah s σ H Q I h;refine wpAny_IfExp (cS (hc ah s σ H _ I h) λd s1 bh=>?_);obtain⟨H1,I1,q1⟩:=bh;cases d with
 | true=>exact ha ah s1 σ H1 Q I1 q1
 | false=>exact hb ah s1 σ H1 Q I1 q1
end
def aD (K:aY)(H:Hp)(a:Addr)(xs:List V):Prop :=
 Rd H a (.lst xs) \/
  ∃(o:Obj)(aJ:Array Value) (n:Nat),K.lookup a=some o/\o.cls=.type "list" /\ o.dict=none/\o.data=.seq aJ n/\aJ.size<=sizeLine/\aT xs aJ.toList
def ba (K:aY)(H:Hp)(a:Addr)(xs:List V):Prop :=
 Rd H a (.tup xs) \/
  ∃(o:Obj)(aJ:Array Value) (n:Nat),K.lookup a=some o/\o.cls=.type "tuple" /\ o.data=.seq aJ n/\aJ.size<=sizeLine/\aT xs aJ.toList
def VC:Value->Option V
 | .none=>some .d5
 | .bool b=>some (.bl b)
 | .int i _=>some (.int i)
 | .str x _=>some (.str x)
 | .bytes b _=>some (.z5 b)
 | .float b _=>some (.Li b)
 | .ref a=>some (.ref a)
 | .type n=>some (.ty n)
 | _=>none
def RelV.abs {x:V}{u:Value}(r:RelV x u):VC u=some x:=by
 cases x with
 | d5=>cases r;rfl
 | bl _=>cases r;rfl
 | int _=>obtain⟨t,rfl⟩:=r;rfl
 | str _=>obtain⟨t,rfl⟩:=r;rfl
 | z5 _=>obtain⟨t,rfl⟩:=r;rfl
 | Li _=>obtain⟨t,rfl⟩:=r;rfl
 | ref _=>cases r;rfl
 | ty _=>cases r;rfl
def RelV.inj {x y:V}{u:Value}(r:RelV x u)(q:RelV y u):x=y:=g6 (r.abs.symm.trans q.abs)
theorem aT.inj:∀{xs ys:List V}{us:List Value},aT xs us->aT ys us->xs=ys
 | _,_,_,.nil,.nil=>rfl
 | _,_,_,.cons r t,.cons r' t'=>by rw [r.inj r',aT.inj t t']
section
variable {X:Cx}{ah:List (Addr×Obj)}{σ:St}{H:Hp}{s:Shared}{a:Addr}{xs ys:List V}
def aD.of {K:aY}(h:H a=some (.lst xs)):aD K H a xs:=.inl (.inl h)
def ba.of {K:aY}(h:H a=some (.tup xs)):ba K H a xs:=.inl (.inl h)
def Inv.list (I:Inv X ah σ H s)(h:aD X.K H a xs):∃aJ:List Value,aT xs aJ/\PlainL s.heap a aJ.toArray/\xs.length<=sizeLine:=by
 rcases h with h | ⟨o,aJ,n,hk,hc,hd,hs,hz,r⟩
 .obtain⟨z,aJ,n,r,e⟩:=h.ok I.bU;exact⟨aJ,r,⟨_,n,e,rfl,rfl,rfl⟩,z⟩
 refine⟨aJ.toList,r,⟨o,n,I.sC a o hk,hc,hd,by simpa using hs⟩,?_⟩;have e:=r.length;simp only [uz] at e;omega
def Inv.tuple (I:Inv X ah σ H s)(h:ba X.K H a xs):∃aJ:List Value,aT xs aJ/\IsTup s.heap a aJ.toArray/\xs.length<=sizeLine:=by
 rcases h with h | ⟨o,aJ,n,hk,hc,hs,hz,r⟩
 .obtain⟨z,aJ,r,p⟩:=h.ok I.bU;exact⟨aJ,r,p,z⟩
 refine⟨aJ.toList,r,⟨o,I.sC a o hk,hc,n,by simpa using hs⟩,?_⟩;have e:=r.length;simp only [uz] at e;omega
def Inv.iS (I:Inv X ah σ H s)(h:aD X.K H a xs)(h':aD X.K H a ys):xs=ys:=by
 obtain⟨aJ,r,⟨o,n,e,_,_,d⟩,_⟩:=I.list h;obtain⟨lO,r',⟨o',n',e',_,_,d'⟩,_⟩:=I.list h';rw [e] at e';cases e';rw [d] at d';injection d' with d1 _;have:aJ=lO:=by simpa using congrArg Array.toList d1
 subst this;exact r.inj r'
def Inv.sQ (I:Inv X ah σ H s)(h:ba X.K H a xs)(h':ba X.K H a ys):xs=ys:=by
 obtain⟨aJ,r,⟨o,e,_,n,d⟩,_⟩:=I.tuple h;obtain⟨lO,r',⟨o',e',_,n',d'⟩,_⟩:=I.tuple h';rw [e] at e';cases e';rw [d] at d';injection d' with d1 _;have:aJ=lO:=by simpa using congrArg Array.toList d1
 subst this;exact r.inj r'
end
abbrev Cx.ph (X:Cx)(E:Value->Shared->Prop):Cx:={ X with xe:=E }
abbrev Cx.BO (X:Cx):Cx:=X.ph λ_ _=>False
theorem Cx.Ok.ph {X:Cx}(ok:X.Ok)(E:Value->Shared->Prop):(X.ph E).Ok :=
 ⟨ok.mod,ok.kind,ok.glob,ok.blt,ok.above,ok.inj,ok.has,ok.O9,ok.hd,ok.frames,ok.PM,ok.Mo,ok.bs,ok.F8,ok.Ep,ok.Ck,ok.oz,ok.I9⟩
def Cx.Ok.iD {X:Cx}{E:Value->Shared->Prop}(ok:(X.ph E).Ok):X.Ok :=
 ⟨ok.mod,ok.kind,ok.glob,ok.blt,ok.above,ok.inj,ok.has,ok.O9,ok.hd,ok.frames,ok.PM,ok.Mo,ok.bs,ok.F8,ok.Ep,ok.Ck,ok.oz,ok.I9⟩
section
variable {X:Cx}{ah:List (Addr×Obj)}{σ:St}{H:Hp}{s:Shared}{E:Value->Shared->Prop}
theorem Inv.ph (I:Inv X ah σ H s)(E:Value->Shared->Prop):Inv (X.ph E) ah σ H s:=⟨I.ok.ph E,I.os,I.bare,I.base,I.loc,I.cell,I.free,I.kQ,I.pin,I.bU,I.len⟩
theorem Inv.iD (I:Inv (X.ph E) ah σ H s):Inv X ah σ H s:=⟨I.ok.iD,I.os,I.bare,I.base,I.loc,I.cell,I.free,I.kQ,I.pin,I.bU,I.len⟩
theorem SP.iD {D:Ends}{f:Flow}{s':Shared}(h:SP (X.ph E) ah D f s'):SP X ah D f s':=by
 cases f with
 | next=>obtain⟨σ',H',I,q⟩:=h;exact⟨σ',H',I.iD,q⟩
 | brk=>obtain⟨σ',H',I,q⟩:=h;exact⟨σ',H',I.iD,q⟩
 | cont=>obtain⟨σ',H',I,q⟩:=h;exact⟨σ',H',I.iD,q⟩
 | ret u=>obtain⟨v,σ',H',I,r,q⟩:=h;exact⟨v,σ',H',I.iD,r,q⟩
theorem PE.BO {e:Expr}{t:TE}(h:PE X.BO e t):PE X e t:=λah s σ H Q I hw =>
 cW (h ah s σ H Q (I.ph _) hw) (λ_ _ ⟨v,H',I',r,q⟩=>⟨v,H',I'.iD,r,q⟩) λ_ _ z=>False.elim z
theorem PT.BO {e:Expr}{t:TT}(h:PT X.BO e t):PT X e t:=λah s σ H Q I hw =>
 cW (h ah s σ H Q (I.ph _) hw) (λ_ _ ⟨H',I',q⟩=>⟨H',I'.iD,q⟩) λ_ _ z=>False.elim z
theorem z7.BO {st:List Stmt}{t:TS}(h:z7 X.BO st t):z7 X st t:=λah s σ H D I hw =>
 cW (h ah s σ H D (I.ph _) hw) (λ_ _ q=>q.iD) λ_ _ z=>False.elim z
end
section
variable {X:Cx}{st:Stmt}{rest:List Stmt}{t u:TS}{e:Expr}{te:TE}{pos:Pos}
def MZ:TS:=λD σ H=>D.nx σ H
def Jx (t u:TS):TS:=λD σ H=>t { D with nx:=u D } σ H
def bC:z7 X [] MZ:=λ_ _ σ H _ I h=>wpAny_execs_nil ⟨σ,H,I,h⟩
def ak (h1:PS X st t)(h2:z7 X rest u):z7 X (st::rest) (Jx t u):=by
 intro ah s σ H D I h;refine wpAny_execs_cons (cS (h1 ah s σ H { D with nx:=u D } I h) λf s1 q=>?_);cases f with
 | next =>
  obtain⟨σ',H',I',q⟩:=q;exact h2 ah s1 σ' H' D I' q
 | ret v=>exact q
 | brk=>exact q
 | cont=>exact q
def ar (h1:PS X st t):z7 X [st] t:=by
 intro ah s σ H D I h;refine wpAny_execs_cons (cS (h1 ah s σ H D I h) λf s1 q=>?_);cases f with
 | next=>exact wpAny_execs_nil q
 | ret v=>exact q
 | brk=>exact q
 | cont=>exact q
def JB:TS:=λD σ H=>D.bk σ H
def DI:PS X (.Break pos) JB:=λ_ _ σ H _ I h=>wpAny_Break ⟨σ,H,I,h⟩
def Inv.quiet {ah:List (Addr×Obj)}{σ:St}{H:Hp}{s:Shared}(I:Inv X ah σ H s):interactive X.env=false:=by simp [interactive,I.ok.kind]
def M6 (te:TE):TS:=λD σ H=>te σ H λ_ H1=>D.nx σ H1
def cx (he:PE X e te)(hs:swapsWith e none pos.line X.env=pure false:=by rfl):PS X (.Expr e pos) (M6 te):=by
 intro ah s σ H D I h;refine wpAny_Expr_any (cS (he ah s σ H _ I h) λv s1 bh=>?_) I.quiet hs;obtain⟨x,H1,I1,r1,q1⟩:=bh;exact⟨σ,H1,I1,q1⟩
def Rh (te:TE):TS:=λD σ H=>te σ H D.rt
def bf (he:PE X e te):PS X (.Return (some e) pos) (Rh te):=by
 intro ah s σ H D I h;refine wpAny_Return_some (cS (he ah s σ H _ I h) λv s1 bh=>?_);obtain⟨x,H1,I1,r1,q1⟩:=bh;exact⟨x,σ,H1,I1,r1,q1⟩
def Rl (c:TT)(t u:TS):TS:=λD σ H=>c σ H λb H1=>if b=true then t D σ H1 else u D σ H1
def cN {c:Expr}{a b:List Stmt}{tc:TT}(hc:PT X c tc)(ha:z7 X a t)(hb:z7 X b u):PS X (.If c a b pos) (Rl tc t u):=by
 intro ah s σ H D I h;refine wpAny_If (cS (hc ah s σ H _ I h) λd s1 bh=>?_);obtain⟨H1,I1,q1⟩:=bh;cases d with
 | true=>exact ha ah s1 σ H1 D I1 q1
 | false=>exact hb ah s1 σ H1 D I1 q1
def Jy:TS:=λ_ _ _=>False
def fC:PS X st Jy:=λ_ _ _ _ _ _ h=>h.elim
end
abbrev TG:=V->St->Hp->(St->Hp->Prop)->Prop
abbrev Jj:=List V->St->Hp->(St->Hp->Prop)->Prop
def PG (X:Cx)(target:Expr)(t:TG):Prop :=
 ∀(ah:List (Addr×Obj))(s:Shared)(σ:St)(H:Hp)(v:V)(u:Value)(Q:St->Hp->Prop),Inv X ah σ H s->RelV v u->t v σ H Q ->
  wpAny (model X.prog X.w) X.A (assign target X.env u) (λ_ s'=>∃σ' H',Inv X ah σ' H' s'/\Q σ' H') X.xe s
def Pp (X:Cx)(ts:List Expr)(t:Jj):Prop :=
 ∀(ah:List (Addr×Obj))(s:Shared)(σ:St)(H:Hp)(vs:List V)(us:List Value)(Q:St->Hp->Prop),Inv X ah σ H s->aT vs us->t vs σ H Q ->
  wpAny (model X.prog X.w) X.A (assignInOrder ((assignEach ts X.env).map (·.2)) us) (λ_ s'=>∃σ' H',Inv X ah σ' H' s'/\Q σ' H') X.xe s
abbrev LA:=V->V->V->Hp->(Hp->Prop)->Prop
def Po (X:Cx)(t:LA):Prop :=
 ∀(ah:List (Addr×Obj))(s:Shared)(σ:St)(H:Hp)(o i v:V)(ov iv u:Value)(Q:Hp->Prop),Inv X ah σ H s->RelV o ov->RelV i iv->RelV v u->t o i v H Q ->
  wpAny (model X.prog X.w) X.A (setItem ov iv u) (λ_ s'=>∃H',Inv X ah σ H' s'/\Q H') X.xe s
abbrev QS:=V->V->Hp->VK->Prop
def Y_ (X:Cx)(op:Operator)(t:QS):Prop :=
 ∀(ah:List (Addr×Obj))(s:Shared)(σ:St)(H:Hp)(x y:V)(v u:Value)(Q:VK),Inv X ah σ H s->RelV x v->RelV y u->t x y H Q ->
  wpAny (model X.prog X.w) X.A (inplaceOp op v u) (EP X ah σ Q) X.xe s
section
variable {X:Cx}{pos:Pos}
def eJ (i:Nat):TG:=λv σ H Q=>Q (σ.set i (some v)) H
def au {i:Nat}{x:Str}(hN:X.N.Nodup)(hi:X.N[i]?=some x)(hx:Loc X.env.scope x)(hf:X.fn x=true\/X.env.scope.names.lookup x=some .local:=by first | exact .inl rfl | exact .inr rfl | assumption):PG X (.Name x pos) (eJ i):=by
 intro ah s σ H v u Q I r h;exact wpAny_assign_Name (qx I hN hi hx r (λs' I'=>⟨_,H,I',h⟩) hf)
def E5:Jj:=λvs σ H Q=>vs=[]/\Q σ H
def j4 (t:TG)(u:Jj):Jj:=λvs σ H Q=>Ji vs λv r=>t v σ H λσ' H'=>u r σ' H' Q
def cy:Pp X [] E5:=by
 intro ah s σ H vs us Q I r h;obtain⟨e,h⟩:=h;subst e;cases r;exact assignInOrder_nil ⟨σ,H,I,h⟩
def aF {e:Expr}{es:List Expr}{t:TG}{u:Jj}(h1:PG X e t)(h2:Pp X es u)
  (hs:(assignEach (e::es) X.env).map (·.2)=assign e X.env::(assignEach es X.env).map (·.2):=by rfl):Pp X (e::es) (j4 t u):=by
 intro ah s σ H vs us Q I r h;obtain⟨v,vr,e1,h⟩:=h;subst e1;cases r with
 | cons r rr =>
  rw [hs];refine assignInOrder_cons (cS (h1 ah s σ H _ _ _ I r h) λ_ s1 bh=>?_);obtain⟨σ1,H1,I1,q1⟩:=bh;exact h2 ah s1 σ1 H1 _ _ Q I1 rr q1
def Cd (K:aY) (n:Nat)(t:Jj):TG:=λv σ H Q=>Pk v (ba K H) n λxs=>t xs σ H Q
def eU {es:List Expr}{k:Nat}{t:Jj}{n:Nat}(hc:X.calm=true)(h:Pp X es t)
  (hn:(assignEach es X.env).length=n:=by rfl)(sf:(assignEach es X.env).findIdx? (·.1)=none:=by rfl):PG X (.Tuple es k pos) (Cd X.K n t):=by
 intro ah s σ H v u Q I r hw;obtain⟨a,xs,e1,hq,hl,hw⟩:=hw;subst e1;cases r;obtain⟨aJ,rv,ht,hz⟩:=I.tuple hq;refine assign_Tuple_tuple (I.ok.hd hc) ht (by simp [hn,<-hl,rv.length]) sf λh' hx=>?_;have I1:Inv X ah σ H { s with heap:=h' }:=I.kept (t':=s.toks) λb o e=>hx b o (bT (bc e)) e;exact h ah _ σ H xs _ Q I1 (by simpa using rv) hw
def Ux (to ti:TE)(t:LA):TG:=λv σ H Q=>to σ H λo H1=>ti σ H1 λi H2=>t o i v H2 λH3=>Q σ H3
def yT {o i:Expr}{to ti:TE}{t:LA}(ho:PE X o to)(hi:PE X i ti)(hs:Po X t)
  (ha:∀v,assign (.Subscript o i pos) X.env v=(do
   let ov <-holding [v] (eval o X.env)
   let iv <-holding [v,ov] (eval i X.env)
   standAt pos
   holding [v,ov,iv] (setItem ov iv v)
   release [v,ov,iv] []):=by intro _;rfl):PG X (.Subscript o i pos) (Ux to ti t):=by
 intro ah s σ H v u Q I r h;rw [ha];refine aA (jE (cS (ho ah s σ H _ I h) λov s1 bh=>?_));obtain⟨x,H1,I1,r1,q1⟩:=bh;refine aA (jE (cS (hi ah s1 σ H1 _ I1 q1) λiv s2 bh=>?_));obtain⟨y,H2,I2,r2,q2⟩:=bh;refine aA (wpAny_standAt (aA (jE (cS (hs ah s2 σ H2 x y v ov iv u _ I2 r1 r2 r q2) λ_ s3 bh=>?_))));obtain⟨H3,I3,q3⟩:=bh;exact wpAny_release ⟨σ,H3,I3,q3⟩
def JC (te:TE)(g:TG):TS:=λD σ H=>te σ H λx H1=>g x σ H1 D.nx
def yR {tg e:Expr}{te:TE}{g:TG}(he:PE X e te)(hg:PG X tg g)(hs:swapsWithSole [tg] e pos.line X.env=pure false:=by rfl)(hw:swappedStores [tg] e X.env=pure none:=by rfl)
  (h1:(assignEach [tg] X.env).map (·.2)=[assign tg X.env]:=by rfl):PS X (.Assign [tg] e pos) (JC te g):=by
 intro ah s σ H D I h;refine wpAny_Assign_stores (cS (he ah s σ H _ I h) λv s1 bh=>?_) hs hw;obtain⟨x,H1,I1,r1,q1⟩:=bh;rw [h1];exact cS (hg ah s1 σ H1 x v _ I1 r1 q1) λ_ s2 q=>q
def aE {i:Nat}{x:Str}{e:Expr}{te:TE}{pos':Pos}(hN:X.N.Nodup)(hi:X.N[i]?=some x)(hx:Loc X.env.scope x)(he:PE X e te)(hs:swapsWith e (some (.Name x pos')) pos.line X.env=pure false:=by rfl)(hf:X.fn x=true\/X.env.scope.names.lookup x=some .local:=by first | exact .inl rfl | exact .inr rfl | assumption) :
  PS X (.Assign [.Name x pos'] e pos) (JC te (eJ i)):=by
 intro ah s σ H D I h;refine wpAny_Assign_Name (cS (he ah s σ H _ I h) λv s1 bh=>?_) hs;obtain⟨y,H1,I1,r1,q1⟩:=bh;exact qx I1 hN hi hx r1 (λs2 I2=>⟨_,H1,I2,q1⟩) hf
def Ro (i:Nat)(te:TE)(ti:QS):TS:=λD σ H=>∃x,σ[i]?=some (some x)/\te σ H λy H1=>ti x y H1 λz H2=>D.nx (σ.set i (some z)) H2
def DJ {i:Nat}{x:Str}{e:Expr}{te:TE}{op:Operator}{ti:QS}{pos':Pos}(hN:X.N.Nodup)(hi:X.N[i]?=some x)(hx:Loc X.env.scope x)(he:PE X e te)(ho:Y_ X op ti)(hf:X.fn x=true\/X.env.scope.names.lookup x=some .local:=by first | exact .inl rfl | exact .inr rfl | assumption) :
  PS X (.AugAssign (.Name x pos') op e pos) (Ro i te ti):=by
 intro ah s σ H D I h;obtain⟨v,e1,h⟩:=h;obtain⟨m,hn,hl⟩:=I.loc;have Zj:QR X.env.scope x:=by rcases hx with k | k;exact .inl k;exact .inr (.inl k)
 obtain⟨u,r,l⟩:=hl i x v hi e1 Zj;refine wpAny_AugAssign_Name ?_;have go:wpAny (model X.prog X.w) X.A (eval e X.env) (λw s₂=>wpAny (model X.prog X.w) X.A (inplaceOp op u w) (λr s₃=>wpAny (model X.prog X.w) X.A (storeName X.env x r) (λ_=>SP X ah D .next) X.xe s₃) X.xe s₂) X.xe s:=by
  refine cS (he ah s σ H _ I h) λw s1 bh=>?_;obtain⟨y,H1,I1,r1,q1⟩:=bh;refine cS (ho ah s1 σ H1 v y u w _ I1 r r1 q1) λz s2 bh=>?_;obtain⟨zv,H2,I2,r2,q2⟩:=bh;exact qx I2 hN hi hx r2 (λs3 I3=>⟨_,H2,I3,q2⟩) hf
 rcases l with ⟨hk,hm⟩ | ⟨hk,c,hc,iV⟩
 .exact uy I.ok.kind hk hn hm go
 rcases hk with hk | hk
 .exact wpAny_loadName_cell I.ok.kind hk hc iV go
 rcases hx with k | k
 .have:X.env.scope.names.lookup x=some .free:=hk;rw [k] at this;cases this
 have:X.env.scope.names.lookup x=some .free:=hk;rw [k] at this;cases this
def ipI (f:Int->Int->Int):QS:=λx y H Q=>∃i j,x=.int i/\y=.int j/\Q (.int (f i j)) H
def EH:Y_ X .Add (ipI λi j=>i+j):=by
 intro ah s σ H x y v u Q I r1 r2 h;obtain⟨i,j,e1,e2,q⟩:=h;subst e1;subst e2;obtain⟨t,rfl⟩:=r1;obtain⟨t',rfl⟩:=r2;exact iadd_int ⟨.int _,H,I.tok _,⟨_,rfl⟩,q⟩
end
section
variable {X:Cx}{pos:Pos}
def Jv (c:TT)(tb:TS):TS:=λD σ H=>∃W:Nat->St->Hp->Prop,(∃m,W m σ H)/\∀m σ H,W m σ H ->
 c σ H λb H1=>if b=true then ∃N:St->Hp->Prop,(∀σ' H',N σ' H'->∃m',m' < m/\W m' σ' H')/\tb { D with nx:=N,ct:=N,bk:=D.nx } σ H1 else D.nx σ H1
def iP {c:Expr}{body:List Stmt}{tc:TT}{tb:TS}(hp:PassesOwn (model X.prog X.w) X.A X.env X.xe)(hc:PT X c tc)(hb:z7 X body tb):PS X (.While c body [] pos) (Jv tc tb):=by
 intro ah s σ H D I h;obtain⟨W,⟨m0,w0⟩,turn⟩:=h;refine wpAny_While (codeAny_whileLoop (λn s'=>∃σ' H',Inv X ah σ' H' s'/\W n σ' H') ?_ m0 ⟨σ,H,I,w0⟩);rintro n s1 ⟨σ1,H1,I1,w1⟩;refine k7 hp (cS (hc ah s1 σ1 H1 _ I1 (turn n σ1 H1 w1)) λb s2 bh=>?_);obtain⟨H2,I2,q2⟩:=bh;cases b with
 | true =>
  obtain⟨N,hN,q2⟩:=q2;rw [az rfl];refine k7 hp (cS (hb ah s2 σ1 H2 _ I2 q2) λf s3 q3=>?_);cases f with
  | next =>
   obtain⟨σ3,H3,I3,n3⟩:=q3;obtain⟨m',hm,w3⟩:=hN σ3 H3 n3;exact⟨m',hm,σ3,H3,I3,w3⟩
  | cont =>
   obtain⟨σ3,H3,I3,n3⟩:=q3;obtain⟨m',hm,w3⟩:=hN σ3 H3 n3;exact⟨m',hm,σ3,H3,I3,w3⟩
  | brk=>exact q3
  | ret v=>exact q3
 | false =>
  rw [ay dJ];exact wpAny_execs_nil ⟨σ1,H2,I2,q2⟩
end
structure It where
 go:Nat->Hp->Prop
 mi:Nat->Hp->V->Hp->Prop
 stop:Nat->Hp->Prop
def rT (X:Cx)(ah:List (Addr×Obj))(H:Hp)(b:Addr):Prop :=
 H b=none/\b≠X.env.locals/\b∉X.fs/\(b∈X.ex\/X.s₀.heap.objs.size<=b)/\(∀x c,X.env.cells.lookup x=some c->c≠b)/\∀p∈X.pn++ah,p.1≠b
def Inv.ky {X:Cx}{ah:List (Addr×Obj)}{σ:St}{H H':Hp}{s:Shared}{b:Addr}(I:Inv X ah σ H s)(hb:s.heap.objs.size<=b)(hn:H' b=none):rT X ah H' b:=by
 refine⟨hn,jo (fP I.lt hb),I.R6 hb,.inr (dI I.sz hb),λx c e z=>?_,λp hp z=>?_⟩
 .obtain⟨v,q⟩:=I.cell x c e;exact absurd (fP q.lt (by rw [z];exact hb)) (jM _)
 exact absurd (fP (bc (I.pin p hp).1) (by rw [z];exact hb)) (jM _)
structure Turn (P:Program)(w:World)(K:aY)(tg:Expr)(J:It)(fp:List Addr)(it:Addr)(tn:Nat->Heap->Prop):Prop where
 mem:it∈fp
 obj:∀i h,tn i h->∀b∈fp,∃o,h.get? b=some o/\∀v,o.data≠.cell v
 keep:∀i h h',tn i h->(∀b∈fp,∀o,h.get? b=some o->h'.get? b=some o)->tn i h'
 item:∀(X:Cx),X.prog=P->X.w=w->X.K=K->X.calm=true->∀(i:Nat)(ah:List (Addr×Obj))(s:Shared)(σ:St)(H:Hp)(E:Value->Shared->Prop),Inv X ah σ H s->(∀b∈fp,rT X ah H b)->tn i s.heap->J.go i H ->
  wpAny (model P w) X.A (pyNext (.ref it)) (λr s1=>∃u,r=some u /\
   wpAny (model P w) X.A (letOwnedTupleGo tg (.ref it) u) (λ_ s2=>∃x H',Inv X ah σ H' s2/\RelV x u/\J.mi i H x H'/\tn (i+1) s2.heap/\∀b∈fp,H' b=none) E s1) E s
 done:∀(X:Cx),X.prog=P->X.w=w->X.K=K->X.calm=true->∀(i:Nat)(ah:List (Addr×Obj))(s:Shared)(σ:St)(H:Hp)(E:Value->Shared->Prop),Inv X ah σ H s->(∀b∈fp,rT X ah H b)->tn i s.heap->J.stop i H ->
  wpAny (model P w) X.A (pyNext (.ref it)) (λr s1=>r=none/\Inv X ah σ H s1) E s
 self:∀(A:Around) (i:Nat)(s:Shared)(Q:Value->Shared->Prop)(E:Value->Shared->Prop),tn i s.heap->Q (.ref it) s->wpAny (model P w) A (pyIter (.ref it)) Q E s
abbrev TI:=St->Hp->(It->Hp->Prop)->Prop
def Za (X:Cx)(ah:List (Addr×Obj))(σ:St)(tg:Expr)(R:It->Hp->Prop)(P8:Value)(s2:Shared):Prop :=
 ∃(it:Addr)(fp:List Addr)(tn:Nat->Heap->Prop)(J:It)(H':Hp),P8=.ref it/\Inv X ah σ H' s2/\Turn X.prog X.w X.K tg J fp it tn/\tn 0 s2.heap/\(∀b∈fp,rT X ah H' b)/\R J H'
def PI (X:Cx)(tg iter:Expr)(wi:TI):Prop :=
 ∀(ah:List (Addr×Obj))(s:Shared)(σ:St)(H:Hp)(R:It->Hp->Prop),Inv X ah σ H s->wi σ H R ->
  wpAny (model X.prog X.w) X.A (eval iter X.env) (λv s1=>wpAny (model X.prog X.w) X.A (pyIter v) (Za X ah σ tg R) X.xe s1) X.xe s
def AZ {M:Model}{A:Around}{E:Value->Shared->Prop}{s:Shared}{tg:Expr}{it:Addr}{u:Value}{o:Obj}{n:String}{vs:Array Value}{Q:Unit->Shared->Prop}(ho:s.heap.get? it=some o)(hc:o.cls=.type n)(hd:o.data=.fields vs)
  (hn:["enumerate","zip","dict_itemiterator","dict_reverseitemiterator","odict_iterator","itertools.zip_longest","itertools.pairwise"].contains n=false)(hQ:Q () s):wpAny M A (letOwnedTupleGo tg (.ref it) u) Q E s:=by
 unfold letOwnedTupleGo;cases tg <;> first
  | exact bj hQ
  | (cases u <;> first
    | exact bj hQ
    | (refine aA (wpAny_load ho ?_)
       rw [hc,hd];show wpAny M A (if (["enumerate","zip","dict_itemiterator","dict_reverseitemiterator","odict_iterator","itertools.zip_longest","itertools.pairwise"].contains n && vs[0]? == some (rawInt _))=true then _ else _) Q E s;rw [ay (by intro h;rw [hn,Bool.false_and] at h;cases h)];exact bj hQ))
def kW (K:aY)(a:Addr):It :=
 ⟨λi H=>∃xs x,aD K H a xs/\xs[i]?=some x,λi H x H'=>H'=H/\∀xs,aD K H a xs->xs[i]?=some x,λi H=>∃xs,aD K H a xs/\xs.length<=i⟩
def rR (K:aY)(a:Addr):It :=
 ⟨λi H=>∃xs x,ba K H a xs/\xs[i]?=some x,λi H x H'=>H'=H/\∀xs,ba K H a xs->xs[i]?=some x,λi H=>∃xs,ba K H a xs/\xs.length<=i⟩
def Ie (lo:Int) (n:Nat):It:=⟨λi _=>i < n,λi H x H'=>H'=H/\x=.int (lo+i),λi _=>n<=i⟩
def Bl {P:Program}{w:World}{K:aY}{tg:Expr}(a it:Addr):Turn P w K tg (kW K a) [it] it (λi h=>h.IsListIter it a i) where
 mem:=by simp
 obj:=λi h st b hb=>by
  have e:b=it:=by simpa using hb
  subst e;obtain⟨o,e,c,d⟩:=st;exact⟨o,e,λv z=>by rw [d] at z;cases z⟩
 keep:=λi h h' st k=>st.at λo e=>k it (by simp) o e
 item:=by
  intro X hP hw hK hc i ah s σ H E I hf st hg;subst hP hw hK;obtain⟨xs,x,hq,hx⟩:=hg;obtain⟨aJ,rv,p,hz⟩:=I.list hq;obtain⟨u,hu,ru⟩:=rv.get hx;obtain⟨f0,f1,f2,f3,f4,f5⟩:=hf it (by simp);refine wpAny_pyNext_list_item st p.isList (x:=u) (by simpa using hu) λh' vT sb=>?_;have I1:Inv X ah σ H { s with heap:=h' }:=I.turned (t':=s.toks) (λb o hb e=>(sb.2 b hb).trans e) f0 f1 f3 f4 f5;obtain⟨o,e,c,d⟩:=id vT;exact⟨u,rfl,AZ (s:={ s with heap:=h' }) e c d nofun ⟨x,H,I1,ru,⟨rfl,λys hy=>by rw [I.iS hy hq];exact hx⟩,vT,λb hb=>(hf b hb).1⟩⟩
 done:=by
  intro X hP hw hK hc i ah s σ H E I hf st hg;subst hP hw hK;obtain⟨xs,hq,hx⟩:=hg;obtain⟨aJ,rv,p,hz⟩:=I.list hq;obtain⟨f0,f1,f2,f3,f4,f5⟩:=hf it (by simp);have hl:=rv.length;exact uC (I.ok.hd hc) st p.isList (by simp;omega) λh' eb=>⟨rfl,I.turned (t':=s.toks) (λb o hb e=>eb b o hb e) f0 f1 f3 f4 f5⟩
 self:=λ_ _ _ _ _ st h=>wpAny_pyIter_listiter st h
def yh {P:Program}{w:World}{K:aY}{tg:Expr}(a it:Addr):Turn P w K tg (rR K a) [it] it (λi h=>h.IsTupleIter it a i) where
 mem:=by simp
 obj:=λi h st b hb=>by
  have e:b=it:=by simpa using hb
  subst e;obtain⟨o,e,c,d⟩:=st;exact⟨o,e,λv z=>by rw [d] at z;cases z⟩
 keep:=λi h h' st k=>st.at λo e=>k it (by simp) o e
 item:=by
  intro X hP hw hK hc i ah s σ H E I hf st hg;subst hP hw hK;obtain⟨xs,x,hq,hx⟩:=hg;obtain⟨aJ,rv,p,hz⟩:=I.tuple hq;obtain⟨u,hu,ru⟩:=rv.get hx;obtain⟨f0,f1,f2,f3,f4,f5⟩:=hf it (by simp);refine wpAny_pyNext_tuple_item st (show s.heap.IsTuple a aJ.toArray from p) (x:=u) (by simpa using hu) λh' vT sb=>?_;have I1:Inv X ah σ H { s with heap:=h' }:=I.turned (t':=s.toks) (λb o hb e=>(sb.2 b hb).trans e) f0 f1 f3 f4 f5;obtain⟨o,e,c,d⟩:=id vT;exact⟨u,rfl,AZ (s:={ s with heap:=h' }) e c d nofun ⟨x,H,I1,ru,⟨rfl,λys hy=>by rw [I.sQ hy hq];exact hx⟩,vT,λb hb=>(hf b hb).1⟩⟩
 done:=by
  intro X hP hw hK hc i ah s σ H E I hf st hg;subst hP hw hK;obtain⟨xs,hq,hx⟩:=hg;obtain⟨aJ,rv,p,hz⟩:=I.tuple hq;obtain⟨f0,f1,f2,f3,f4,f5⟩:=hf it (by simp);have hl:=rv.length;exact wpAny_pyNext_tuple_end (I.ok.hd hc) st (show s.heap.IsTuple a aJ.toArray from p) (by simp;omega) λh' eb=>⟨rfl,I.turned (t':=s.toks) (λb o hb e=>eb b o hb e) f0 f1 f3 f4 f5⟩
 self:=λ_ _ _ _ _ st h=>wpAny_pyIter_tupleiter st h
def yi {P:Program}{w:World}{K:aY}{tg:Expr}(it:Addr) (lo:Int) (n:Nat):Turn P w K tg (Ie lo n) [it] it (λi h=>IsRangeIter h it (lo+(i:Nat) * 1) ((n:Int) - (i:Nat)) 1) where
 mem:=by simp
 obj:=λi h st b hb=>by
  have e:b=it:=by simpa using hb
  subst e;exact⟨_,st,λv z=>by
   have z':Data.fields _=Data.cell v:=z;cases z'⟩
 keep:=λi h h' st k=>k it (by simp) _ st
 item:=by
  intro X hP hw hK hc i ah s σ H E I hf st hg;subst hP hw hK;obtain⟨f0,f1,f2,f3,f4,f5⟩:=hf it (by simp);have W:=Walks.range (prog:=X.prog) (w:=X.w) (I.ok.hd hc) it lo 1 n;refine W.item i s _ _ hg st λv h' tk hv vT kk=>?_;obtain⟨t,rfl⟩:=hv;have I1:Inv X ah σ H { s with heap:=h',toks:=tk }:=I.turned (λb o hb e=>kk b o (by simpa using hb) e) f0 f1 f3 f4 f5;refine⟨_,rfl,AZ (s:={ s with heap:=h',toks:=tk }) (n := "range_iterator") vT rfl rfl nofun ⟨.int (lo+i),H,I1,⟨t,?_⟩,⟨rfl,rfl⟩,vT,λb hb=>(hf b hb).1⟩⟩;rw [Int.mul_one]
 done:=by
  intro X hP hw hK hc i ah s σ H E I hf st hg;subst hP hw hK;obtain⟨f0,f1,f2,f3,f4,f5⟩:=hf it (by simp);exact wpAny_pyNext_range_end (I.ok.hd hc) st (by have:n<=i:=hg;omega) λh' eb=>⟨rfl,I.turned (t':=s.toks) (λb o hb e=>eb b o hb e) f0 f1 f3 f4 f5⟩
 self:=λ_ _ _ _ _ st h=>wpAny_pyIter_rangeiter st h
section
variable {X:Cx}{tg:Expr}
def N1 (K:aY)(tl:TE):TI:=λσ H R=>tl σ H λx H1=>QP x (λa=>∃xs,aD K H1 a xs) λa=>R (kW K a) H1
def SN (K:aY)(tl:TE):TI:=λσ H R=>tl σ H λx H1=>QP x (λa=>∃xs,ba K H1 a xs) λa=>R (rR K a) H1
def a9 {l:Expr}{tl:TE}(hl:PE X l tl):PI X tg l (N1 X.K tl):=by
 intro ah s σ H R I h;refine cS (hl ah s σ H _ I h) λv s1 bh=>?_;obtain⟨x,H1,I1,r1,q1⟩:=bh;obtain⟨a,e,⟨xs,hq⟩,q⟩:=q1;subst e;cases r1;obtain⟨aJ,rv,p,hz⟩:=I1.list hq;refine kI p.isList ?_;refine⟨s1.heap.objs.size,[s1.heap.objs.size],_,_,H1,rfl,I1.kept (t':=s1.toks) λb o e=>bZ _ e,Bl a _,⟨_,de _ rfl,rfl,rfl⟩,λb hb=>?_,q⟩;have e:b=s1.heap.objs.size:=by simpa using hb
 subst e;exact I1.ky (aL _) (I1.bU.fresh (aL _))
def iG {l:Expr}{tl:TE}(hl:PE X l tl):PI X tg l (SN X.K tl):=by
 intro ah s σ H R I h;refine cS (hl ah s σ H _ I h) λv s1 bh=>?_;obtain⟨x,H1,I1,r1,q1⟩:=bh;obtain⟨a,e,⟨xs,hq⟩,q⟩:=q1;subst e;cases r1;obtain⟨aJ,rv,p,hz⟩:=I1.tuple hq;refine ur (show s1.heap.IsTuple a aJ.toArray from p) ?_;refine⟨s1.heap.objs.size,[s1.heap.objs.size],_,_,H1,rfl,I1.kept (t':=s1.toks) λb o e=>bZ _ e,yh a _,⟨_,de _ rfl,rfl,rfl⟩,λb hb=>?_,q⟩;have e:b=s1.heap.objs.size:=by simpa using hb
 subst e;exact I1.ky (aL _) (I1.bU.fresh (aL _))
def DF {ah:List (Addr×Obj)}{σ:St}{H:Hp}{s:Shared}{R:It->Hp->Prop}{E:Value->Shared->Prop}{lo hi:Int}{t u v:Tok}{tk:Nat}(I:Inv X ah σ H s)(h1:-(2 ^ 62)<=lo)(h2:lo < 2 ^ 62)(h3:-(2 ^ 62)<=hi)(h4:hi < 2 ^ 62)
  (q:R (Ie lo (hi - lo).toNat) H):wpAny (model X.prog X.w) X.A (pyIter (.ref s.heap.objs.size)) (Za X ah σ tg R) E { s with heap:=s.heap.push { cls:=.type "range",data:=.fields #[.int lo t,.int hi u,.int 1 v] },toks:=tk }:=by
 refine wpAny_pyIter_range (IsRange.new ..) (small_one h1 h2 h3 h4) ?_;have I1:Inv X ah σ H { s with heap:=s.heap.push { cls:=.type "range",data:=.fields #[.int lo t,.int hi u,.int 1 v] },toks:=tk }:=I.kept λb o e=>bZ _ e;refine⟨(s.heap.push { cls:=.type "range",data:=.fields #[.int lo t,.int hi u,.int 1 v] }).objs.size,[(s.heap.push { cls:=.type "range",data:=.fields #[.int lo t,.int hi u,.int 1 v] }).objs.size],_,_,H,rfl,
  I1.kept (t':=tk) λb o e=>bZ _ e,yi _ lo (hi - lo).toNat,?_,λb hb=>?_,q⟩
 .have e1:lo+((0:Nat):Int) * 1=lo:=by simp
  have e2:(((hi - lo).toNat:Nat):Int) - ((0:Nat):Int)=Builtin.Range.rangeSize lo hi 1:=by rw [rangeSize_one];split <;> omega
  show IsRangeIter _ _ (lo+((0:Nat):Int) * 1) ((((hi - lo).toNat:Nat):Int) - ((0:Nat):Int)) 1;rw [e1,e2];exact de _ rfl
 have e:b=(s.heap.push { cls:=.type "range",data:=.fields #[.int lo t,.int hi u,.int 1 v] }).objs.size:=by simpa using hb
 subst e;exact I1.ky (aL _) (I1.bU.fresh (aL _))
def N0 (ta:TA):TI:=λσ H R=>ta σ H λvs H1=>YZ vs λj=>R (Ie 0 j.toNat) H1
def iQ {a:Expr}{ta:TA}{p pos:Pos}(hg:Gl X "range")(hm:X.mg "range"=none)(ha:PA X [a] ta)(hs:starEach [a] X.env=[(false,eval a X.env)]:=by rfl):PI X tg (.Call (.Name "range" p) [a] [] pos) (N0 ta):=by
 intro ah s σ H R I h;refine Call_ (ib I hg hm boot_range (v8 (cS (ha pos ah s σ H _ I h) λus s1 bh=>?_) hs rfl));obtain⟨vs,H1,I1,r1,q1⟩:=bh;obtain⟨j,e,q1,q2,q⟩:=q1;subst e;cases r1 with
 | cons r rr =>
  cases rr;obtain⟨t,rfl⟩:=r;exact call_range_1 (DF I1 ∅ ∅ q1 q2 (by simpa using q))
def Rm (wi:TI)(g:TG)(tb:TS):TS:=λD σ H=>wi σ H λJ H1=>∃W:Nat->Nat->St->Hp->Prop,(∃m,W 0 m σ H1)/\∀i m σ H,W i m σ H ->
 (J.stop i H/\D.nx σ H)\/(J.go i H/\∃N:St->Hp->Prop,(∀σ' H',N σ' H'->∃m',m' < m/\W (i+1) m' σ' H')/\∀x H',J.mi i H x H'->g x σ H' λσ2 H2=>tb { D with nx:=N,ct:=N,bk:=D.nx } σ2 H2)
def og (fp:List Addr)(h:Heap):List (Addr×Obj):=fp.filterMap λb=>(h.get? b).map λo=>(b,o)
def gH {fp:List Addr}{h:Heap}{b:Addr}{o:Obj}(hb:b∈fp)(e:h.get? b=some o):(b,o)∈og fp h:=ux.mpr ⟨b,hb,by rw [e];rfl⟩
def BM {fp:List Addr}{h:Heap}{p:Addr×Obj}(hp:p∈og fp h):p.1∈fp/\h.get? p.1=some p.2:=by
 obtain⟨b,hb,e⟩:=ux.mp hp;cases q:h.get? b with
 | none=>rw [q] at e;cases e
 | some o =>
  rw [q] at e;have e':(b,o)=p:=g6 e;subst e';exact⟨hb,q⟩
def Inv.pinned {ah:List (Addr×Obj)}{σ:St}{H:Hp}{s:Shared}{fp:List Addr}(I:Inv X ah σ H s)(hf:∀b∈fp,rT X ah H b)(ho:∀b∈fp,∃o,s.heap.get? b=some o/\∀v,o.data≠.cell v):Inv X (ah++og fp s.heap) σ H s :=
 I.AJ λp hp=>(aX.mp hp).elim (λz=>I.pin p (fX _ z)) λz=>by
  obtain⟨hb,e⟩:=BM z;obtain⟨f0,f1,f2,_⟩:=hf p.1 hb;obtain⟨o,e',d⟩:=ho p.1 hb;rw [e] at e';cases e';exact⟨e,f0,f1,f2,d⟩
def Inv.jP {ah pl:List (Addr×Obj)}{σ:St}{H:Hp}{s:Shared}(I:Inv X (ah++pl) σ H s):Inv X ah σ H s:=I.AJ λp hp=>I.pin p (fX _ (mf _ hp))
def cw {iter:Expr}{body:List Stmt}{wi:TI}{g:TG}{tb:TS}{pos:Pos}(hp:PassesOwn (model X.prog X.w) X.A X.env X.xe)(hc:X.calm=true)(hi:PI X tg iter wi)(hg:PG X tg g)(hb:z7 X body tb)
  (hs:∀x,foldedSetIterable iter X.env x=pure x:=by intro _;rfl):PS X (.For tg iter body [] pos) (Rm wi g tb):=by
 intro ah s σ H D I h;refine wpAny_For (cS (hi ah s σ H _ I h) λv s1 h1=>cS h1 λP8 s2 h2=>?_) hs;obtain⟨it,fp,tn,J,H2,e,I2,T,FN,f2,W,⟨m0,w0⟩,turn⟩:=h2;subst e;have qy:∀{H':Hp},(∀b∈fp,H' b=none)->∀b∈fp,rT X ah H' b:=λhn b hb=>⟨hn b hb,(f2 b hb).2⟩;refine codeAny_forLoop_any (λn s'=>∃i σ' H',Inv X ah σ' H' s'/\tn i s'.heap/\(∀b∈fp,H' b=none)/\W i n σ' H') ?_ m0 ⟨0,σ,H2,I2,FN,λb hb=>(f2 b hb).1,w0⟩;rintro n s3 ⟨i,σ3,H3,I3,Ng,XM,w3⟩;rcases turn i n σ3 H3 w3 with ⟨stop,qn⟩ | ⟨go,N,hN,step⟩
 .refine k7 hp (cS (T.done X rfl rfl rfl hc i ah s3 σ3 H3 X.xe I3 (qy XM) Ng stop) λr s4 ⟨hr,I4⟩=>?_);subst hr;exact wpAny_execs_nil ⟨σ3,H3,I4,qn⟩
 refine k7 hp (cS (T.item X rfl rfl rfl hc i ah s3 σ3 H3 X.xe I3 (qy XM) Ng go) λr s4 ⟨u,hr,h4⟩=>?_);subst hr;refine k7 hp (cS h4 λ_ s5 bh=>?_);obtain⟨x,H5,I5,r5,y5,yp,OS⟩:=bh;have I5':=I5.pinned (qy OS) (T.obj _ _ yp);refine k7 hp (cS (hg _ s5 σ3 H5 x u _ I5' r5 (step x H5 y5)) λ_ s6 bh=>?_);obtain⟨σ6,H6,I6,q6⟩:=bh;refine k7 hp (cS (hb _ s6 σ6 H6 _ I6 q6) λf s7 q7=>?_);have again:∀{σ7:St}{H7:Hp},Inv X (ah++og fp s5.heap) σ7 H7 s7->N σ7 H7->∃m,m < n/\∃i σ' H',Inv X ah σ' H' s7/\tn i s7.heap/\(∀b∈fp,H' b=none)/\W i m σ' H':=λ{σ7 H7} I7 n7=>by
  obtain⟨m',hm,w7⟩:=hN σ7 H7 n7;refine⟨m',hm,i+1,σ7,H7,I7.jP,T.keep _ _ _ yp λb hb o e=>(I7.pin (b,o) (fX _ (fX _ (gH hb e)))).1,λb hb=>?_,w7⟩;obtain⟨o,e,d⟩:=T.obj _ _ yp b hb;exact(I7.pin (b,o) (fX _ (fX _ (gH hb e)))).2.1
 cases f with
 | next=>obtain⟨σ7,H7,I7,n7⟩:=q7;exact again I7 n7
 | cont=>obtain⟨σ7,H7,I7,n7⟩:=q7;exact again I7 n7
 | brk=>obtain⟨σ7,H7,I7,q7⟩:=q7;exact⟨σ7,H7,I7.jP,q7⟩
 | ret v=>obtain⟨x7,σ7,H7,I7,r7,q7⟩:=q7;exact⟨x7,σ7,H7,I7.jP,r7,q7⟩
end
def eZ {K:aY}{a:Addr}{xs:List V}{g:TG}{tb:TS}{D:Ends}{σ:St}{H:Hp}(Pv:Nat->St->Hp->Prop)(h0:Pv 0 σ H)(hl:∀i σ H,i<=xs.length->Pv i σ H->aD K H a xs)
  (hs:∀i x σ H,xs[i]?=some x->Pv i σ H->g x σ H λσ2 H2=>tb { D with nx:=Pv (i+1),ct:=Pv (i+1),bk:=D.nx } σ2 H2)(hd:∀σ H,Pv xs.length σ H->D.nx σ H) :
  ∃W:Nat->Nat->St->Hp->Prop,(∃m,W 0 m σ H)/\∀i m σ H,W i m σ H ->
   ((kW K a).stop i H/\D.nx σ H)\/((kW K a).go i H/\∃N:St->Hp->Prop,(∀σ' H',N σ' H'->∃m',m' < m/\W (i+1) m' σ' H')/\∀x H',(kW K a).mi i H x H'->g x σ H' λσ2 H2=>tb { D with nx:=N,ct:=N,bk:=D.nx } σ2 H2):=by
 refine⟨λi m σ H=>m=xs.length - i/\i<=xs.length/\Pv i σ H,⟨xs.length,by simp,dD _,h0⟩,?_⟩;rintro i m σ H ⟨rfl,hi,p⟩;have q:=hl i σ H hi p;by_cases gT:i < xs.length
 .refine .inr ⟨⟨xs,xs[i],q,by simp [gT]⟩,Pv (i+1),λσ' H' p'=>⟨xs.length - (i+1),∅,rfl,gT,p'⟩,λx H' y=>?_⟩;obtain⟨e,y⟩:=y;subst e;exact hs i x σ _ (y xs q) p
 have e:i=xs.length:=by omega
 subst e;exact .inl ⟨⟨xs,q,aL _⟩,hd σ H p⟩
def vG {K:aY}{a:Addr}{xs:List V}{g:TG}{tb:TS}{D:Ends}{σ:St}{H:Hp}(Pv:Nat->St->Hp->Prop)(h0:Pv 0 σ H)(hl:∀i σ H,i<=xs.length->Pv i σ H->ba K H a xs)
  (hs:∀i x σ H,xs[i]?=some x->Pv i σ H->g x σ H λσ2 H2=>tb { D with nx:=Pv (i+1),ct:=Pv (i+1),bk:=D.nx } σ2 H2)(hd:∀σ H,Pv xs.length σ H->D.nx σ H) :
  ∃W:Nat->Nat->St->Hp->Prop,(∃m,W 0 m σ H)/\∀i m σ H,W i m σ H ->
   ((rR K a).stop i H/\D.nx σ H)\/((rR K a).go i H/\∃N:St->Hp->Prop,(∀σ' H',N σ' H'->∃m',m' < m/\W (i+1) m' σ' H')/\∀x H',(rR K a).mi i H x H'->g x σ H' λσ2 H2=>tb { D with nx:=N,ct:=N,bk:=D.nx } σ2 H2):=by
 refine⟨λi m σ H=>m=xs.length - i/\i<=xs.length/\Pv i σ H,⟨xs.length,by simp,dD _,h0⟩,?_⟩;rintro i m σ H ⟨rfl,hi,p⟩;have q:=hl i σ H hi p;by_cases gT:i < xs.length
 .refine .inr ⟨⟨xs,xs[i],q,by simp [gT]⟩,Pv (i+1),λσ' H' p'=>⟨xs.length - (i+1),∅,rfl,gT,p'⟩,λx H' y=>?_⟩;obtain⟨e,y⟩:=y;subst e;exact hs i x σ _ (y xs q) p
 have e:i=xs.length:=by omega
 subst e;exact .inl ⟨⟨xs,q,aL _⟩,hd σ H p⟩
def kj {lo:Int}{n:Nat}{g:TG}{tb:TS}{D:Ends}{σ:St}{H:Hp}(Pv:Nat->St->Hp->Prop)(h0:Pv 0 σ H)
  (hs:∀i σ H,i < n->Pv i σ H->g (.int (lo+i)) σ H λσ2 H2=>tb { D with nx:=Pv (i+1),ct:=Pv (i+1),bk:=D.nx } σ2 H2)(hd:∀σ H,Pv n σ H->D.nx σ H) :
  ∃W:Nat->Nat->St->Hp->Prop,(∃m,W 0 m σ H)/\∀i m σ H,W i m σ H ->
   ((Ie lo n).stop i H/\D.nx σ H)\/((Ie lo n).go i H/\∃N:St->Hp->Prop,(∀σ' H',N σ' H'->∃m',m' < m/\W (i+1) m' σ' H')/\∀x H',(Ie lo n).mi i H x H'->g x σ H' λσ2 H2=>tb { D with nx:=N,ct:=N,bk:=D.nx } σ2 H2):=by
 refine⟨λi m σ H=>m=n - i/\i<=n/\Pv i σ H,⟨n,by simp,dD _,h0⟩,?_⟩;rintro i m σ H ⟨rfl,hi,p⟩;by_cases gT:i < n
 .refine .inr ⟨gT,Pv (i+1),λσ' H' p'=>⟨n - (i+1),∅,rfl,gT,p'⟩,λx H' y=>?_⟩;obtain⟨e,y⟩:=y;subst e y;exact hs i σ _ gT p
 have e:i=n:=by omega
 subst e;exact .inl ⟨aL _,hd σ H p⟩
abbrev R2:=V->V->Hp->VK->Prop
def kU (X:Cx)(f:Value->Value->Sem Value)(r:R2):Prop :=
 ∀(ah:List (Addr×Obj))(s:Shared)(σ:St)(H:Hp)(x y:V)(v u:Value)(Q:VK),Inv X ah σ H s->RelV x v->RelV y u->r x y H Q ->
  wpAny (model X.prog X.w) X.A (f v u) (EP X ah σ Q) X.xe s
def VH (X:Cx)(f:Value->Sem Value)(r:V->Hp->VK->Prop):Prop :=
 ∀(ah:List (Addr×Obj))(s:Shared)(σ:St)(H:Hp)(x:V)(v:Value)(Q:VK),Inv X ah σ H s->RelV x v->r x H Q ->
  wpAny (model X.prog X.w) X.A (f v) (EP X ah σ Q) X.xe s
def eK (X:Cx)(f:Value)(r:List V->Hp->VK->Prop):Prop :=
 ∀(ah:List (Addr×Obj))(s:Shared)(σ:St)(H:Hp)(xs:List V)(us:List Value)(Q:VK),Inv X ah σ H s->aT xs us->r xs H Q ->
  wpAny (model X.prog X.w) X.A (call f us) (EP X ah σ Q) X.xe s
def VI (X:Cx)(r:V->Hp->(Bool->Hp->Prop)->Prop):Prop :=
 ∀(ah:List (Addr×Obj))(s:Shared)(σ:St)(H:Hp)(x:V)(v:Value)(Q:Bool->Hp->Prop),Inv X ah σ H s->RelV x v->r x H Q ->
  wpAny (model X.prog X.w) X.A (truthy v) (TP X ah σ Q) X.xe s
def PH (r:R2)(ta tb:TE):TE:=λσ H Q=>ta σ H λx H1=>tb σ H1 λy H2=>r x y H2 Q
def Zo (r:V->Hp->VK->Prop)(ta:TE):TE:=λσ H Q=>ta σ H λx H1=>r x H1 Q
def rI (C:Int->Int->Prop)(g:Int->Int->V):R2:=λx y H Q=>Y2 x y C λi j=>Q (g i j) H
def JY (g:Int->Int->V):R2:=λx y H Q=>Y3 x y λi j=>Q (g i j) H
def rU (g:Int->V):V->Hp->VK->Prop:=λx H Q=>VF x λi=>Q (g i) H
section
variable {X:Cx}{a b c:Expr}{ta tb tc:TE}{pos:Pos}
def Ly (ha:PE X a ta)(hb:PE X b tb){ah:List (Addr×Obj)}{s:Shared}{σ:St}{H:Hp}{R:V->V->Hp->Prop}(I:Inv X ah σ H s)
  (h:ta σ H λx H1=>tb σ H1 λy H2=>R x y H2){Q:Value->Shared->Prop}{f:Value->Value->Sem Value}
  (hf:∀v u s2 x y H2,Inv X ah σ H2 s2->RelV x v->RelV y u->R x y H2->wpAny (model X.prog X.w) X.A (f v u) Q X.xe s2) :
  wpAny (model X.prog X.w) X.A (eval a X.env) (λv s₁=>wpAny (model X.prog X.w) X.A (eval b X.env) (λu s₂=>wpAny (model X.prog X.w) X.A (f v u) Q X.xe s₂) X.xe s₁) X.xe s:=by
 refine cS (ha ah s σ H _ I h) λv s1 bh=>?_;obtain⟨x,H1,I1,r1,q1⟩:=bh;refine cS (hb ah s1 σ H1 _ I1 q1) λu s2 bh=>?_;obtain⟨y,H2,I2,r2,q2⟩:=bh;exact hf v u s2 x y H2 I2 r1 r2 q2
def aI {op:Operator}{r:R2}(ho:kU X (binaryOp op) r)(ha:PE X a ta)(hb:PE X b tb):PE X (.BinOp a op b pos) (PH r ta tb):=by
 intro ah s σ H Q I h;exact wpAny_BinOp (Ly ha hb I h λv u s2 x y H2 I2 rx ry q=>ho ah s2 σ H2 x y v u Q I2 rx ry q)
def qJ {op:UnaryOp}{r:V->Hp->VK->Prop}(ho:VH X (unaryOp op) r)(ha:PE X a ta):PE X (.UnaryOp op a pos) (Zo r ta):=by
 intro ah s σ H Q I h;refine UnaryOp_ (cS (ha ah s σ H _ I h) λv s1 bh=>?_);obtain⟨x,H1,I1,r1,q1⟩:=bh;exact ho ah s1 σ H1 x v Q I1 r1 q1
def RU {f:Value->Value->Sem Value}{C:Int->Int->Prop}{g:Int->Int->Int}
  (rule:∀(i j:Int)(t u:Tok)(s:Shared)(Q:Value->Shared->Prop)(E:Value->Shared->Prop),C i j->Q (.int (g i j) s.toks) { s with toks:=s.toks+1 }->wpAny (model X.prog X.w) X.A (f (.int i t) (.int j u)) Q E s) :
  kU X f (rI C λi j=>.int (g i j)):=by
 intro ah s σ H x y v u Q I rx ry h;obtain⟨i,j,rfl,rfl,hc,q⟩:=h;obtain⟨t,rfl⟩:=rx;obtain⟨t',rfl⟩:=ry;exact rule i j t t' s _ _ hc ⟨.int (g i j),H,I.tok _,⟨_,rfl⟩,q⟩
def Nx {f:Value->Value->Sem Value}{g:Int->Int->Int}
  (rule:∀(i j:Int)(t u:Tok)(s:Shared)(Q:Value->Shared->Prop)(E:Value->Shared->Prop),Q (.int (g i j) s.toks) { s with toks:=s.toks+1 }->wpAny (model X.prog X.w) X.A (f (.int i t) (.int j u)) Q E s) :
  kU X f (JY λi j=>.int (g i j)):=by
 intro ah s σ H x y v u Q I rx ry h;obtain⟨i,j,rfl,rfl,q⟩:=h;obtain⟨t,rfl⟩:=rx;obtain⟨t',rfl⟩:=ry;exact rule i j t t' s _ _ ⟨.int (g i j),H,I.tok _,⟨_,rfl⟩,q⟩
def Kc {f:Value->Value->Sem Value}{g:Int->Int->Bool}
  (rule:∀(i j:Int)(t u:Tok)(s:Shared)(Q:Value->Shared->Prop)(E:Value->Shared->Prop),Q (.bool (g i j)) s->wpAny (model X.prog X.w) X.A (f (.int i t) (.int j u)) Q E s) :
  kU X f (JY λi j=>.bl (g i j)):=by
 intro ah s σ H x y v u Q I rx ry h;obtain⟨i,j,rfl,rfl,q⟩:=h;obtain⟨t,rfl⟩:=rx;obtain⟨t',rfl⟩:=ry;exact rule i j t t' s _ _ ⟨.bl (g i j),H,I,rfl,q⟩
def VS (i j:Int):Prop:=0 < j/\j < 1073741824
def LN (i j:Int):Prop:=(-(2 ^ 64) < i/\i < 2 ^ 64)\/(-(2 ^ 64) < j/\j < 2 ^ 64)
def LN.ok {i j:Int}(h:LN i j):IntMulOk i j:=by
 rcases h with ⟨h1,h2⟩ | ⟨h1,h2⟩
 .exact .of_left (intBits_le_64 h1 h2)
 exact .of_right (intBits_le_64 h1 h2)
def dC:kU X (binaryOp .Add) (JY λi j=>.int (i+j)):=Nx λ_ _ _ _ _ _ _ q=>add_int q
def DV:kU X (binaryOp .Sub) (JY λi j=>.int (i - j)):=Nx λ_ _ _ _ _ _ _ q=>sub_int q
def yY:kU X (binaryOp .Mult) (rI LN λi j=>.int (i * j)):=RU λ_ _ _ _ _ _ _ hc q=>mul_int q hc.ok
def dM:kU X (binaryOp .FloorDiv) (rI VS λi j=>.int (i / j)):=RU λi j _ _ _ _ _ hc q=>by
 have h1:(0:Int) < j:=hc.1;have h2:j < 1073741824:=hc.2;exact floordiv_int ∅ (by rw [Int.fdiv_eq_ediv_of_nonneg i ∅];exact q) (.inl (PyProof.noPylong_small ∅))
def cz:kU X (binaryOp .Mod) (rI (λ_ j=>0 < j) λi j=>.int (i % j)):=RU λi j _ _ _ _ _ hc q=>by
 have h1:(0:Int) < j:=hc;exact mod_int' ∅ (by rw [Int.fmod_eq_emod_of_nonneg i ∅];exact q)
def Zl {f:Value->Sem Value}{g:Int->Int}
  (rule:∀(i:Int)(t:Tok)(s:Shared)(Q:Value->Shared->Prop)(E:Value->Shared->Prop),Q (.int (g i) s.toks) { s with toks:=s.toks+1 }->wpAny (model X.prog X.w) X.A (f (.int i t)) Q E s) :
  VH X f (rU λi=>.int (g i)):=by
 intro ah s σ H x v Q I rx h;obtain⟨i,rfl,q⟩:=h;obtain⟨t,rfl⟩:=rx;exact rule i t s _ _ ⟨.int (g i),H,I.tok _,⟨_,rfl⟩,q⟩
def lh:VH X (unaryOp .USub) (rU λi=>.int (-i)):=Zl λ_ _ _ _ _ q=>neg_int q
end
def JG:V->V->Bool
 | .d5,.d5=>true | .d5,.int _=>true | .int _,.d5=>true | .d5,.bl _=>true | .bl _,.d5=>true | .d5,.str _=>true | .str _,.d5=>true
 | .int _,.int _=>true | .bl _,.bl _=>true | .str _,.str _=>true | .z5 _,.z5 _=>true
 | .int _,.str _=>true | .str _,.int _=>true | .bl _,.str _=>true | .str _,.bl _=>true
 | _,_=>false
def ZO:R2:=λx y H Q=>JG x y=true/\Q (.bl (decide (x=y))) H
def ZM:R2:=λx y H Q=>JG x y=true/\Q (.bl (!decide (x=y))) H
def A9 {i j:Int}:decide (V.int i=V.int j)=(i == j):=by
 rw [il];simp
def Fg {i j:Bool}:decide (V.bl i=V.bl j)=(i == j):=by
 rw [il];simp
def A8 {i j:Str}:decide (V.str i=V.str j)=(i == j):=by
 rw [il];simp
def A_ {i j:Array UInt8}:decide (V.z5 i=V.z5 j)=(i.toList == j.toList):=by
 rw [il];cases i;cases j;simp
section
variable {X:Cx}{a b c:Expr}{ta tb tc:TE}{pos:Pos}
def cm {ah:List (Addr×Obj)}{σ:St}{H:Hp}{s:Shared}{Q:VK}{k k':Bool}(I:Inv X ah σ H s)(q:Q (.bl k) H)(e:k=k'):EP X ah σ Q (.bool k') s:=by
 subst e;exact⟨.bl k,H,I,rfl,q⟩
def mQ:kU X (compareOp .Eq) ZO:=by
 intro ah s σ H x y v u Q I rx ry h;obtain⟨hs,q⟩:=h;cases x with
 | d5 =>
  cases rx;cases y with
  | d5=>cases ry;exact PySem.EqNone.eq_none_none (cm I q (by simp))
  | bl j=>cases ry;exact PySem.EqNone.eq_none_bool (cm I q (by simp))
  | int j=>obtain⟨t',rfl⟩:=ry;exact PySem.EqNone.eq_none_int (cm I q (by simp))
  | str j=>obtain⟨t',rfl⟩:=ry;exact PySem.EqNone.eq_none_str (cm I q (by simp))
  | _=>exact absurd (show false=true from hs) dJ
 | bl i =>
  cases rx;cases y with
  | d5=>cases ry;exact PySem.EqNone.eq_bool_none (cm I q (by simp))
  | bl j=>cases ry;exact eq_bool (cm I q Fg)
  | str j=>obtain⟨t',rfl⟩:=ry;exact PySem.EqMixed.eq_bool_str (cm I q (by simp))
  | _=>exact absurd (show false=true from hs) dJ
 | int i =>
  obtain⟨t,rfl⟩:=rx;cases y with
  | d5=>cases ry;exact PySem.EqNone.eq_int_none (cm I q (by simp))
  | int j=>obtain⟨t',rfl⟩:=ry;exact eq_int (cm I q A9)
  | str j=>obtain⟨t',rfl⟩:=ry;exact PySem.EqMixed.eq_int_str (cm I q (by simp))
  | _=>exact absurd (show false=true from hs) dJ
 | str i =>
  obtain⟨t,rfl⟩:=rx;cases y with
  | d5=>cases ry;exact PySem.EqNone.eq_str_none (cm I q (by simp))
  | bl j=>cases ry;exact PySem.EqMixed.eq_str_bool (cm I q (by simp))
  | int j=>obtain⟨t',rfl⟩:=ry;exact PySem.EqMixed.eq_str_int (cm I q (by simp))
  | str j=>obtain⟨t',rfl⟩:=ry;exact eq_str (cm I q A8)
  | _=>exact absurd (show false=true from hs) dJ
 | z5 i =>
  obtain⟨t,rfl⟩:=rx;cases y with
  | z5 j=>obtain⟨t',rfl⟩:=ry;exact PySem.W.eq_bytes (cm I q A_)
  | _=>exact absurd (show false=true from hs) dJ
 | _=>cases y <;> exact absurd (show false=true from hs) dJ
def IA:kU X (compareOp .NotEq) ZM:=by
 intro ah s σ H x y v u Q I rx ry h;obtain⟨hs,q⟩:=h;cases x with
 | d5 =>
  cases rx;cases y with
  | d5=>cases ry;exact PySem.EqNone.ne_none_none (cm I q (by simp))
  | bl j=>cases ry;exact PySem.EqNone.ne_none_bool (cm I q (by simp))
  | int j=>obtain⟨t',rfl⟩:=ry;exact PySem.EqNone.ne_none_int (cm I q (by simp))
  | str j=>obtain⟨t',rfl⟩:=ry;exact PySem.EqNone.ne_none_str (cm I q (by simp))
  | _=>exact absurd (show false=true from hs) dJ
 | bl i =>
  cases rx;cases y with
  | d5=>cases ry;exact PySem.EqNone.ne_bool_none (cm I q (by simp))
  | bl j=>cases ry;exact ne_bool (cm I q (congrArg not Fg))
  | str j=>obtain⟨t',rfl⟩:=ry;exact PySem.EqMixed.ne_bool_str (cm I q (by simp))
  | _=>exact absurd (show false=true from hs) dJ
 | int i =>
  obtain⟨t,rfl⟩:=rx;cases y with
  | d5=>cases ry;exact PySem.EqNone.ne_int_none (cm I q (by simp))
  | int j=>obtain⟨t',rfl⟩:=ry;exact ne_int (cm I q (congrArg not A9))
  | str j=>obtain⟨t',rfl⟩:=ry;exact PySem.EqMixed.ne_int_str (cm I q (by simp))
  | _=>exact absurd (show false=true from hs) dJ
 | str i =>
  obtain⟨t,rfl⟩:=rx;cases y with
  | d5=>cases ry;exact PySem.EqNone.ne_str_none (cm I q (by simp))
  | bl j=>cases ry;exact PySem.EqMixed.ne_str_bool (cm I q (by simp))
  | int j=>obtain⟨t',rfl⟩:=ry;exact PySem.EqMixed.ne_str_int (cm I q (by simp))
  | str j=>obtain⟨t',rfl⟩:=ry;exact ne_str (cm I q (congrArg not A8))
  | _=>exact absurd (show false=true from hs) dJ
 | z5 i =>
  obtain⟨t,rfl⟩:=rx;cases y with
  | z5 j=>obtain⟨t',rfl⟩:=ry;exact PySem.W.ne_bytes (cm I q (congrArg not A_))
  | _=>exact absurd (show false=true from hs) dJ
 | _=>cases y <;> exact absurd (show false=true from hs) dJ
def mP:kU X (compareOp .Lt) (JY λi j=>.bl (decide (i < j))):=Kc λ_ _ _ _ _ _ _ q=>lt_int q
def Nw:kU X (compareOp .LtE) (JY λi j=>.bl (decide (i<=j))):=Kc λ_ _ _ _ _ _ _ q=>le_int q
def wL:kU X (compareOp .Gt) (JY λi j=>.bl (decide (j < i))):=Kc λ_ _ _ _ _ _ _ q=>gt_int q
def kU.or {f:Value->Value->Sem Value}{r r':R2}(h:kU X f r)(h':kU X f r'):kU X f (λx y H Q=>r x y H Q\/r' x y H Q):=by
 intro ah s σ H x y v u Q I rx ry q;rcases q with q | q
 .exact h ah s σ H x y v u Q I rx ry q
 exact h' ah s σ H x y v u Q I rx ry q
def cf (b:Expr){op:CmpOp}(h:op≠.In:=by decide)(h2:op≠.NotIn:=by decide):behindInMarks op b=false:=by
 have e1:(op == CmpOp.In)=false:=by cases op <;> first | rfl | exact absurd rfl h
 have e2:(op == CmpOp.NotIn)=false:=by cases op <;> first | rfl | exact absurd rfl h2
 cases b <;> simp [behindInMarks,e1,e2]
def jf {op:CmpOp}{r:R2}(ho:kU X (compareOp op) r)(ha:PE X a ta)(hb:PE X b tb)(hm:behindInMarks op b=false):PE X (.Compare a [op] [b] pos) (PH r ta tb):=by
 intro ah s σ H Q I h;exact wpAny_Compare1 (Ly ha hb I h λv u s2 x y H2 I2 rx ry q=>ho ah s2 σ H2 x y v u Q I2 rx ry q) hm
def MV (t:TE):TT:=λσ H Q=>t σ H λx H'=>XB x λk=>Q k H'
def bB {op:CmpOp}{r:R2}(ho:kU X (compareOp op) r)(ha:PE X a ta)(hb:PE X b tb)(hm:behindInMarks op b=false):PT X (.Compare a [op] [b] pos) (MV (PH r ta tb)):=by
 intro ah s σ H Q I h;refine wpAny_isTrue_Compare1 (cS (ha ah s σ H _ I h) λv s1 ⟨x,H1,I1,r1,q1⟩=>cS (hb ah s1 σ H1 _ I1 q1) λu s2 ⟨y,H2,I2,r2,q2⟩ =>
  cS (ho ah s2 σ H2 x y v u _ I2 r1 r2 q2) λc s3 ⟨z,H3,I3,r3,k,e,q3⟩=>?_) hm
 subst e;cases r3;exact oQ ⟨H3,I3,q3⟩
def CB (K:aY)(x:V)(H:Hp)(k:Bool):Prop :=
 match x with
 | .d5=>k=false
 | .bl b=>k=b
 | .int i=>k=(i != 0)
 | .str y=>y.length<=sizeLine/\k=((y.length:Int) != 0)
 | .z5 y=>y.size<=sizeLine/\k=((y.size:Int) != 0)
 | .ref p=>(∃xs,aD K H p xs/\k=!xs.isEmpty)\/(∃xs,ba K H p xs/\k=!xs.isEmpty)\/∃kvs,H p=some (.dK kvs)/\k=!kvs.isEmpty
 | _=>False
def zA {κ:Type}{kvs:List (κ×V)}{vs:List (κ×Value)}(r:KV kvs vs):(!vs.isEmpty)=!kvs.isEmpty:=by
 cases r <;> rfl
def qU {xs:List V}{aJ:List Value}(r:aT xs aJ):(!aJ.toArray.isEmpty)=!xs.isEmpty:=by
 cases r <;> simp
def jX:(sizeLine:Nat) < 2 ^ 63:=by rw [sizeLine_eq];decide
def Ju:VI X (λx H Q=>∃k,CB X.K x H k/\Q k H):=by
 intro ah s σ H x v Q I rx h;obtain⟨k,e,q⟩:=h;have hl:=jX;have hs:sizeLine=16777216:=sizeLine_eq;cases x with
 | d5 =>
  cases rx;have e':k=false:=e;subst e';exact truthy_none ⟨H,I,q⟩
 | bl b =>
  cases rx;have e':k=b:=e;subst e';exact oQ ⟨H,I,q⟩
 | int i =>
  obtain⟨t,rfl⟩:=rx;have e':k=(i != 0):=e;subst e';exact PySem.P.truthy_int ⟨H,I,q⟩
 | str y =>
  obtain⟨t,rfl⟩:=rx;obtain⟨hy,e'⟩:y.length<=sizeLine/\k=((y.length:Int) != 0):=e;subst e';exact PySem.P.truthy_str ∅ ⟨H,I.tok _,q⟩
 | z5 y =>
  obtain⟨t,rfl⟩:=rx;obtain⟨hy,e'⟩:y.size<=sizeLine/\k=((y.size:Int) != 0):=e;subst e';exact PySem.W.truthy_bytes ∅ ⟨H,I.tok _,q⟩
 | ref p =>
  cases rx;have e':(∃xs,aD X.K H p xs/\k=!xs.isEmpty)\/(∃xs,ba X.K H p xs/\k=!xs.isEmpty)\/∃kvs,H p=some (.dK kvs)/\k=!kvs.isEmpty:=e;rcases e' with ⟨xs,hx,e'⟩ | ⟨xs,hx,e'⟩ | ⟨kvs,hx,e'⟩
  .subst e';obtain⟨aJ,r,pl,hz⟩:=I.list hx;have bM:=r.length;exact wpAny_truthy_list pl.isList (by simp only [bO];omega) ⟨H,I.tok _,by rw [qU r];exact q⟩
  .subst e';obtain⟨aJ,r,pl,hz⟩:=I.tuple hx;have bM:=r.length;exact truthy_tuple pl (by simp only [bO];omega) ⟨H,I.tok _,by rw [qU r];exact q⟩
  subst e';obtain⟨hz,hS,vs,r,m⟩:kvs.length<=sizeLine/\(p == sysModules)=false/\∃vs,KV kvs vs/\s.heap.DictOf (a7 X.prog X.w) p vs:=I.bU p _ hx;have bM:kvs.length=vs.length:=bK r;exact wpAny_truthy_dict hS m ∅ ⟨H,I.tok _,by rw [zA r];exact q⟩
 | _=>exact(show False from e).elim
def hZ (ha:PE X a ta)(he:∀whole,isTrue a X.env whole=(do let v <-whole;standAt a.pos;holding [v] (truthy v))) :
  PT X a (λσ H Q=>ta σ H λx H'=>∃k,CB X.K x H' k/\Q k H'):=by
 intro ah s σ H Q I h;refine isTrue_plain (cS (ha ah s σ H _ I h) λv s1 bh=>?_) (he _);obtain⟨x,H1,I1,r1,q1⟩:=bh;exact Ju ah s1 σ H1 x v Q I1 r1 q1
def dX:kU X (binaryOp .Add) (λx y H Q=>∃i j,x=.str i/\y=.str j/\i.length+j.length<=sizeLine/\Q (.str (i++j)) H):=by
 intro ah s σ H x y v u Q I rx ry h;obtain⟨i,j,rfl,rfl,hz,q⟩:=h;obtain⟨t,rfl⟩:=rx;obtain⟨t',rfl⟩:=ry;exact add_str (λt' tk=>⟨.str (i++j),H,I.tok _,⟨_,rfl⟩,q⟩) hz
def vals1 {x:V}{us:List Value}(r:aT [x] us):∃u,us=[u]/\RelV x u:=by
 cases r with
 | cons r1 r2=>cases r2;exact⟨_,rfl,r1⟩
def vals2 {x y:V}{us:List Value}(r:aT [x,y] us):∃u w',us=[u,w']/\RelV x u/\RelV y w':=by
 cases r with
 | cons r1 r2 =>
  cases r2 with
  | cons r3 r4=>cases r4;exact⟨_,_,rfl,r1,r3⟩
def ub (hc:X.calm=true):eK X (.builtin "max") (λxs H Q=>∃i j,xs=[.int i,.int j]/\Q (.int (if j > i then j else i)) H):=by
 intro ah s σ H xs us Q I r h;obtain⟨i,j,rfl,q⟩:=h;obtain⟨u,w',rfl,⟨t,rfl⟩,⟨t',rfl⟩⟩:=vals2 r;refine max_two_ints (I.ok.hd hc) λh' tk k=>⟨_,H,I.kept k,?_,q⟩;by_cases hj:j > i
 .rw [az hj,az hj];exact⟨_,rfl⟩
 rw [ay hj,ay hj];exact⟨_,rfl⟩
end
structure z8 (h:Heap)(x dx C:Addr)(mA:Str->Option Value):Prop where
 obj:h.get? x=some (PySem.W.instObj C dx)
 ns:h.Ns1 dx mA
 ne:dx≠x
def B1 {h:Heap}{dx:Addr}{mA:Str->Option Value}(n:h.Ns1 dx mA):∃od,h.get? dx=some od/\∀name,PySem.W.lookIn name od=some (mA name):=by
 obtain⟨o,es,ep,ho,hd,hk,_,hm⟩:=n;refine⟨o,ho,λname=>?_⟩;have e:=hm name;unfold nsFind findBy at e;rw [<-Array.find?_toList] at e;unfold PySem.W.lookIn;rw [hd];dsimp only
 split
 .rename_i y q
  rw [q] at e;exact congrArg some e
 rename_i q
 rw [q] at e;have a:es.toList.any (·.refKey)=false:=by
  rw [List.any_eq_false];intro y hy;obtain⟨z,t,TN⟩:=hk y (Array.mem_toList_iff.mp hy);simp [DictEntry.refKey,TN]
 have a':¬es.toList.any (·.refKey)=true:=by rw [a];exact dJ
 rw [ay a'];exact congrArg some e
def z8.look {h:Heap}{x dx C:Addr}{mA:Str->Option Value}(I:z8 h x dx C mA):∃od,PySem.W.InstAt h x (PySem.W.instObj C dx) C (some od)/\∀name,PySem.W.lookIn name od=some (mA name) :=
 let ⟨od,ho,hl⟩:=B1 I.ns
 ⟨od,⟨I.obj,rfl,rfl,ho⟩,hl⟩
section
variable {prog:Program}{w:World}{A:Around}{E:Value->Shared->Prop}{s:Shared}{K:aY}{x dx C f:Addr}{mA:Str->Option Value}{name:Str}{v:Value}
def get_map {expr:Bool}{Q:Value->Shared->Prop}(X:K.In s.heap)(I:z8 s.heap x dx C mA)(hg:PySem.W.plainGet K C name=true)(hh:PySem.W.hasDictIn K C=true)
  (ha:PySem.W.findIn K (.ref C) name=some none)(hv:mA name=some v)(hv':PySem.W.handedIn v=true)(h:Q v { s with toks:=s.toks+1 }) :
  wpAny (model prog w) A (getAttr (.ref x) name expr) Q E s:=by
 obtain⟨od,J,hl⟩:=I.look;exact PySem.W.get_value X J (PySem.W.plainGet_of hg).1 (PySem.W.findObj_own hh ha rfl (by rw [hl,hv])) hv' h
def E4 {pl:Sem Bool}{Q:Value×List Value->Shared->Prop}(X:K.In s.heap)(I:z8 s.heap x dx C mA)(hg:PySem.W.plainGet K C name=true)
  (hf:PySem.W.findIn K (.ref C) name=some (some (.ref f)))(ht:PySem.W.isFn K (.ref f)=true)(hv:mA name=none)(h:Q (.ref f,[.ref x]) s) :
  wpAny (model prog w) A (getMethod (.ref x) name pl) Q E s:=by
 obtain⟨od,J,hl⟩:=I.look;exact PySem.W.method_fn X J (PySem.W.plainGet_of hg).1 (PySem.W.plainGet_of hg).2 hf (beq_iff_eq.mp ht) (by show (PySem.W.lookIn name od).map (·.isSome)=some false;rw [hl,hv];rfl) h
def Gs {ns:List Str}{Q:Unit->Shared->Prop}(X:K.In s.heap)(I:z8 s.heap x dx C mA)
  (hs:PySem.W.findIn K (.ref C) "__setattr__"=some (some (.builtin "object.__setattr__")))(hp:PySem.W.plainOver K C=true)(ht:PySem.W.takerIn K C name=some none)(hh:PySem.W.hasDictIn K C=true)
  (hw:PySem.Within mA ns)(hsz:ns.length<=sizeLine)
  (h:∀h',z8 h' x dx C (λy=>if y=name then some v else mA y)->Heap.SameBut dx s.heap h'->Q () { s with heap:=h',toks:=s.toks+2 }) :
  wpAny (model prog w) A (setAttr (.ref x) name v) Q E s:=by
 obtain⟨od,J,hl⟩:=I.look;refine PySem.W.set_plain X J hs (PySem.W.osa_open (s:={ s with toks:=s.toks+1 }) (r:=none) X J hp ht λb=>?_);obtain⟨cd,hc,Ca⟩:=PySem.W.any_some hh;have hx:s.heap.get? x=some ⟨.ref C,some dx,.plain,#[]⟩:=I.obj;refine aA (bj (aA (aA (wpAny_loadPart hx (aA (PySem.W.Looks.here (s:={ s with toks:=s.toks+1 }) (PySem.W.looks_clsIn X hc) ?_))))));rw [Ca];refine bj (a:=some dx) (aA (bj (aA ?_)));refine wpAny_nsSet1 (s:={ s with toks:=s.toks+1 }) I.ns λh' IU Oe=>?_;obtain⟨oD,esD,epD,hoD,hdD,hcD⟩:=IU.count (PySem.Within.cons name v hw);refine aA (wpAny_lookBehind hoD (by rw [hdD];exact pastItsLine_dict (dI hcD (by rw [bV];omega))) ?_);exact bj (h _ ⟨(Oe.2 _ (fY I.ne)).trans I.obj,IU,I.ne⟩ Oe)
def Ez {R:Result->Shared->Prop}{vs:List Value}{kw:List (Str×Value)}(X:K.In s.heap)(hm:PySem.W.makesIn K C=true)
  (hi:PySem.W.findIn K (.ref C) "__init__"=some (some (.ref f)))(hf:PySem.W.typeIn K (.ref f)=some (.type "function"))
  (h:codeAny (model prog w) (A.under (.builtin "type.__call__" ⟨.ref C::vs,kw⟩)) (.call (.ref f) ⟨.ref (s.heap.objs.size+1)::vs,kw⟩) (PySem.W.InitBack (s.heap.objs.size+1) R)
   { s with heap:=(s.heap.push PySem.W.emptyDict).push (PySem.W.instObj C s.heap.objs.size) }) :
  codeAny (model prog w) A (.call (.ref C) ⟨vs,kw⟩) R s:=by
 obtain⟨hh,g,d,t,os⟩:=s;exact PySem.W.make_core (PySem.W.makes_of X hm) (PySem.W.looks_findIn X hi) (λself=>PySem.W.bind_fn X self hf) (.inl rfl) h
end
def dN (f:Str)(v:V):List (Str×V)->List (Str×V)
 | []=>[(f,v)]
 | (g,x)::r=>if g=f then (g,v)::r else (g,x)::dN f v r
theorem o6 (f g:Str)(v:V):∀fs:List (Str×V),(dN f v fs).lookup g=if g=f then some v else fs.lookup g
 | []=>by
  show List.lookup g [(f,v)]=_;by_cases h:g=f
  .have hb:(g == f)=true:=beq_iff_eq.mpr h;simp only [List.lookup,hb,az h]
  have hb:(g == f)=false:=jt.mpr h;simp only [List.lookup,hb,ay h]
 | (k,x)::r=>by
  have ih:=o6 f g v r;rw [show dN f v ((k,x)::r)=(if k=f then (k,v)::r else (k,x)::dN f v r) from rfl];by_cases hk:k=f
  .rw [az hk];by_cases h:g=k
   .have hb:(g == k)=true:=beq_iff_eq.mpr h;simp only [List.lookup,hb,az (h.trans hk)]
   have hb:(g == k)=false:=jt.mpr h;simp only [List.lookup,hb,ay (λe:g=f=>h (e.trans hk.symm))]
  rw [ay hk];by_cases h:g=k
  .have hb:(g == k)=true:=beq_iff_eq.mpr h;simp only [List.lookup,hb,ay (λe:g=f=>hk (h.symm.trans e))]
  have hb:(g == k)=false:=jt.mpr h;simp only [List.lookup,hb];exact ih
theorem oo (f:Str)(v:V):∀fs:List (Str×V),f∈(dN f v fs).map (·.1)/\∀g,g∈fs.map (·.1)->g∈(dN f v fs).map (·.1)
 | []=>⟨by simp [dN],λg h=>by simp at h⟩
 | (k,x)::r=>by
  obtain⟨i1,i2⟩:=oo f v r;rw [show dN f v ((k,x)::r)=(if k=f then (k,v)::r else (k,x)::dN f v r) from rfl];by_cases hk:k=f
  .rw [az hk];subst hk;exact⟨by simp,λg h=>by simpa using h⟩
  rw [ay hk];refine⟨?_,λg h=>?_⟩
  .rw [br];exact cJ _ i1
  rw [br] at h ⊢;rcases aW.mp h with e | e
  .exact aW.mpr (.inl e)
  exact cJ _ (i2 g e)
theorem o7 (f:Str)(v:V):∀fs:List (Str×V),(dN f v fs).length<=fs.length+1
 | []=>by simp [dN]
 | (k,x)::r=>by
  have ih:=o7 f v r;rw [show dN f v ((k,x)::r)=(if k=f then (k,v)::r else (k,x)::dN f v r) from rfl];by_cases hk:k=f
  .rw [az hk,bV,bV];omega
  rw [ay hk,bV,bV];omega
def jk.some_of {v:V}{o:Option Value}(r:jk (some v) o):∃u,o=some u/\RelV v u:=by
 cases o with
 | none=>exact(show False from r).elim
 | some u=>exact⟨u,rfl,r⟩
def jk.none_of {o:Option Value}(r:jk none o):o=none:=by
 cases o with
 | none=>rfl
 | some u=>exact(show False from r).elim
def Cb {v:V}{u:Value}(r:RelV v u):PySem.W.handedIn u=true:=by
 cases v with
 | d5=>cases (show u=Value.none from r);rfl
 | bl b=>cases (show u=Value.bool b from r);rfl
 | int i=>obtain⟨t,e⟩:=(show ∃t,u=Value.int i t from r);cases e;rfl
 | str x=>obtain⟨t,e⟩:=(show ∃t,u=Value.str x t from r);cases e;rfl
 | z5 b=>obtain⟨t,e⟩:=(show ∃t,u=Value.bytes b t from r);cases e;rfl
 | Li b=>obtain⟨t,e⟩:=(show ∃t,u=Value.float b t from r);cases e;rfl
 | ref a=>cases (show u=Value.ref a from r);rfl
 | ty n=>cases (show u=Value.type n from r);rfl
section
variable {P:Program}{w:World}{H H':Hp}{h h':Heap}{a C dx:Addr}{fs F5:List (Str×V)}
def vA (bU:kX P w H h)(e:H a=some (.ins C dx fs)):∃mA,z8 h a dx C mA/\(∀f,jk (fs.lookup f) (mA f))/\PySem.Within mA (fs.map (·.1))/\fs.length<=1000/\H dx=some (.own a):=by
 obtain⟨d,z,ne,ob,mA,n,r,q⟩:=(show cC P w H h a (.ins C dx fs) from bU a _ e);exact⟨mA,⟨ob,n,ne⟩,r,q,z,d⟩
end
structure Bj (K:aY)(C:Addr):Prop where
 pg:PySem.W.plainGet K C Str.empty=true
 hd:PySem.W.hasDictIn K C=true
 po:PySem.W.plainOver K C=true
 sa:PySem.W.findIn K (.ref C) "__setattr__"=some (some (.builtin "object.__setattr__"))
def Bj.get {K:aY}{C:Addr}(c:Bj K C)(f:Str):PySem.W.plainGet K C f=true:=c.pg
def dQ (K:aY)(C:Addr)(f:Str):Prop:=PySem.W.findIn K (.ref C) f=some none
def dQ.MT {K:aY}{C:Addr}{f:Str}(n:dQ K C f):PySem.W.takerIn K C f=some none:=by
 unfold PySem.W.takerIn;rw [show PySem.W.findIn K (.ref C) f=some none from n];rfl
structure Con (K:aY)(C:Addr)(f:Str)(v:V)(u:Value):Prop where
 at_:PySem.W.findIn K (.ref C) f=some (some u)
 rel:RelV v u
 get:PySem.W.specialIn K u "__get__"=some none
 cp:PySem.W.copiedNames.contains f=false
structure Meth (K:aY)(C:Addr)(m:Str)(f:Addr):Prop where
 at_:PySem.W.findIn K (.ref C) m=some (some (.ref f))
 fn:PySem.W.isFn K (.ref f)=true
 kp:PySem.W.keepIn K (.ref f)=true
section
variable {X:Cx}{ah:List (Addr×Obj)}{σ:St}{H:Hp}{s:Shared}{a C dx:Addr}{fs:List (Str×V)}{f:Str}{v:V}{A:Around}{E:Value->Shared->Prop}
def zM {b:Bool}{Q:Value->Shared->Prop}(I:Inv X ah σ H s)(e:H a=some (.ins C dx fs))(c:Bj X.K C)(n:dQ X.K C f)(l:fs.lookup f=some v)
  (h:∀u s',Inv X ah σ H s'->RelV v u->Q u s'):wpAny (model X.prog X.w) A (getAttr (.ref a) f b) Q E s:=by
 obtain⟨mA,O,r,_,_,_⟩:=vA I.bU e;obtain⟨u,hu,ru⟩:=jk.some_of (v:=v) (o:=mA f) (by rw [<-l];exact r f);exact get_map I.sC O (c.get f) c.hd n hu (Cb ru) (h u _ (I.tok _) ru)
def lQ {m:Str}{g:Addr}{pl:Sem Bool}{Q:Value×List Value->Shared->Prop}(I:Inv X ah σ H s)(e:H a=some (.ins C dx fs))(c:Bj X.K C)(k:Meth X.K C m g)(l:fs.lookup m=none)
  (h:Q (.ref g,[.ref a]) s):wpAny (model X.prog X.w) A (getMethod (.ref a) m pl) Q E s:=by
 obtain⟨mA,O,r,_,_,_⟩:=vA I.bU e;have hn:mA m=none:=jk.none_of (by rw [<-l];exact r m);exact E4 I.sC O (c.get m) k.at_ k.fn hn h
def yt {y:V}{u:Value}{Q:Unit->Shared->Prop}(I:Inv X ah σ H s)(e:H a=some (.ins C dx fs))(c:Bj X.K C)(n:dQ X.K C f)(hl:fs.length < 1000)(ry:RelV y u)
  (h:∀s',Inv X ah σ (upd H a (.ins C dx (dN f y fs))) s'->Q () s'):wpAny (model X.prog X.w) A (setAttr (.ref a) f u) Q E s:=by
 obtain⟨mA,O,r,wi,_,ho⟩:=vA I.bU e;have hz:(fs.map (·.1)).length<=sizeLine:=by rw [av,sizeLine_eq];omega
 refine Gs I.sC O c.sa c.po n.MT c.hd wi hz λh' O' sb=>h _ ?_;have hd:∃o,h'.get? dx=some o:=let ⟨o,_,_,e',_⟩:=O'.ns;⟨o,e'⟩;refine I.write (x:=a) (e:=dx) (by rw [e];exact True.intro) (.inr ho) (λb q hb z=>(sb.2 b hb).trans z) hd ?_;refine⟨by rw [ai O.ne];exact ho,?_,O.ne,O'.obj,_,O'.ns,λg=>?_,λg hg=>?_⟩
 .have:=o7 f y fs;omega
 .show jk ((dN f y fs).lookup g) (if g=f then some u else mA g);rw [o6];by_cases q:g=f
  .rw [az q,az q];exact ry
  rw [ay q,ay q];exact r g
 by_cases q:g=f
 .rw [q];exact(oo f y fs).1
 refine(oo f y fs).2 g (wi g λz=>hg ?_);show (if g=f then some u else mA g)=none;rw [ay q];exact z
def Inv.made (I:Inv X ah σ H s):Inv X ah σ (upd (upd H s.heap.objs.size (.own (s.heap.objs.size+1))) (s.heap.objs.size+1) (.ins C s.heap.objs.size []))
  { s with heap:=(s.heap.push PySem.W.emptyDict).push (PySem.W.instObj C s.heap.objs.size) }:=by
 have e1:(s.heap.push PySem.W.emptyDict).get? s.heap.objs.size=some PySem.W.emptyDict:=de s.heap rfl;have e2:((s.heap.push PySem.W.emptyDict).push (PySem.W.instObj C s.heap.objs.size)).get? (s.heap.objs.size+1)=some (PySem.W.instObj C s.heap.objs.size):=by
  have:=de (s.heap.push PySem.W.emptyDict) (o:=PySem.W.instObj C s.heap.objs.size) rfl;rwa [jN] at this
 have e3:(s.heap.push PySem.W.emptyDict).Ns s.heap.objs.size (λ_=>none):=⟨PySem.W.emptyDict,#[],_,e1,rfl,(λe he=>absurd he (by simp)),λ_=>rfl⟩;have I1:=I.laid (a:=s.heap.objs.size) (o:=.own (s.heap.objs.size+1)) (h':=s.heap.push PySem.W.emptyDict) (t':=s.toks) (λb u q=>bZ _ q) (aL _) ⟨_,e1⟩;refine I1.laid (a:=s.heap.objs.size+1) (o:=.ins C s.heap.objs.size []) (t':=s.toks) (λb u q=>bZ _ q) (Nat.le_of_eq (jN _ _)) ?_;have ne:s.heap.objs.size≠s.heap.objs.size+1:=bT (md _);refine⟨by rw [ai ne,ab],dD _,ne,e2,λ_=>none,(Heap.Ns1.of_empty e3).at λo q=>bZ _ q,λ_=>True.intro,λy hy=>absurd rfl hy⟩
def HS {prog:Program}{w:World}{env:Env}{e:Expr}{f:Str}{pos:Pos}{s:Shared}{Q:Value->Shared->Prop}(hb:attributeBase e f env (eval e env)=eval e env)
  (h:wpAny (model prog w) A (eval e env) (λo s₁=>wpAny (model prog w) A (getAttr o f true) Q E s₁) E s):wpAny (model prog w) A (eval (.Attribute e f pos) env) Q E s :=
 Attribute_any_ h (by rw [arm_eval_Attribute,hb])
end
inductive Pl (K:aY)(H:Hp)(f:Str)(x:V)(R:V->Prop):Prop
|mk(a C dx:Addr)(fs:List (Str×V))(v:V)(e:x=.ref a)(h:H a=some (.ins C dx fs))(c:Bj K C)(n:dQ K C f)(l:fs.lookup f=some v)(q:R v)
inductive YY (K:aY)(H:Hp)(f:Str)(x:V)(R:Addr->Addr->Addr->List (Str×V)->Prop):Prop
|mk(a C dx:Addr)(fs:List (Str×V))(e:x=.ref a)(h:H a=some (.ins C dx fs))(c:Bj K C)(n:dQ K C f)(l:fs.length < 1000)(q:R a C dx fs)
def Rn (K:aY)(ta:TE)(f:Str):TE:=λσ H Q=>ta σ H λx H1=>Pl K H1 f x λv=>Q v H1
def Rz (K:aY)(ta tv:TE)(f:Str):TS:=λD σ H=>tv σ H λy H1=>ta σ H1 λx H2=>YY K H2 f x λa C dx fs=>D.nx σ (upd H2 a (.ins C dx (dN f y fs)))
section
variable {X:Cx}{o e value:Expr}{f:Str}{pos pos' tpos:Pos}{ta tv:TE}
def dO (he:PE X e ta)(hb:attributeBase e f X.env (eval e X.env)=eval e X.env):PE X (.Attribute e f pos) (Rn X.K ta f):=by
 intro ah s σ H Q I h;refine HS hb (cS (he ah s σ H _ I h) λu s1 bh=>?_);obtain⟨x,H1,I1,rx,a,C,dx,fs,v,ex,ea,c,n,l,q⟩:=bh;subst ex;obtain rfl:u=Value.ref a:=rx;exact zM I1 ea c n l λu' s2 I2 ru=>⟨v,H1,I2,ru,q⟩
def gb (ha:PE X o ta)(hv:PE X value tv)(hs:swapsWith value (some (.Attribute o f pos')) pos.line X.env=pure false):PS X (.Assign [.Attribute o f pos'] value pos) (Rz X.K ta tv f):=by
 intro ah s σ H D I h;refine plainObj_wpAny_Assign_Attribute (cS (hv ah s σ H _ I h) λu s1 bh=>?_) hs;obtain⟨y,H1,I1,ry,q⟩:=bh;refine cS (ha ah s1 σ H1 _ I1 q) λov s2 bh=>?_;obtain⟨x,H2,I2,rx,a,C,dx,fs,ex,ea,c,n,l,q2⟩:=bh;subst ex;obtain rfl:ov=Value.ref a:=rx;exact yt I2 ea c n l ry λs3 I3=>⟨σ,_,I3,q2⟩
def IE {pl:Sem Bool}{m:Str}{apos:Pos}{args:List Expr}{ah:List (Addr×Obj)}{s:Shared}{σ:St}{H:Hp}{Q:Value->Shared->Prop}{te:TE}(he:PE X e te)(I:Inv X ah σ H s)
  (h:te σ H λx H1=>∃a C dx fs g,x=.ref a/\H1 a=some (.ins C dx fs)/\Bj X.K C/\Meth X.K C m g/\fs.lookup m=none /\
   ∀s1,Inv X ah σ H1 s1->wpAny (model X.prog X.w) X.A (callWith pos (.ref g) [.ref a] (backTo pos (starEach args X.env)) (backToKw pos (keywordEach [] X.env))) Q X.xe s1)
  (ht:eval (.Call (.Attribute e m apos) args [] pos) X.env=(do
   let ov <-eval e X.env
   standAt apos.atName
   let (f,first) <-holding [ov] (getMethod ov m pl)
   callWith pos f first (backTo pos (starEach args X.env)) (backToKw pos (keywordEach [] X.env)))) :
  wpAny (model X.prog X.w) X.A (eval (.Call (.Attribute e m apos) args [] pos) X.env) Q X.xe s:=by
 refine PySem.W.methodCall_KW (pl:=pl) (cS (he ah s σ H _ I h) λu s1 bh=>?_) ht;obtain⟨x,H1,I1,rx,a,C,dx,fs,g,ex,ea,c,k,l,q⟩:=bh;subst ex;obtain rfl:u=Value.ref a:=rx;exact lQ I1 ea c k l (q s1 I1)
end
section
variable {X:Cx}{ah:List (Addr×Obj)}{σ:St}{H:Hp}{s:Shared}{A:Around}{E:Value->Shared->Prop}{Q:Value->Shared->Prop}{c:Value}{b:Bool}
inductive rO (K:aY)(H:Hp):V->Value->Prop where
 | d5:rO K H .d5 (.type "NoneType")
 | bl (x:Bool):rO K H (.bl x) (.type "bool")
 | int (i:Int):rO K H (.int i) (.type "int")
 | str (x:Str):rO K H (.str x) (.type "str")
 | Li (x:UInt64):rO K H (.Li x) (.type "float")
 | lst {a:Addr}{xs:List V}(e:H a=some (.lst xs)):rO K H (.ref a) (.type "list")
 | jD {a:Addr}{o:Obj}{xs:List V}(e:H a=some (.jD o (.lst xs))):rO K H (.ref a) (.type "list")
 | tup {a:Addr}{xs:List V}(e:H a=some (.tup xs)):rO K H (.ref a) (.type "tuple")
 | dK {a:Addr}{kvs:List (aN×V)}(e:H a=some (.dK kvs)):rO K H (.ref a) (.type "dict")
 | dT {a:Addr}{kvs:List (List aN×V)}(e:H a=some (.dT kvs)):rO K H (.ref a) (.type "dict")
 | ins {a C dx:Addr}{fs:List (Str×V)}(e:H a=some (.ins C dx fs))(cl:Bj K C)(ha:PySem.W.findIn K (.ref C) "__class__"=some (some (.builtin "object.__class__")))
   (hn:PySem.W.specialIn K (.builtin "object.__class__") "__get__"=some (some (.builtin "getset_descriptor.__get__")))(htk:PySem.W.takesIn K (.builtin "object.__class__")=some true)
   (hm:PySem.W.mroIn K C (.type "object")=some true):rO K H (.ref a) (.ref C)
end
structure eP (k:Nat)(A:Around):Prop where
 hd:A.handled=none
 dp:A.depth+3 * k+5 < recursionLimit
 un:A.units+16 * k+200 < cLine
def eP.mono {j k:Nat}{A:Around}(r:eP k A)(h:j<=k):eP j A:=⟨r.hd,by have:=r.dp;omega,by have:=r.un;omega⟩
theorem eP.deeper {k:Nat}{A:Around}(r:eP (k+1) A)(env:Env):eP k (A.deeper env) :=
 ⟨r.hd,by have:=r.dp;show A.depth+1+3 * k+5 < _;omega,by have:=r.un;show A.units+3+16 * k+200 < _;omega⟩
theorem eP.in1 {k:Nat}{A:Around}(r:eP (k+1) A):eP k A.in1 :=
 ⟨r.hd,by have:=r.dp;show A.depth+3 * k+5 < _;omega,by have:=r.un;show A.units+1+16 * k+200 < _;omega⟩
def zm {A:Around}{C:Addr}{us:List Value}{kw:List (Str×Value)}:(A.under (.builtin "type.__call__" ⟨.ref C::us,kw⟩)).depth=A.depth+1:=by
 first | rfl | simp [Around.under,Code.weight,Code.isCreation,Code.isGuard,Code.isCaller,Code.frames,Code.isFrame,guardIds]
def zk {A:Around}{C:Addr}{us:List Value}{kw:List (Str×Value)}:(A.under (.builtin "type.__call__" ⟨.ref C::us,kw⟩)).units=A.units+1:=by
 first | rfl | simp [Around.under,Code.cUnits,Code.frames,Code.isFrame]
def eP.make {k:Nat}{A:Around}(r:eP (k+1) A)(C:Addr)(us:List Value)(kw:List (Str×Value)):eP k (A.under (.builtin "type.__call__" ⟨.ref C::us,kw⟩)) :=
 ⟨r.hd,by have:=r.dp;rw [zm];omega,by have:=r.un;rw [zk];omega⟩
theorem eP.depth {k:Nat}{A:Around}(r:eP k A):A.depth < recursionLimit:=by have:=r.dp;omega
theorem eP.units {k:Nat}{A:Around}(r:eP k A):A.units+64 < cLine:=by have:=r.un;omega
def pq:TA:=λ_ H Q=>Q [] H
def fZ (ta:TE)(tr:TA):TA:=λσ H Q=>ta σ H λx H1=>tr σ H1 λxs H2=>Q (x::xs) H2
section
variable {X:Cx}{e:Expr}{es:List Expr}{te:TE}{t:TA}{pos:Pos}
def aj:PA X [] pq:=λ_ _ _ _ H Q I h=>Calls.spliced_nil ⟨[],H,I,.nil,h⟩
def af (ha:PE X e te)(hr:PA X es t)(hs:starEach (e::es) X.env=(false,eval e X.env)::starEach es X.env:=by rfl):PA X (e::es) (fZ te t):=by
 intro pos ah s σ H Q I h;rw [hs];show wpAny _ _ (spliced ((false,eval e X.env)::backTo pos (starEach es X.env))) _ _ s;refine nS (cS (ha ah s σ H _ I h) λu s1 bh=>?_);obtain⟨x,H1,I1,r1,q1⟩:=bh;refine cS (hr pos ah s1 σ H1 _ I1 q1) λus s2 bh=>?_;obtain⟨xs,H2,I2,r2,q2⟩:=bh;exact⟨x::xs,H2,I2,.cons r1 r2,q2⟩
def sk (t:TA):TE:=λσ H Q=>t σ H λxs H1=>xs.length<=sizeLine/\∀p,H1 p=none->Q (.ref p) (upd H1 p (.tup xs))
def M4 (t:TA):TE:=λσ H Q=>t σ H λxs H1=>xs.length<=sizeLine/\∀p,H1 p=none->Q (.ref p) (upd H1 p (.lst xs))
def bY {x1}(h:PA X es t):PE X (.Tuple es x1 pos) (sk t):=by
 intro ah s σ H Q I hq;refine wpAny_Tuple_spliced (cS (h pos ah s σ H _ I hq) λus s1 bh=>?_);obtain⟨xs,H1,I1,r,z,q⟩:=bh;refine⟨by rw [<-r.length];exact z,?_⟩;have hf:H1 s1.heap.objs.size=none:=I1.bU.fresh (aL _);refine⟨.ref s1.heap.objs.size,upd H1 s1.heap.objs.size (.tup xs),I1.laid (t':=s1.toks) (λb u e=>bZ _ e) (aL _) ?_,rfl,q _ hf⟩;exact⟨z,us,r,⟨_,de _ rfl,rfl,_,rfl⟩⟩
def bA (h:PA X es t):PE X (.List es pos) (M4 t):=by
 intro ah s σ H Q I hq;refine wpAny_List_spliced (cS (h pos ah s σ H _ I hq) λus s1 bh=>?_);obtain⟨xs,H1,I1,r,z,q⟩:=bh;refine⟨by rw [<-r.length];exact z,?_⟩;have hf:H1 s1.heap.objs.size=none:=I1.bU.fresh (aL _);refine⟨.ref s1.heap.objs.size,upd H1 s1.heap.objs.size (.lst xs),I1.laid (t':=s1.toks) (λb u e=>bZ _ e) (aL _) ?_,rfl,q _ hf⟩;exact⟨z,us,0,r,de _ rfl⟩
end
abbrev Sp:=List V->Hp->VK->XK->Prop
abbrev xZ:=List Env->Hp->Shared->XK->Value->Shared->Prop
structure pH (P:Program)(w:World)(K:aY)(mg:Str->Option Value)(base:Heap)(A:Around)(outer:List Env)(s:Shared)(H:Hp):Prop where
 frames:A.frames=some outer
 mod:Mod K mg base
 bs:∀b o,base.get? b=some o->s.heap.get? b=some o/\H b=none
 F8:base.objs.size<=s.heap.objs.size
 oz:s.heap.FunFrames base outer
 I9:∀b∈Ce outer,H b=none
 bU:kX P w H s.heap
 bare:AllBare s.gens
def CE (outer:List Env)(P:Program)(w:World)(H:Hp)(s:Shared)(Q:VK)(u:Value)(s':Shared):Prop :=
 ∃v H',s'.os=s.os/\AllBare s'.gens/\Un (Ce outer) [] H H' s.heap s'.heap/\kX P w H' s'.heap/\RelV v u/\Q v H'
def CR (CX:xZ)(outer:List Env)(P:Program)(w:World)(H:Hp)(s:Shared)(Q:VK)(E:XK)(r:Result)(s':Shared):Prop :=
 match r with
 | .ok (.ret u)=>CE outer P w H s Q u s'
 | .ok _=>False
 | .error e=>CX outer H s E e s'
structure bS (P:Program)(w:World)(K:aY)(mg:Str->Option Value)(base:Heap)(CX:xZ) (k:Nat)(f:Addr)(fd:FuncData) (ps:List Str)(sp:Sp):Prop where
 len:∀vs H Q E,sp vs H Q E->vs.length=ps.length
 run:∀(A:Around)(outer:List Env)(s:Shared)(H:Hp)(args:Args)(us:List Value)(vs:List V)(Q:VK)(E:XK),eP k A->pH P w K mg base A outer s H->BindsTo s fd args (ps.zip us)->aT vs us->sp vs H Q E ->
  codeAny (model P w) A (.call (.ref f) args) (CR CX outer P w H s Q E) s
theorem bS.mono {P:Program}{w:World}{K:aY}{mg:Str->Option Value}{base:Heap}{CX:xZ}{j k:Nat}{f:Addr}{fd:FuncData}{ps:List Str}{sp:Sp}(F:bS P w K mg base CX j f fd ps sp)(h:j<=k) :
  bS P w K mg base CX k f fd ps sp:=⟨F.len,λA outer s H args us vs Q E hr=>F.run A outer s H args us vs Q E (hr.mono h)⟩
def bS.imp {P:Program}{w:World}{K:aY}{mg:Str->Option Value}{base:Heap}{CX:xZ}{k:Nat}{f:Addr}{fd:FuncData}{ps:List Str}{sp V7:Sp}(F:bS P w K mg base CX k f fd ps sp)
  (h:∀vs H Q E,V7 vs H Q E->sp vs H Q E):bS P w K mg base CX k f fd ps V7 :=
 ⟨λvs H Q E q=>F.len vs H Q E (h _ _ _ _ q),λA outer s H args us vs Q E hr he hb hv hs=>F.run A outer s H args us vs Q E hr he hb hv (h _ _ _ _ hs)⟩
def pH.make {P:Program}{w:World}{K:aY}{mg:Str->Option Value}{base:Heap}{A:Around}{outer:List Env}{s:Shared}{H:Hp}(e:pH P w K mg base A outer s H)(C:Addr)(us:List Value)(kw:List (Str×Value)) :
  pH P w K mg base (A.under (.builtin "type.__call__" ⟨.ref C::us,kw⟩)) outer s H:=⟨by first | exact e.frames | (simpa [Around.under,Code.envs,Code.isFrame,pushEnvs] using e.frames),e.mod,e.bs,e.F8,e.oz,e.I9,e.bU,e.bare⟩
theorem pH.in1 {P:Program}{w:World}{K:aY}{mg:Str->Option Value}{base:Heap}{A:Around}{outer:List Env}{s:Shared}{H:Hp}(e:pH P w K mg base A outer s H) :
  pH P w K mg base A.in1 outer s H:=⟨e.frames,e.mod,e.bs,e.F8,e.oz,e.I9,e.bU,e.bare⟩
section
variable {X:Cx}{ah:List (Addr×Obj)}{σ:St}{H:Hp}{s s':Shared}
def Inv.Ll (I:Inv X ah σ H s):pH X.prog X.w X.K X.mg X.base X.A X.stack s H :=
 ⟨I.ok.frames,I.ok.mod,I.bs,dI I.ok.F8 I.sz,I.stack,I.Al,I.bU,I.bare⟩
def Inv.after {Q:VK}{u:Value}(I:Inv X ah σ H s)(h:CE X.stack X.prog X.w H s Q u s'):EP X ah σ Q u s':=by
 obtain⟨v,H',os,bare,un,bU,r,q⟩:=h;obtain⟨hh,g,d,t,ZW⟩:=s';obtain rfl:ZW=s.os:=os;exact⟨v,H',I.call (h':=hh) (g':=g) (d':=d) (t':=t) (ch:=[]) un bU bare (λb z=>absurd z (by simp)),r,q⟩
end
def Im (sp:Sp)(pT:List V)(E:XK)(t:TA):TE:=λσ H Q=>t σ H λvs H1=>sp (vs++pT) H1 Q E
def Il (C:Addr)(m:Str)(sp:Sp)(pT:List V)(E:XK)(ta:TE)(t:TA):TE:=λσ H Q=>ta σ H λx H1=>∃a dx fs,x=.ref a/\H1 a=some (.ins C dx fs)/\fs.lookup m=none /\
 t σ H1 λvs H2=>sp (x::(vs++pT)) H2 Q E
def M3 (C:Addr)(sp:Sp)(pT:List V)(E:XK)(t:TA):TE:=λσ H Q=>t σ H λvs H1=>∀x dx,H1 x=none->H1 dx=none->dx≠x ->
 sp (.ref x::(vs++pT)) (upd (upd H1 dx (.own x)) x (.ins C dx [])) (λv H2=>v=.d5/\Q (.ref x) H2) E
def Binds (K:aY)(fd:FuncData) (ps:List Str)(ds:List Value):Prop :=
 ∀(s:Shared)(us:List Value),K.In s.heap->(us++ds).length=ps.length->BindsTo s fd ⟨us,[]⟩ (ps.zip (us++ds))
def Binds.all {K:aY}{fd:FuncData}{ps:List Str}(h:∀us:List Value,us.length=ps.length->bindArgs fd ⟨us,[]⟩=pure (ps.zip us)):Binds K fd ps []:=λs us _ hl=>by
 rw [fh] at hl ⊢;exact .of_eq (h us hl)
def Passes (CX:xZ)(X:Cx)(E:XK):Prop:=∀(ah:List (Addr×Obj))(σ:St)(H:Hp)(s:Shared)(e:Value)(s':Shared),Inv X ah σ H s->CX X.stack H s E e s'->X.xe e s'
section
variable {X:Cx}{CX:xZ}{k:Nat}{f C:Addr}{fd:FuncData}{ps:List Str}{sp:Sp}{pT:List V}{ds:List Value}{E:XK}{x m:Str}{p pos apos:Pos}{e o:Expr}{es:List Expr}{ta:TE}{t:TA}
def yO {ah:List (Addr×Obj)}{σ:St}{H:Hp}{s:Shared}{Q:VK}{us:List Value}{vs:List V}(F:bS X.prog X.w X.K X.mg X.base CX k f fd ps sp)(hr:eP k X.A)(hb:Binds X.K fd ps ds)(hd:aT pT ds)(hx:Passes CX X E)
  (I:Inv X ah σ H s)(r:aT vs us)(h:sp (vs++pT) H Q E):wpAny (model X.prog X.w) X.A (call (.ref f) us) (EP X ah σ Q) X.xe s:=by
 have r2:aT (vs++pT) (us++ds):=r.append hd;have hl:(us++ds).length=ps.length:=by rw [<-r2.length];exact F.len _ _ _ _ h
 refine jH (jK (F.run X.A X.stack s H ⟨us,[]⟩ (us++ds) (vs++pT) Q E hr I.Ll (hb s us I.sC hl) r2 h) λr s' hq=>?_);cases r with
 | error e=>exact hx ah σ H s e s' I hq
 | ok fl =>
  cases fl with
  | ret u=>exact I.after hq
  | next=>exact False.elim hq
  | brk=>exact False.elim hq
  | cont=>exact False.elim hq
def Ha (F:bS X.prog X.w X.K X.mg X.base CX k f fd ps sp)(hr:eP k X.A)(hg:Gl X x)(hm:X.mg x=some (.ref f))(hk:PySem.W.keepIn X.K (.ref f)=true)(hb:Binds X.K fd ps ds)(hd:aT pT ds)(hx:Passes CX X E)
  (ha:PA X (e::es) t)(B_:(x == ("__debug__":Str))=false:=by decide)(he:starEach (e::es) X.env=(false,eval e X.env)::starEach es X.env:=by rfl)(pQ:(backTo pos (starEach es X.env)).any (·.1)=false:=by rfl) :
  PE X (.Call (.Name x p) (e::es) [] pos) (Im sp pT E t):=by
 intro ah s σ H Q I h;refine me (vy I hg hm ?_ B_);refine PySem.W.callWith_K (h₀:=X.base) I.ok.mod.NV hk (cS (ha pos ah s σ H _ I h) λus s1 bh=>?_) he pQ;obtain⟨vs,H1,I1,r,q⟩:=bh;refine⟨I1.sC,?_⟩;exact yO F hr hb hd hx I1 r q
def AM {pl:Sem Bool}(he:PE X o ta)(c:Bj X.K C)(hm:Meth X.K C m f)(F:bS X.prog X.w X.K X.mg X.base CX k f fd ps sp)(hr:eP k X.A)(hb:Binds X.K fd ps ds)(hd:aT pT ds)(hx:Passes CX X E)(ha:PA X (e::es) t)
  (sf:starEach (e::es) X.env=(false,eval e X.env)::starEach es X.env:=by rfl)(pQ:(backTo pos (starEach es X.env)).any (·.1)=false:=by rfl)
  (ht:eval (.Call (.Attribute o m apos) (e::es) [] pos) X.env=(do
   let ov <-eval o X.env
   standAt apos.atName
   let (f,first) <-holding [ov] (getMethod ov m pl)
   callWith pos f first (backTo pos (starEach (e::es) X.env)) (backToKw pos (keywordEach [] X.env))):=by rfl) :
  PE X (.Call (.Attribute o m apos) (e::es) [] pos) (Il C m sp pT E ta t):=by
 intro ah s σ H Q I h;refine PySem.W.methodCall_KW (pl:=pl) (cS (he ah s σ H _ I h) λu s1 bh=>?_) ht;obtain⟨x,H1,I1,rx,a,dx,fs,ex,ea,l,q⟩:=bh;subst ex;obtain rfl:u=Value.ref a:=rx;refine lQ I1 ea c hm l ?_;refine PySem.W.callWith_K (first:=[.ref a]) (h₀:=X.base) I.ok.mod.NV hm.kp (cS (ha pos ah s1 σ H1 _ I1 q) λus s2 bh=>?_) sf pQ;obtain⟨vs,H2,I2,r,q2⟩:=bh;refine⟨I2.sC,?_⟩;exact yO (us:=.ref a::us) (vs:=.ref a::vs) F hr hb hd hx I2 (.cons rfl r) q2
def wG {pl:Sem Bool}(he:PE X o ta)(c:Bj X.K C)(hm:Meth X.K C m f)(F:bS X.prog X.w X.K X.mg X.base CX k f fd ps sp)(hr:eP k X.A)(hb:Binds X.K fd ps ds)(hd:aT pT ds)(hx:Passes CX X E)
  (ht:eval (.Call (.Attribute o m apos) [] [] pos) X.env=(do
   let ov <-eval o X.env
   standAt apos.atName
   let (f,first) <-holding [ov] (getMethod ov m pl)
   callWith pos f first (backTo pos (starEach [] X.env)) (backToKw pos (keywordEach [] X.env))):=by rfl) :
  PE X (.Call (.Attribute o m apos) [] [] pos) (Il C m sp pT E ta pq):=by
 intro ah s σ H Q I h;refine PySem.W.methodCall_KW (pl:=pl) (cS (he ah s σ H _ I h) λu s1 bh=>?_) ht;obtain⟨x,H1,I1,rx,a,dx,fs,ex,ea,l,q⟩:=bh;subst ex;obtain rfl:u=Value.ref a:=rx;refine lQ I1 ea c hm l ?_;exact PySem.W.callWith_K0 (first:=[.ref a]) I1.sC hm.kp (yO (us:=[.ref a]) (vs:=[.ref a]) F hr hb hd hx I1 (.cons rfl .nil) q)
structure Mk (K:aY)(C f:Addr):Prop where
 makes:PySem.W.makesIn K C=true
 init:PySem.W.findIn K (.ref C) "__init__"=some (some (.ref f))
 fn:PySem.W.isFn K (.ref f)=true
 kp:PySem.W.keepIn K (.ref C)=true
def DB {ah:List (Addr×Obj)}{σ:St}{H:Hp}{s:Shared}{Q:VK}{us:List Value}{vs:List V}(M:Mk X.K C f)(F:bS X.prog X.w X.K X.mg X.base CX k f fd ps sp)(hr:eP (k+1) X.A)(hb:Binds X.K fd ps ds)(hd:aT pT ds)
  (hx:Passes CX X E)(I:Inv X ah σ H s)(r:aT vs us)
  (h:∀x dx,H x=none->H dx=none->dx≠x->sp (.ref x::(vs++pT)) (upd (upd H dx (.own x)) x (.ins C dx [])) (λv H2=>v=.d5/\Q (.ref x) H2) E) :
  wpAny (model X.prog X.w) X.A (call (.ref C) us) (EP X ah σ Q) X.xe s:=by
 have hq:=h (s.heap.objs.size+1) s.heap.objs.size (I.bU.fresh (jJ _)) (I.bU.fresh (aL _)) (bT (md _));have I2:=Inv.made (C:=C) I;have r2:aT (V.ref (s.heap.objs.size+1)::(vs++pT)) (Value.ref (s.heap.objs.size+1)::(us++ds)):=.cons rfl (r.append hd);have hl:(Value.ref (s.heap.objs.size+1)::us++ds).length=ps.length:=by
  have e:=r2.length;rw [F.len _ _ _ _ hq] at e;exact e.symm
 refine jH (Ez (f:=f) I.sC M.makes M.init (beq_iff_eq.mp M.fn) (jK (F.run _ X.stack _ _ ⟨Value.ref (s.heap.objs.size+1)::us,[]⟩ (Value.ref (s.heap.objs.size+1)::(us++ds)) _ _ E (hr.make C us [])
  (I2.Ll.make C us []) (hb _ (Value.ref (s.heap.objs.size+1)::us) I2.sC hl) r2 hq) λr s' Om=>?_))
 cases r with
 | error e=>exact hx ah σ _ _ e s' I2 Om
 | ok fl =>
  cases fl with
  | ret u =>
   obtain⟨v,H',I3,rv,ev,q3⟩:=I2.after Om;subst ev;exact⟨rv,⟨V.ref (s.heap.objs.size+1),H',I3,rfl,q3⟩⟩
  | next=>exact False.elim Om
  | brk=>exact False.elim Om
  | cont=>exact False.elim Om
def vi (M:Mk X.K C f)(F:bS X.prog X.w X.K X.mg X.base CX k f fd ps sp)(hr:eP (k+1) X.A)(hg:Gl X x)(hm:X.mg x=some (.ref C))(hb:Binds X.K fd ps ds)(hd:aT pT ds)(hx:Passes CX X E)
  (ha:PA X (e::es) t)(B_:(x == ("__debug__":Str))=false:=by decide)(he:starEach (e::es) X.env=(false,eval e X.env)::starEach es X.env:=by rfl)(pQ:(backTo pos (starEach es X.env)).any (·.1)=false:=by rfl) :
  PE X (.Call (.Name x p) (e::es) [] pos) (M3 C sp pT E t):=by
 intro ah s σ H Q I h;refine me (vy I hg hm ?_ B_);refine PySem.W.callWith_K (h₀:=X.base) I.ok.mod.NV M.kp (cS (ha pos ah s σ H _ I h) λus s1 bh=>?_) he pQ;obtain⟨vs,H1,I1,r,q⟩:=bh;refine⟨I1.sC,?_⟩;exact DB M F hr hb hd hx I1 r q
end
section
variable {X:Cx}{CX:xZ}{k:Nat}{f C:Addr}{fd:FuncData}{ps ks:List Str}{sp:Sp}{E:XK}{x m:Str}{p pos apos aaf:Pos}{e o:Expr}{es:List Expr}{kws:List Keyword}{te ta:TE}{t tk:TA}{nm:Option Str}
structure VL (K:aY)(fd:FuncData) (ps ks:List Str)(g:List Value->List Value->List Value)(gV:List V->List V->List V):Prop where
 to:∀(s:Shared)(us ws:List Value),K.In s.heap->(g us ws).length=ps.length->BindsTo s fd ⟨us,ks.zip ws⟩ (ps.zip (g us ws))
 rel:∀{vs:List V}{us:List Value}{zs:List V}{ws:List Value},aT vs us->aT zs ws->aT (gV vs zs) (g us ws)
variable {g:List Value->List Value->List Value}{gV:List V->List V->List V}
end
structure aK (N P:List Str)(sc:Scope):Prop where
 kind:sc.kind=.function
 co:sc.isCoroutine=false
 gen:sc.isGenerator=false
 nd:N.Nodup
 pre:N.take P.length=P
 par:∀x∈P,sc.names.lookup x=some .local\/sc.names.lookup x=some .cell
 Kh:∀y∈sc.names,y.2≠.free
def iI {N P:List Str}{sc:Scope}(a:sc.kind=.function)(b:sc.isCoroutine=false)(c:sc.isGenerator=false)(d:N.take P.length=P)(e:N.Nodup/\(∀x∈P,sc.names.lookup x=some .local\/sc.names.lookup x=some .cell)/\∀y∈sc.names,y.2≠.free):aK N P sc:=⟨a,b,c,e.1,d,e.2.1,e.2.2⟩
theorem uf {kindOf:Str->Option NameKind}{x:Str}:∀{binds:List (Str×Value)}{m:Str->Option Value},(∀v,(x,v)∉binds)->bindL kindOf binds m x=m x
 | [],_,_=>rfl
 | (n,v)::r,m,h=>by
  unfold bindL;rw [uf λw hw=>h w (cJ _ hw)]
  split
  .have:x≠n:=by rintro rfl;exact h v bG
   simp [this]
  rfl
theorem uh {kindOf:Str->Option NameKind}{x:Str}:∀{binds:List (Str×Value)}{m:Str->Option Value},(∀v,(x,v)∉binds)->bindC kindOf binds m x=m x
 | [],_,_=>rfl
 | (n,v)::r,m,h=>by
  unfold bindC;rw [uh λw hw=>h w (cJ _ hw)]
  split
  .rfl
  have:x≠n:=by rintro rfl;exact h v bG
  simp [this]
theorem ug {kindOf:Str->Option NameKind}{x:Str}{v:Value}:∀{P:List Str}{vs:List Value}{i:Nat}{m:Str->Option Value},P.Nodup->P[i]?=some x->vs[i]?=some v->kindOf x=some .local ->
  bindL kindOf (P.zip vs) m x=some v
 | [],_,_,_,_,h,_,_=>by simp at h
 | _::_,[],_,_,_,_,h,_=>by simp at h
 | p::P,w::vs,0,m,nd,h1,h2,hk=>by
  simp at h1 h2;subst h1;subst h2;show bindL kindOf ((p,w)::P.zip vs) m p=_;unfold bindL;rw [uf λv hv=>(jr.mp nd).1 (List.of_mem_zip hv).1,az hk];simp
 | p::P,w::vs,i+1,m,nd,h1,h2,hk=>by
  show bindL kindOf ((p,w)::P.zip vs) m x=_;unfold bindL;exact ug (i:=i) (jr.mp nd).2 (by simpa using h1) (by simpa using h2) hk
theorem ui {kindOf:Str->Option NameKind}{x:Str}{v:Value}:∀{P:List Str}{vs:List Value}{i:Nat}{m:Str->Option Value},P.Nodup->P[i]?=some x->vs[i]?=some v->kindOf x≠some .local ->
  bindC kindOf (P.zip vs) m x=some v
 | [],_,_,_,_,h,_,_=>by simp at h
 | _::_,[],_,_,_,_,h,_=>by simp at h
 | p::P,w::vs,0,m,nd,h1,h2,hk=>by
  simp at h1 h2;subst h1;subst h2;show bindC kindOf ((p,w)::P.zip vs) m p=_;unfold bindC;rw [uh λv hv=>(jr.mp nd).1 (List.of_mem_zip hv).1,ay hk];simp
 | p::P,w::vs,i+1,m,nd,h1,h2,hk=>by
  show bindC kindOf ((p,w)::P.zip vs) m x=_;unfold bindC;exact ui (i:=i) (jr.mp nd).2 (by simpa using h1) (by simpa using h2) hk
def start (N:List Str)(vs:List V):St:=vs.map some++List.replicate (N.length - vs.length) none
def oG (CX:xZ)(P:Program)(w:World)(K:aY)(mg:Str->Option Value)(base:Heap) (N:List Str)(qual:Str)(scope:Scope)(f:Addr)(cd:Value)(A:Around)(outer:List Env)(s:Shared)(H:Hp)(E:XK):Cx where
 prog:=P
 w:=w
 K:=K
 mg:=mg
 base:=base
 A:=A.deeper (envOfC qual scope s.heap.objs.size f cd)
 N:=N
 s₀:=s
 H₀:=H
 env:=envOfC qual scope s.heap.objs.size f cd
 outer:=outer
 stack:=envOfC qual scope s.heap.objs.size f cd::outer
 ex:=[]
 calm:=true
 fn:=λ_=>true
 pn:=[]
 xe:=λe s'=>wpAny (model P w) (A.deeper (envOfC qual scope s.heap.objs.size f cd)) (leaving (envOfC qual scope s.heap.objs.size f cd) e) (λ_ Np=>CX outer H s E e Np) (λe' Np=>CX outer H s E e' Np) s'
def xF {sc:Scope}{n:Nat}{x:Str}(h:sc.names.lookup x=some .cell):∃c,(cellsFrom n sc.names []).lookup x=some c:=by
 have q:=PySem.W.cellsFrom_some sc.names n [] (.inl h);exact mh.mp q
def tQ {CX:xZ}{P:Program}{w:World}{K:aY}{mg:Str->Option Value}{base:Heap}{N ps:List Str}{qual:Str}{scope:Scope}{f:Addr}{cd:Value}{A:Around}{outer:List Env}{s s1:Shared}{H:Hp}{E:XK}{us:List Value}{vs:List V}
  (S:aK N ps scope)(hd:A.handled=none)(e0:pH P w K mg base A outer s H)(hl:vs.length=ps.length)(r:aT vs us)
  (x:InCallC s s.heap.objs.size (bindL (envOfC qual scope s.heap.objs.size f cd).kindOf (ps.zip us) λ_=>none) (cellsFrom (s.heap.objs.size+1) scope.names []) (bindC (envOfC qual scope s.heap.objs.size f cd).kindOf (ps.zip us) λ_=>none) s1) :
  Inv (oG CX P w K mg base N qual scope f cd A outer s H E) [] (start N vs) H s1:=by
 have pQ:ps.length<=N.length:=by have:=congrArg List.length S.pre;rw [cX] at this;omega
 obtain⟨h1,tk,rfl,hk⟩:=x.done;have NA:∀b:Addr,b∉(oG CX P w K mg base N qual scope f cd A outer s H E).ex:=λb z=>absurd (show b∈([]:List Addr) from z) (by simp);refine⟨⟨e0.mod,S.kind,rfl,rfl,aL _,λy z c h1 h2=>?_,λy hy=>?_,λy c _ h=>?_,λ_=>hd,Around.frames_deeper e0.frames,.inr ⟨rfl,rfl⟩,λb z=>absurd z (NA b),e0.bs,e0.F8,λb _ _=>NA b,λb z=>absurd z (NA b),e0.oz,e0.I9⟩,
  rfl,e0.bare,Un.kept hk,⟨_,x.toInCall.ns,λi y v h1 h2 h3=>?_⟩,λy c h=>⟨_,x.cell y c h⟩,e0.bU.fresh (aL _),λy c h=>?_,λp hp=>absurd (show p∈([]:List (Addr×Obj)) from hp) (by simp),e0.bU.kept hk,?_⟩
 .exact name_of_addr x.apart (qo h1) (qo h2)
 .have hy:scope.names.lookup y=some .cell\/scope.names.lookup y=some .free:=hy;rcases hy with hy | hy
  .exact xF hy
  exact absurd rfl (S.Kh _ (qo hy))
 .exact i5 (x.above y c (qo h))
 .have hi:i < vs.length:=by
   unfold start at h2;by_cases hi:i < vs.length
   .exact hi
   rw [sO (by simpa using hi)] at h2;rw [List.getElem?_replicate] at h2
   split at h2 <;> cases h2
  have ha:vs[i]?=some v:=by
   unfold start at h2;rw [sN (by simpa using hi),aZ] at h2;cases e:vs[i]? with
   | none=>rw [e] at h2;cases h2
   | some a=>rw [e] at h2;cases h2;rfl
  obtain⟨u,hu,rv⟩:=r.get ha;have hp:ps[i]?=some y:=by
   rw [<-S.pre,List.getElem?_take_of_lt ∅];exact h1
  have Wv:ps.Nodup:=by rw [<-S.pre];exact S.nd.sublist (uu _ _)
  refine⟨u,rv,?_⟩;rcases S.par y (cv hp) with k | k
  .exact .inl ⟨k,ug Wv hp hu k⟩
  obtain⟨c,e⟩:=xF (n:=s.heap.objs.size+1) k;refine .inr ⟨.inl k,c,e,?_⟩;have q:=x.cell y c e;rw [ui Wv hp hu (by show scope.names.lookup y≠_;rw [k];decide)] at q;exact q
 .exact e0.bU.fresh (i5 (x.above y c (qo h)))
 unfold start;show _=N.length;rw [bW,av,List.length_replicate];omega
def E9 {CX:xZ}{P:Program}{w:World}{K:aY}{mg:Str->Option Value}{base:Heap}{k:Nat}{f:Addr}{name qual:Str}{params:Arguments}{body:List Stmt}{scope:Scope}{dV kV doc pm eB ct oc:Value}{an od:Option Addr}
  {wK:Array (Option Value)}{N ps:List Str}{sp:Sp}(lk:K.lookup f=some ⟨oc,od,.func (PySem.W.fnOf name qual params body scope dV kV doc pm an eB ct),wK⟩)(vF:PySem.W.codeIn K eB qual=true)(S:aK N ps scope)
  (len:∀vs H Q E,sp vs H Q E->vs.length=ps.length)
  (iW:∀(A:Around)(outer:List Env)(s:Shared)(H:Hp)(vs:List V)(Q:VK)(E:XK),eP k (A.deeper (envOfC qual scope s.heap.objs.size f eB))->sp vs H Q E ->
   ∃t,z7 (oG CX P w K mg base N qual scope f eB A outer s H E) body t/\t { nx:=λ_ H'=>Q .d5 H',rt:=Q } (start N vs) H) :
  bS P w K mg base CX (k+1) f (PySem.W.fnOf name qual params body scope dV kV doc pm an eB ct) ps sp:=by
 refine⟨len,λA outer s H args us vs Q E hr e0 hb r xS=>?_⟩;have hl:=len _ _ _ _ xS;have KX:K.In s.heap:=e0.mod.NV.keeps λb o e=>(e0.bs b o e).1;have lim:s.heap.NoLimit:=e0.mod.nolimit.keeps λb o e=>(e0.bs b o e).1;have iU:∀y∈ps.zip us,scope.names.lookup y.1=some .local\/(scope.names.lookup y.1=some .cell/\((cellsFrom (s.heap.objs.size+1) scope.names []).lookup y.1).isSome=true):=λ⟨n,v⟩ hy=>by
  rcases S.par n (List.of_mem_zip hy).1 with q | q
  .exact .inl q
  exact .inr ⟨q,PySem.W.cellsFrom_some _ _ _ (.inl q)⟩
 refine codeAny_call_function hr.depth (KX _ _ lk) rfl S.co S.gen rfl (PySem.W.codeRec_of KX vF) (hb _ _ _ _ ?_);refine wpAny_newFunctionEnv_cells S.kind iU λenv he s1 x=>?_;subst he;refine⟨lim.keeps x.toInCall.keep,codeAny_func ?_⟩;obtain⟨t,ht,hq⟩:=iW A outer s H vs Q E (hr.deeper _) xS;have I:Inv (oG CX P w K mg base N qual scope f eB A outer s H E) [] (start N vs) H s1:=tQ S hr.hd e0 hl r x;refine cW (ht [] s1 (start N vs) H _ I hq) (λfl s' hs=>?_) λe s' hs=>hs;have fin:∀{σ':St}{H':Hp}{v:V}{u:Value},Inv (oG CX P w K mg base N qual scope f eB A outer s H E) [] σ' H' s'->RelV v u->Q v H'->CE outer P w H s Q u s' :=
  λ{σ' H' v u} J rv q=>⟨v,H',J.os,J.bare,J.base,J.bU,rv,q⟩
 cases fl with
 | ret u =>
  obtain⟨v,σ',H',J,rv,q⟩:=hs;exact fin J rv q
 | next =>
  obtain⟨σ',H',J,q⟩:=hs;exact fin (v:=V.d5) (u:=Value.none) J rfl q
 | brk =>
  obtain⟨_,_,_,q⟩:=hs;exact False.elim q
 | cont =>
  obtain⟨_,_,_,q⟩:=hs;exact False.elim q
section
variable {X:Cx}{x:Str}{p pos:Pos}{e:Expr}{es:List Expr}{t:TA}{id T:String}{r:List V->Hp->VK->Prop}
def V3 (r:List V->Hp->VK->Prop)(t:TA):TE:=λσ H Q=>t σ H λvs H1=>r vs H1 Q
def aV (hc:eK X (.builtin id) r)(hg:Gl X x)(hm:X.mg x=none)(hv:bootBuiltins x=some (.builtin id))(ha:PA X (e::es) t)(hn:x ≠ "__name__" := by decide)(B_:(x == ("__debug__":Str))=false:=by decide)
  (he:starEach (e::es) X.env=(false,eval e X.env)::starEach es X.env:=by rfl)(pQ:(backTo pos (starEach es X.env)).any (·.1)=false:=by rfl):PE X (.Call (.Name x p) (e::es) [] pos) (V3 r t):=by
 intro ah s σ H Q I h;refine me (ib I hg hm hv ?_ hn B_);refine PyProof.Rows.callWith_builtin1 (cS (ha pos ah s σ H _ I h) λus s1 bh=>?_) he pQ;obtain⟨vs,H1,I1,r1,q1⟩:=bh;exact hc ah s1 σ H1 vs us Q I1 r1 q1
def a8 (hc:eK X (.type T) r)(hg:Gl X x)(hm:X.mg x=none)(hv:bootBuiltins x=some (.type T))(ha:PA X (e::es) t)(hn:x ≠ "__name__" := by decide)(B_:(x == ("__debug__":Str))=false:=by decide)
  (he:starEach (e::es) X.env=(false,eval e X.env)::starEach es X.env:=by rfl)(pQ:(backTo pos (starEach es X.env)).any (·.1)=false:=by rfl):PE X (.Call (.Name x p) (e::es) [] pos) (V3 r t):=by
 intro ah s σ H Q I h;refine me (ib I hg hm hv ?_ hn B_);refine v8 (cS (ha pos ah s σ H _ I h) λus s1 bh=>?_) he pQ;obtain⟨vs,H1,I1,r1,q1⟩:=bh;exact hc ah s1 σ H1 vs us Q I1 r1 q1
end
end L2
namespace HT
open PySem PyProof.Rows
section
open PySem.SeqAt
open PySem.AutoSeq1 (wpAny_loadPart')
open PySem.MeetsSeq PySem.MeetsSeq2 PySem.MeetsSeq3
end
section
variable {prog:Program}{w:World}{A:Around}{E:Value->Shared->Prop}{s:Shared}
def jw (n d:Nat):Option Int->Nat
 | none=>d
 | some v=>if v < 0 then (v+(n:Int)).toNat else min v.toNat n
def qF (n d:Nat):jw n d none=d:=rfl
def ke (n d k:Nat):jw n d (some (k:Int))=min k n:=by
 show (if (k:Int) < 0 then ((k:Int)+(n:Int)).toNat else min (k:Int).toNat n)=min k n;rw [ay ∅,kK]
end
end HT
namespace L2
open PySem PySem.Spec PyProof.Rows
abbrev TO:=St->Hp->(Option Int->Hp->Prop)->Prop
def PO (X:Cx)(e:Option Expr)(t:TO):Prop :=
 ∀(ah:List (Addr×Obj))(s:Shared)(σ:St)(H:Hp)(Q:Option Int->Hp->Prop),Inv X ah σ H s->t σ H Q ->
  wpAny (model X.prog X.w) X.A (evalPart e X.env) (λu s'=>∃o H',Inv X ah σ H' s'/\IsPart u o/\Q o H') X.xe s
def Gp:TO:=λ_ H Q=>Q none H
def MX (t:TE):TO:=λσ H Q=>t σ H λx H1=>VF x λi=>Q (some i) H1
def intsAre_of {ns:List Int}:∀{us:List Value},aT (ns.map V.int) us->IntsAre us ns:=by
 induction ns with
 | nil=>intro us r;rw [jm] at r;cases r;exact .nil
 | cons n ns ih =>
  intro us r;rw [br] at r;cases r with
  | cons r1 r2 =>
   obtain⟨t,e⟩:=r1;subst e;exact .cons n t (ih r2)
section
variable {X:Cx}{e:Expr}{te:TE}{lo hi:Option Expr}{tl th:TO}{pos p2:Pos}
def cU:PO X none Gp:=by
 intro ah s σ H Q I h;rw [evalPart_none];exact bj ⟨none,H,I,.none,h⟩
def bQ (h:PE X e te):PO X (some e) (MX te):=by
 intro ah s σ H Q I hw;rw [evalPart_some];refine cS (h ah s σ H _ I hw) λu s1 bh=>?_;obtain⟨x,H1,I1,r1,q1⟩:=bh;obtain⟨i,rfl,q⟩:=q1;obtain⟨t,rfl⟩:=r1;exact⟨some i,H1,I1,.int i t,q⟩
def LF (X:Cx)(r:V->Option Int->Option Int->Hp->VK->Prop):Prop :=
 ∀(ah:List (Addr×Obj))(s:Shared)(σ:St)(H:Hp)(x:V)(v vl vu:Value)(lo hi:Option Int)(sl:Addr)(Q:VK),Inv X ah σ H s->RelV x v->s.heap.IsSliceOf sl vl vu .none->IsPart vl lo->IsPart vu hi->r x lo hi H Q ->
  ∃T id,typeLookup (.type T) "__getitem__"=pure (some (.builtin id))/\s.TypeIs v T/\wpAny (model X.prog X.w) X.A (getItem v (.ref sl)) (EP X ah σ Q) X.xe s
def LF.or {r r':V->Option Int->Option Int->Hp->VK->Prop}(h:LF X r)(h':LF X r'):LF X (λx lo hi H Q=>r x lo hi H Q\/r' x lo hi H Q):=by
 intro ah s σ H x v vl vu lo hi sl Q I rx hs pl pu q;rcases q with q | q
 .exact h ah s σ H x v vl vu lo hi sl Q I rx hs pl pu q
 exact h' ah s σ H x v vl vu lo hi sl Q I rx hs pl pu q
def Zp (r:V->Option Int->Option Int->Hp->VK->Prop)(te:TE)(tl th:TO):TE:=λσ H Q=>te σ H λx H1=>tl σ H1 λl H2=>th σ H2 λu H3=>r x l u H3 Q
def bR {r:V->Option Int->Option Int->Hp->VK->Prop}(hr:LF X r)(he:PE X e te)(hl:PO X lo tl)(hu:PO X hi th):PE X (.Subscript e (.Slice lo hi none p2) pos) (Zp r te tl th):=by
 intro ah s σ H Q I h;refine Subscript_ (cS (he ah s σ H _ I h) λv s1 bh=>?_);obtain⟨x,H1,I1,r1,q1⟩:=bh;refine wpAny_Slice (cS (hl ah s1 σ H1 _ I1 q1) λvl s2 bh=>?_);obtain⟨l,H2,I2,pl,q2⟩:=bh;refine cS (hu ah s2 σ H2 _ I2 q2) λvu s3 bh=>?_;obtain⟨u,H3,I3,pu,q3⟩:=bh;rw [evalPart_none];refine bj ?_;have I4:Inv X ah σ H3 { s3 with heap:=s3.heap.push { cls:=.type "slice",data:=.fields #[vl,vu,.none] } }:=I3.kept (t':=s3.toks) λb ob q=>bZ _ q;obtain⟨T,id,hT,ht,hg⟩:=hr ah { s3 with heap:=s3.heap.push { cls:=.type "slice",data:=.fields #[vl,vu,.none] } } σ H3 x v vl vu l u s3.heap.objs.size Q I4 r1 (Heap.IsSliceOf.new ..) pl pu q3;show wpAny (model X.prog X.w) X.A (subscriptTail e (.Slice lo hi none p2) v (.ref s3.heap.objs.size)) (EP X ah σ Q) X.xe { s3 with heap:=s3.heap.push { cls:=.type "slice",data:=.fields #[vl,vu,.none] } };exact tail_any (ops:=[.ref s3.heap.objs.size,v]) ht hT hg (by with_unfolding_all rfl)
def dq (xs:List V)(lo hi:Option Int):List V:=(xs.drop (HT.jw xs.length 0 lo)).take (HT.jw xs.length xs.length hi - HT.jw xs.length 0 lo)
def xt (xs:List V)(lo hi:Option Int):(dq xs lo hi).length<=xs.length:=by
 unfold dq;rw [cX,fj];omega
end
def r_ (n:Nat) (i:Int):Option Nat:=if 0<=i then (if i < n then some i.toNat else none) else if -(n:Int)<=i then some (i+n).toNat else none
def ik {α:Type}(xs:List α) (i:Int):Option α:=(r_ xs.length i).bind λj=>xs[j]?
def AS {n:Nat}{i:Int}{j:Nat}(h:r_ n i=some j):seqIndex? i n=some j/\j < n/\-(n:Int)<=i/\i < n:=by
 unfold r_ at h;by_cases h0:0<=i
 .rw [az h0] at h;by_cases h1:i < n
  .rw [az h1] at h;have e:i.toNat=j:=g6 h;exact⟨by rw [seqIndex_of h0 h1,e],∅,∅,h1⟩
  rw [ay h1] at h;cases h
 rw [ay h0] at h;by_cases h1:-(n:Int)<=i
 .rw [az h1] at h;have e:(i+n).toNat=j:=g6 h;exact⟨by rw [seqIndex_neg ∅ h1,e],∅,h1,∅⟩
 rw [ay h1] at h;cases h
def vO {α:Type}{xs:List α}{i:Int}{v:α}(h:ik xs i=some v):∃j,seqIndex? i xs.length=some j/\xs[j]?=some v/\j < xs.length/\-(xs.length:Int)<=i/\i < xs.length:=by
 unfold ik at h;cases e:r_ xs.length i with
 | none=>rw [e] at h;cases h
 | some j =>
  rw [e] at h;obtain⟨h1,h2,h3,h4⟩:=AS e;exact⟨j,h1,h,h2,h3,h4⟩
def bE {α:Type}{xs:List α}{j:Nat}{v:α}(h:xs[j]?=some v):ik xs (j:Int)=some v:=by
 have hj:j < xs.length:=(bx.mp h).1;have e:r_ xs.length (j:Int)=some j:=by
  unfold r_;rw [az ∅,az ∅];simp
 unfold ik;rw [e];exact h
def nr {α:Type}(xs:List α)(v:α):ik (xs++[v]) (-1)=some v:=by
 have hl:(xs++[v]).length=xs.length+1:=by simp
 have e:r_ (xs++[v]).length (-1)=some xs.length:=by
  unfold r_;rw [hl,ay nofun,az ∅]
  congr 1
  omega
 unfold ik;rw [e];show (xs++[v])[xs.length]?=some v;simp
def H_ (b:Expr):Prop:=∀o i,subscripted b false o i=operate [o,i] (getItem o i)
def Ic (X:Cx)(r:R2):Prop :=
 ∀(value slice:Expr)(ah:List (Addr×Obj))(s:Shared)(σ:St)(H:Hp)(x y:V)(v u:Value)(Q:VK),Inv X ah σ H s->RelV x v->RelV y u->r x y H Q ->
  subscripted slice false v u=operate [v,u] (getItem v u)->wpAny (model X.prog X.w) X.A (subscriptTail value slice v u) (EP X ah σ Q) X.xe s
def MC (X:Cx)(id:String)(r:V->List V->Hp->VK->Prop):Prop :=
 ∀(ah:List (Addr×Obj))(s:Shared)(σ:St)(H:Hp)(x:V)(xs:List V)(v:Value)(us:List Value)(Q:VK),Inv X ah σ H s->RelV x v->aT xs us->r x xs H Q ->
  wpAny (model X.prog X.w) X.A (call (.builtin id) (v::us)) (EP X ah σ Q) X.xe s
section
variable {X:Cx}{a b:Expr}{ta tb:TE}{pos:Pos}
def Ic.or {r r':R2}(h:Ic X r)(h':Ic X r'):Ic X (λx y H Q=>r x y H Q\/r' x y H Q):=by
 intro value slice ah s σ H x y v u Q I rx ry q hs;rcases q with q | q
 .exact h value slice ah s σ H x y v u Q I rx ry q hs
 exact h' value slice ah s σ H x y v u Q I rx ry q hs
def MC.or {id:String}{r r':V->List V->Hp->VK->Prop}(h:MC X id r)(h':MC X id r'):MC X id (λx xs H Q=>r x xs H Q\/r' x xs H Q):=by
 intro ah s σ H x xs v us Q I rx rs q;rcases q with q | q
 .exact h ah s σ H x xs v us Q I rx rs q
 exact h' ah s σ H x xs v us Q I rx rs q
def aM {r:R2}(hr:Ic X r)(ha:PE X a ta)(hb:PE X b tb)(hs:H_ b):PE X (.Subscript a b pos) (PH r ta tb):=by
 intro ah s σ H Q I h;exact Subscript_ (Ly ha hb I h λv u s2 x y H2 I2 rx ry q=>hr a b ah s2 σ H2 x y v u Q I2 rx ry q (hs _ _))
inductive VE (S:Addr->List V->Prop)(x y:V)(R:V->Prop):Prop
|mk(p:Addr)(xs:List V) (i:Int)(v:V)(e:x=.ref p)(e2:y=.int i)(s:S p xs)(a:ik xs i=some v)(q:R v)
def Nr (K:aY):R2:=λx y H Q=>VE (aD K H) x y λv=>Q v H
def RO (K:aY):R2:=λx y H Q=>VE (ba K H) x y λv=>Q v H
def RP:R2:=λx y H Q=>∃z i c,x=.str z/\y=.int i/\z.length<=sizeLine/\ik z.cps.toList i=some c/\Q (.str ⟨#[c]⟩) H
def aP:Ic X (Nr X.K):=by
 intro value slice ah s σ H x y v u Q I rx ry h hs;obtain⟨p,xs,i,z,rfl,rfl,hq,he,q⟩:=h;cases rx;obtain⟨t,rfl⟩:=ry;obtain⟨aJ,r,pl,hz⟩:=I.list hq;obtain⟨j,h1,h2,h3,h4,h5⟩:=vO he;obtain⟨w,ew,yN⟩:=r.get h2;have hl:=r.length;have hn:=jX;have fin:EP X ah σ Q w s:=⟨z,H,I,yN,q⟩;by_cases h0:0<=i
 .have hj:i.toNat=j:=by
   rw [seqIndex_of h0 h5] at h1;exact g6 h1
  exact item_listR pl.isList h0 ∅ (by rw [hj];simpa using ew) fin hs
 have hj:(i+(aJ.toArray.size:Int)).toNat=j:=by
  rw [seqIndex_neg ∅ h4] at h1;rw [bO,<-hl];exact g6 h1
 exact subscriptTail_builtinR (x:=w) pl.isList.typeIs slot_list_getitem.lookup
  (wpAny_getItem_list_neg (Q:=λr s'=>r=w/\EP X ah σ Q r s') pl.isList ∅ (by rw [bO] <;> omega) ∅ (by rw [hj];simpa using ew) ⟨rfl,fin⟩) hs
def b9:Ic X (RO X.K):=by
 intro value slice ah s σ H x y v u Q I rx ry h hs;obtain⟨p,xs,i,z,rfl,rfl,hq,he,q⟩:=h;cases rx;obtain⟨t,rfl⟩:=ry;obtain⟨aJ,r,pl,hz⟩:=I.tuple hq;obtain⟨j,h1,h2,h3,h4,h5⟩:=vO he;obtain⟨w,ew,yN⟩:=r.get h2;have hl:=r.length;have hn:=jX;have fin:EP X ah σ Q w s:=⟨z,H,I,yN,q⟩;exact subscriptTail_builtinR (x:=w) pl.typeIs slot_tuple_getitem.lookup
  (getItem_tuple (j:=j) (Q:=λr s'=>r=w/\EP X ah σ Q r s') pl ∅ ∅ (by rw [bO,<-hl];exact h1) (by simpa using ew) ⟨rfl,fin⟩) hs
def zy:Ic X RP:=by
 intro value slice ah s σ H x y v u Q I rx ry h hs;obtain⟨z,i,c,rfl,rfl,hz,he,q⟩:=h;obtain⟨t,rfl⟩:=rx;obtain⟨t',rfl⟩:=ry;obtain⟨j,h1,h2,h3,h4,h5⟩:=vO he;have hl:z.cps.toList.length=z.length:=by simp [Str.length]
 rw [hl] at h1 h4 h5;have hn:=jX;exact tail_any (typeIs_str s z t) slot_str_getitem.lookup (getItem_str (c:=c) (by
  have e1:decide (i < -(2 ^ 63:Int))=false:=gy ∅;have e2:decide (i≥2 ^ 63)=false:=gy ∅;rw [e1,e2,Bool.or_false]) (by rw [h1];simpa using h2) ⟨.str ⟨#[c]⟩,H,I.tok _,⟨_,rfl⟩,q⟩) hs
def zj (aJ:List Value) (n j:Nat)(u:Value):Obj.mapSeq (·.setIfInBounds j u) { cls:=.type "list",data:=.seq aJ.toArray n }={ cls:=.type "list",data:=.seq (aJ.set j u).toArray n }:=by
 simp [Obj.mapSeq]
theorem Inv.lst {ah:List (Addr×Obj)}{σ:St}{H:Hp}{s:Shared}{p:Addr}{xs:List V}(I:Inv X ah σ H s)(h:H p=some (.lst xs)) :
  ∃(aJ:List Value) (n:Nat),aT xs aJ/\s.heap.get? p=some { cls:=.type "list",data:=.seq aJ.toArray n }/\xs.length<=sizeLine:=by
 obtain⟨z,aJ,n,r,e⟩:=I.bU p _ h;exact⟨aJ,n,r,e,z⟩
def Inv.Ko {ah:List (Addr×Obj)}{σ:St}{H:Hp}{s:Shared}{p:Addr}{xs ys:List V}{aJ lO:List Value}{n n':Nat}{f:Obj->Obj}(I:Inv X ah σ H s)(h:H p=some (.lst xs))
  (ho:s.heap.get? p=some { cls:=.type "list",data:=.seq aJ.toArray n })(hf:f { cls:=.type "list",data:=.seq aJ.toArray n }={ cls:=.type "list",data:=.seq lO.toArray n' })(r:aT ys lO)(hz:ys.length<=sizeLine) (t:Nat) :
  Inv X ah σ (upd H p (.lst ys)) { s with heap:=s.heap.update p f,toks:=t }:=by
 have e:(s.heap.update p f).get? p=some { cls:=.type "list",data:=.seq lO.toArray n' }:=by
  rw [Heap.get?_update_self f ho (by rw [hf] <;> rfl),hf]
 refine I.write (x:=p) (e:=p) (by rw [h];trivial) (.inl rfl) (λb u hb q=>(Heap.get?_update_other _ _ (fY hb)).trans q) ⟨_,e⟩ ?_;exact⟨hz,lO,n',r,e⟩
def Nq:V->V->V->Hp->(Hp->Prop)->Prop:=λo i v H Q=>∃p xs k j,o=.ref p/\i=.int k/\H p=some (.lst xs)/\r_ xs.length k=some j/\Q (upd H p (.lst (xs.set j v)))
def set_list:Po X Nq:=by
 intro ah s σ H o i v ov iv u Q I ro ri rv h;obtain⟨p,xs,k,j,rfl,rfl,hp,hj,q⟩:=h;cases ro;obtain⟨t,rfl⟩:=ri;obtain⟨aJ,n,r,ho,hz⟩:=I.lst hp;obtain⟨h1,h2,h3,h4⟩:=AS hj;have hl:=r.length;have hn:=jX;have I':Inv X ah σ (upd H p (.lst (xs.set j v))) { s with heap:=s.heap.update p (Obj.mapSeq (·.setIfInBounds j u)) } :=
  I.Ko hp ho (zj aJ n j u) (r.set rv j) (by rw [qb];exact hz) s.toks
 by_cases h0:0<=k
 .have hk:k.toNat=j:=by
   rw [seqIndex_of h0 h4] at h1;exact g6 h1
  exact PySem.W.ki_setAt ho h0 ∅ (by rw [bO,<-hl];exact h4) (by rw [hk];exact⟨_,I',q⟩)
 have hk:(k+(aJ.toArray.size:Int)).toNat=j:=by
  rw [seqIndex_neg ∅ h3] at h1;rw [bO,<-hl];exact g6 h1
 exact PySem.W.ki_setBack ho ∅ (by rw [bO,<-hl];exact h3) ∅ (by rw [hk];exact⟨_,I',q⟩)
def uW (lo hi:Option Int) (n:Nat):(sliceBounds lo hi none n).1=((HT.jw n 0 lo:Nat):Int)/\(sliceBounds lo hi none n).2.1=((HT.jw n n hi:Nat):Int)/\(sliceBounds lo hi none n).2.2=1:=by
 refine⟨?_,?_,rfl⟩
 .cases lo with
  | none=>simp [sliceBounds,HT.jw]
  | some i =>
   simp only [sliceBounds,HT.jw,Option.getD_none,show (1:Int) > 0 by decide,if_true];by_cases h:i < 0
   .simp only [h,if_true] <;> omega
   simp only [h,if_false] <;> omega
 cases hi with
 | none=>simp [sliceBounds,HT.jw]
 | some i =>
  simp only [sliceBounds,HT.jw,Option.getD_none,show (1:Int) > 0 by decide,if_true];by_cases h:i < 0
  .simp only [h,if_true] <;> omega
  simp only [h,if_false] <;> omega
def sq (aJ:List Value)(lo hi:Option Int):slicePick aJ.toArray lo hi none=((aJ.drop (HT.jw aJ.length 0 lo)).take (HT.jw aJ.length aJ.length hi - HT.jw aJ.length 0 lo)).toArray:=by
 obtain⟨h1,h2,h3⟩:=uW lo hi aJ.toArray.size;unfold slicePick;rw [h1,h2,h3];simp only [sliceRange_one,pick_run,bO] <;> rfl
def RM (K:aY):V->Option Int->Option Int->Hp->VK->Prop:=λx lo hi H Q=>YX x (aD K H) λxs=>∀p,H p=none->Q (.ref p) (upd H p (.lst (dq xs lo hi)))
def cH:LF X (RM X.K):=by
 intro ah s σ H x v vl vu lo hi sl Q I rx hs pl pu h;obtain⟨a,xs,rfl,hx,q⟩:=h;cases rx;obtain⟨aJ,r,ht,hz⟩:=I.list hx;have bM:=r.length;refine⟨"list",_,slot_list_getitem.lookup,ht.isList.typeIs,?_⟩;refine wpAny_getItem_list_slice ht.isList hs pl pu .none (by simp) ?_ (by rw [bO] <;> omega)
 rw [sq,<-bM];refine⟨.ref s.heap.objs.size,_,I.laid (t':=s.toks) (o:=.lst (dq xs lo hi)) (λb ob q=>bZ _ q) (aL _) ?_,rfl,q _ (I.bU.fresh (aL _))⟩;exact⟨dI (xt xs lo hi) hz,_,0,(r.drop (HT.jw xs.length 0 lo)).take (HT.jw xs.length xs.length hi - HT.jw xs.length 0 lo),de _ rfl⟩
def ie:V->Bool
 | .d5=>true
 | .bl _=>true
 | .int _=>true
 | .str _=>true
 | _=>false
def xj:V->V->Bool
 | .d5,.d5=>true
 | .bl a,.bl b=>a == b
 | .bl a,.int b=>(if a then 1 else 0) == b
 | .int a,.bl b=>a == (if b then 1 else 0)
 | .int a,.int b=>a == b
 | .str a,.str b=>a == b
 | _,_=>false
def zS {A:Around}{s:Shared}{y x:V}{u v:Value}(ry:RelV y u)(rx:RelV x v)(fy:ie y=true)(fx:ie x=true):SeqAt.EqAt A s u v (xj y x):=by
 cases y with
 | d5 =>
  cases ry;cases x with
  | d5=>cases rx;exact SeqAt.EqAt.same _
  | bl b=>cases rx;exact SeqAt.EqAt.none_bool b
  | int b=>obtain⟨t,rfl⟩:=rx;exact SeqAt.EqAt.none_int b t
  | str b=>obtain⟨t,rfl⟩:=rx;exact SeqAt.EqAt.none_str b t
  | _=>exact absurd (show false=true from fx) dJ
 | bl a =>
  cases ry;cases x with
  | d5=>cases rx;exact SeqAt.EqAt.bool_none a
  | bl b=>cases rx;exact SeqAt.EqAt.bool_bool a b
  | int b=>obtain⟨t,rfl⟩:=rx;exact SeqAt.EqAt.bool_int a b t
  | str b=>obtain⟨t,rfl⟩:=rx;exact SeqAt.EqAt.bool_str a b t
  | _=>exact absurd (show false=true from fx) dJ
 | int a =>
  obtain⟨t',rfl⟩:=ry;cases x with
  | d5=>cases rx;exact SeqAt.EqAt.int_none a t'
  | bl b=>cases rx;exact SeqAt.EqAt.int_bool a t' b
  | int b=>obtain⟨t,rfl⟩:=rx;exact SeqAt.EqAt.int_int a t' b t
  | str b=>obtain⟨t,rfl⟩:=rx;exact SeqAt.EqAt.int_str a t' b t
  | _=>exact absurd (show false=true from fx) dJ
 | str a =>
  obtain⟨t',rfl⟩:=ry;cases x with
  | d5=>cases rx;exact SeqAt.EqAt.str_none a t'
  | bl b=>cases rx;exact SeqAt.EqAt.str_bool a t' b
  | int b=>obtain⟨t,rfl⟩:=rx;exact SeqAt.EqAt.str_int a t' b t
  | str b=>obtain⟨t,rfl⟩:=rx;exact SeqAt.EqAt.str_str a t' b t
  | _=>exact absurd (show false=true from fx) dJ
 | _=>exact absurd (show false=true from fy) dJ
def xl (x:V)(u:Value):Bool:=match u with
 | .none=>xj .d5 x
 | .bool b=>xj (.bl b) x
 | .int i _=>xj (.int i) x
 | .str z _=>xj (.str z) x
 | _=>false
def zR {x y:V}{u:Value}(r:RelV y u)(f:ie y=true):xl x u=xj y x:=by
 cases y with
 | d5=>cases r;rfl
 | bl b=>cases r;rfl
 | int i=>obtain⟨t,rfl⟩:=r;rfl
 | str z=>obtain⟨t,rfl⟩:=r;rfl
 | _=>exact absurd (show false=true from f) dJ
theorem nu {x:V}:∀{xs:List V}{us:List Value},aT xs us->xs.all ie=true->us.any (xl x)=xs.any λy=>xj y x
 | _,_,.nil,_=>rfl
 | y::xs,u::us,.cons r t,f=>by
  rw [List.all_cons,nP] at f;rw [p_,p_,zR r f.1,nu t f.2]
theorem iR {A:Around}{s:Shared}{x:V}{v:Value}(rx:RelV x v)(fx:ie x=true):∀{xs:List V}{us:List Value},aT xs us->xs.all ie=true->∀u∈us,SeqAt.EqAt A s u v (xl x u)
 | _,_,.nil,_=>λu hu=>by cases hu
 | y::xs,u::us,.cons r t,f=>λu' hu=>by
  rw [List.all_cons,nP] at f;rcases aW.mp hu with rfl | hu
  .rw [zR r f.1];exact zS r rx f.1 fx
  exact iR rx fx t f.2 u' hu
def zC (x:V)(xs:List V):Bool:=xs.any λy=>xj y x
inductive Y1 (S:Addr->List V->Prop)(x y:V)(R:List V->Prop):Prop
|mk(p:Addr)(xs:List V)(e:y=.ref p)(s:S p xs)(f:ie x=true)(g:xs.all ie=true)(q:R xs)
def PY (K:aY)(neg:Bool):R2:=λx y H Q=>Y1 (λp xs=>aD K H p xs\/ba K H p xs) x y λxs=>Q (.bl (if neg then !zC x xs else zC x xs)) H
def oi:kU X (compareOp .In) (PY X.K false):=by
 intro ah s σ H x y v u Q I rx ry h;obtain⟨p,xs,rfl,hq,fx,fs,q⟩:=h;cases ry;rcases hq with hq | hq
 .obtain⟨aJ,r,pl,hz⟩:=I.list hq;refine SeqAt.in_listAt (xl x) pl.isList (λw hw=>iR rx fx r fs w (by simpa using hw)) ⟨.bl _,H,I,rfl,?_⟩;rw [show aJ.toArray.any (xl x)=aJ.any (xl x) by simp,nu r fs];exact q
 obtain⟨aJ,r,pl,hz⟩:=I.tuple hq;refine SeqAt.in_tupleAt (xl x) pl (λw hw=>iR rx fx r fs w (by simpa using hw)) ⟨.bl _,H,I,rfl,?_⟩;rw [show aJ.toArray.any (xl x)=aJ.any (xl x) by simp,nu r fs];exact q
def mO:kU X (compareOp .NotIn) (PY X.K true):=by
 intro ah s σ H x y v u Q I rx ry h;obtain⟨p,xs,rfl,hq,fx,fs,q⟩:=h;cases ry;rcases hq with hq | hq
 .obtain⟨aJ,r,pl,hz⟩:=I.list hq;refine SeqAt.notIn_listAt (xl x) pl.isList (λw hw=>iR rx fx r fs w (by simpa using hw)) ⟨.bl _,H,I,rfl,?_⟩;rw [show aJ.toArray.any (xl x)=aJ.any (xl x) by simp,nu r fs];exact q
 obtain⟨aJ,r,pl,hz⟩:=I.tuple hq;refine SeqAt.notIn_tupleAt (xl x) pl (λw hw=>iR rx fx r fs w (by simpa using hw)) ⟨.bl _,H,I,rfl,?_⟩;rw [show aJ.toArray.any (xl x)=aJ.any (xl x) by simp,nu r fs];exact q
def bD:eK X (.builtin "len") (λxs H Q=>Ft xs (λp ys=>aD X.K H p ys\/ba X.K H p ys) λys=>Q (.int ys.length) H):=by
 intro ah s σ H xs us Q I r h;obtain⟨p,ys,rfl,hq,q⟩:=h;obtain⟨u,rfl,rx⟩:=vals1 r;cases rx;have hn:=jX;rcases hq with hq | hq
 .obtain⟨aJ,r',pl,hz⟩:=I.list hq;have bM:=r'.length;exact Calls.call_len_list pl.isList (by simp only [bO] <;> omega) ⟨.int ys.length,H,I.tok _,⟨s.toks+1,by rw [bO,bM]⟩,q⟩
 obtain⟨aJ,r',pl,hz⟩:=I.tuple hq;have bM:=r'.length;exact len_tuple pl (by simp only [bO] <;> omega) ⟨.int ys.length,H,I.tok _,⟨s.toks+1,by rw [bO,bM]⟩,q⟩
def nq:eK X (.builtin "len") (λxs H Q=>∃z,xs=[.str z]/\z.length<=sizeLine/\Q (.int z.length) H):=by
 intro ah s σ H xs us Q I r h;obtain⟨z,rfl,hz,q⟩:=h;obtain⟨u,rfl,t,rfl⟩:=vals1 r;have hn:=jX;exact len_str ∅ ⟨.int z.length,H,I.tok _,⟨_,rfl⟩,q⟩
def eK.or {f:Value}{r r':List V->Hp->VK->Prop}(h:eK X f r)(h':eK X f r'):eK X f (λxs H Q=>r xs H Q\/r' xs H Q):=by
 intro ah s σ H xs us Q I rs q;rcases q with q | q
 .exact h ah s σ H xs us Q I rs q
 exact h' ah s σ H xs us Q I rs q
def fg:eK X (.type "list") (λxs H Q=>Ft xs (λp ys=>aD X.K H p ys\/ba X.K H p ys) λys=>∀l,H l=none->Q (.ref l) (upd H l (.lst ys))):=by
 intro ah s σ H xs us Q I r h;obtain⟨p,ys,rfl,hq,q⟩:=h;obtain⟨u,rfl,rx⟩:=vals1 r;cases rx;have fin:∀(aJ:List Value),aT ys aJ->ys.length<=sizeLine->∀(h':Heap) (c':Nat),(∀b o',s.heap.get? b=some o'->h'.get? b=some o') ->
   h'.get? s.heap.objs.size=some { cls:=.type "list",dict:=none,data:=.seq aJ.toArray c',slots:=#[] }->EP X ah σ Q (.ref s.heap.objs.size) { s with heap:=h' }:=λaJ r' hz h' c' kp e =>
  ⟨.ref s.heap.objs.size,_,I.laid (t':=s.toks) kp (aL _) (show cC X.prog X.w _ h' _ (.lst ys) from ⟨hz,aJ,c',r',e⟩),rfl,q _ (I.bU.fresh (aL _))⟩
 rcases hq with hq | hq
 .obtain⟨aJ,r',pl,hz⟩:=I.list hq;have bM:=r'.length;obtain⟨o,ho,hc,n,hd⟩:=pl.isList;exact call_list_seq p (.inl rfl) ho hc hd (λh' c' kp e=>fin aJ r' hz h' c' kp e) (by simp only [bO] <;> omega)
 obtain⟨aJ,r',pl,hz⟩:=I.tuple hq;have bM:=r'.length;obtain⟨o,ho,hc,n,hd⟩:=pl;exact call_list_seq p (.inr rfl) ho hc hd (λh' c' kp e=>fin aJ r' hz h' c' kp e) (by simp only [bO] <;> omega)
def eC:eK X (.type "tuple") (λxs H Q=>∃p ys,xs=[.ref p]/\((aD X.K H p ys/\∀l,H l=none->Q (.ref l) (upd H l (.tup ys)))\/(ba X.K H p ys/\Q (.ref p) H))):=by
 intro ah s σ H xs us Q I r h;obtain⟨p,ys,rfl,h⟩:=h;obtain⟨u,rfl,rx⟩:=vals1 r;cases rx;rcases h with ⟨hq,q⟩ | ⟨hq,q⟩
 .obtain⟨aJ,r',pl,hz⟩:=I.list hq;have bM:=r'.length;refine call_tuple_list pl.isList (λh' kp=>?_) (by simp only [bO] <;> omega)
  have I1:Inv X ah σ H { s with heap:=h' }:=I.kept (t':=s.toks) kp;have I2:Inv X ah σ (upd H h'.objs.size (.tup ys)) { s with heap:=h'.push { cls:=.type "tuple",data:=.seq aJ.toArray } } :=
   I1.laid (t':=s.toks) (λb o e=>bZ _ e) (aL _) (show cC X.prog X.w _ _ _ (.tup ys) from ⟨hz,aJ,r',IsTup.new _ _⟩)
  exact⟨.ref h'.objs.size,_,I2,rfl,q _ (I1.bU.fresh (aL _))⟩
 obtain⟨aJ,r',pl,hz⟩:=I.tuple hq;exact call_tuple_same pl ⟨.ref p,H,I,rfl,q⟩
def VZ (K:aY)(T:String)(x:V)(H:Hp):Prop:=match x with
 | .str _=>T = "str"
 | .int _=>T = "int"
 | .ref p=>(T = "list" /\ ∃xs,aD K H p xs)\/(T = "tuple" /\ ∃o,K.lookup p=some o/\o.cls=.type "tuple" /\ o.dict=none) \/
   (T = "dict" /\ ((∃kvs,H p=some (.dK kvs))\/∃kvs,H p=some (.dT kvs)))\/(T = "set" /\ ∃S n,H p=some (.set S n))
 | _=>False
def Jt {ah:List (Addr×Obj)}{σ:St}{H:Hp}{s:Shared}{T:String}{x:V}{v:Value}(I:Inv X ah σ H s)(r:RelV x v)(ty:VZ X.K T x H) :
  s.TypeIs v T/\∀a,v=.ref a->∃ob,s.heap.get? a=some ob/\ob.dict=none:=by
 cases x with
 | str z =>
  obtain⟨t,rfl⟩:=r;cases (show T = "str" from ty);exact⟨typeIs_str s z t,λ_ e=>nomatch e⟩
 | int i =>
  obtain⟨t,rfl⟩:=r;cases (show T = "int" from ty);exact⟨typeIs_int s i t,λ_ e=>nomatch e⟩
 | ref p =>
  cases r;rcases ty with ⟨rfl,xs,hq⟩ | ⟨rfl,o,hk,hc,hd⟩ | ⟨rfl,hk⟩ | ⟨rfl,S,n,hk⟩
  .obtain⟨aJ,_,pl,_⟩:=I.list hq;refine⟨pl.isList.typeIs,λa e=>?_⟩;cases e;obtain⟨o,n,e,c,hd,_⟩:=pl;exact⟨o,e,hd⟩
  .refine⟨⟨o,I.sC p o hk,hc⟩,λa e=>?_⟩;cases e;exact⟨o,I.sC _ o hk,hd⟩
  .have z:∃o,s.heap.get? p=some o/\o.ExactDict:=by
    rcases hk with ⟨kvs,hk⟩ | ⟨kvs,hk⟩
    .obtain⟨_,_,_,_,o,_,_,e,ex,_⟩:=I.bU p _ hk;exact⟨o,e,ex⟩
    obtain⟨_,_,_,_,o,_,_,e,ex,_⟩:=I.bU p _ hk;exact⟨o,e,ex⟩
   obtain⟨o,e,ex⟩:=z;refine⟨⟨o,e,ex.1⟩,λa e2=>?_⟩;cases e2;exact⟨o,e,ex.2.1⟩
  obtain⟨o,_,_,_,e,ex,_⟩:=I.bU p _ hk;refine⟨⟨o,e,ex.1⟩,λa e2=>?_⟩;cases e2;exact⟨o,e,ex.2.1⟩
 | _=>exact False.elim ty
def V4 (K:aY)(T:String)(r:V->List V->Hp->VK->Prop)(to:TE)(t:TA):TE:=λσ H Q=>to σ H λx H1=>VZ K T x H1/\t σ H1 λxs H2=>r x xs H2 Q
variable {o e:Expr}{es:List Expr}{to:TE}{t:TA}{name:Str}{apos fE:Pos}{T id:String}{r:V->List V->Hp->VK->Prop}
def di (pa:PlainAttrs T)(slot:Slot T name id)(Ta:typeOf (.builtin id)=pure (.type "method_descriptor"))(hm:MC X id r)(ho:PE X o to)(ha:PA X (e::es) t)
  (EY:attributeBase o name X.env (eval o X.env)=eval o X.env:=by rfl)
  (KY:((backTo fE (starEach (e::es) X.env)).all (λx=>!x.1) && (backToKw fE (keywordEach [] X.env)).all (λx=>x.1.isSome)
   && decide ((e::es).length+([]:List Keyword).length+(if ([]:List Keyword).isEmpty then 0 else 1) < 30))=true:=by rfl)
  (ES:(apos.endLine == fE.line)=true:=by rfl)(hs:starEach (e::es) X.env=(false,eval e X.env)::starEach es X.env:=by rfl)(qX:(backTo fE (starEach es X.env)).any (·.1)=false:=by rfl) :
  PE X (.Call (.Attribute o name apos) (e::es) [] fE) (V4 X.K T r to t):=by
 intro ah s σ H Q I h;refine wpAny_Call_method_late EY KY ES rfl (cS (ho ah s σ H _ I h) λv s1 bh=>?_);obtain⟨x,H1,I1,r1,ty,q1⟩:=bh;obtain⟨h1,h2⟩:=Jt I1 r1 ty;refine⟨T,id,pa,slot,Ta,h1,h2,?_⟩;have hA:=ha fE ah s1 σ H1 _ I1 q1;rw [hs] at hA ⊢;refine uD (by show (false || (backTo fE (starEach es X.env)).any (·.1))=false;rw [qX] <;> rfl) (uw ?_)
 refine cS hA λus s2 bh=>?_;obtain⟨vs,H2,I2,r2,q2⟩:=bh;exact hm ah s2 σ H2 x vs v us Q I2 r1 r2 q2
end
def FC (X:Cx)(id:String)(r:V->List V->Hp->VK->Prop):Prop :=
 ∀(ah:List (Addr×Obj))(s:Shared)(σ:St)(H:Hp)(x:V)(xs:List V)(v:Value)(us:List Value)(Q:VK),Inv X ah σ H s->RelV x v->aT xs us->r x xs H Q ->
  wpAny (model X.prog X.w) X.A (call (.builtin id) (v::us)) (EP X ah σ Q) X.xe s
def aT.one:∀{x:V}{us:List Value},aT [x] us->∃u,us=[u]/\RelV x u
 | _,_,.cons r .nil=>⟨_,rfl,r⟩
def aT.two:∀{x y:V}{us:List Value},aT [x,y] us->∃u v,us=[u,v]/\RelV x u/\RelV y v
 | _,_,_,.cons r (.cons q .nil)=>⟨_,_,rfl,r,q⟩
def aT.zero:∀{us:List Value},aT [] us->us=[]
 | _,.nil=>rfl
theorem aT.reverse {xs:List V}{us:List Value}(h:aT xs us):aT xs.reverse us.reverse:=by
 induction h with
 | nil=>exact .nil
 | cons r t ih=>rw [List.reverse_cons,List.reverse_cons];exact aT.append ih (.cons r .nil)
section
variable {X:Cx}{ah:List (Addr×Obj)}{σ:St}{H:Hp}{s:Shared}{l b:Addr}{xs ys zs:List V}
def Inv.Kq {aJ lO:List Value}{n:Nat}{f:Array Value->Array Value}{t':Nat}(I:Inv X ah σ H s)(hH:H l=some (.lst xs))
  (e:s.heap.get? l=some { cls:=.type "list",data:=.seq aJ.toArray n })(hf:f aJ.toArray=lO.toArray)(hv:aT ys lO)(hz:ys.length<=sizeLine) :
  Inv X ah σ (upd H l (.lst ys)) { s with heap:=s.heap.update l (Obj.mapSeq f),toks:=t' }:=by
 have q:=PySem.IsL.update e f;rw [hf] at q;refine I.write (x:=l) (e:=l) (by rw [hH];exact trivial) (.inl rfl) (λb' u hb hu=>(Heap.get?_update_other s.heap (Obj.mapSeq f) (fY hb)).trans hu) ⟨_,q⟩ ?_;exact⟨hz,lO,_,hv,q⟩
def Inv.Ss {aJ:List Value}{t':Nat}(I:Inv X ah σ H s)(hv:aT ys aJ)(hz:ys.length<=sizeLine) :
  Inv X ah σ (upd H s.heap.objs.size (.lst ys)) { s with heap:=s.heap.push { cls:=.type "list",data:=.seq aJ.toArray },toks:=t' } :=
 I.laid (λ_ _ q=>bZ _ q) (aL _) ⟨hz,aJ,0,hv,de _ rfl⟩
theorem Inv.fresh (I:Inv X ah σ H s):H s.heap.objs.size=none:=I.bU.fresh (aL _)
def Inv.BZ (I:Inv X ah σ H s)(hH:H l=some (.lst xs)):xs.length<=sizeLine/\∃(aJ:List Value) (n:Nat),aT xs aJ/\xs.length=aJ.length/\s.heap.get? l=some { cls:=.type "list",data:=.seq aJ.toArray n }:=by
 obtain⟨z,aJ,n,r,e⟩:=I.bU l _ hH;exact⟨z,aJ,n,r,r.length,e⟩
def En {n:Nat}(h:n<=sizeLine):Builtin.List.listTooLong n=false:=by
 unfold Builtin.List.listTooLong;exact gy ∅
end
section
variable {X:Cx}
inductive Pm (H:Hp)(x:V)(vs:List V)(R:Addr->List V->V->Prop):Prop
|mk(l:Addr)(xs:List V)(y:V)(e:x=.ref l)(e2:vs=[y])(h:H l=some (.lst xs))(z:xs.length < sizeLine)(q:R l xs y)
def G1:V->List V->Hp->VK->Prop:=λx vs H Q=>Pm H x vs λl xs y=>Q .d5 (upd H l (.lst (xs++[y])))
def bX:FC X "list.append" G1:=by
 intro ah s σ H x vs v us Q I rx rv h;obtain⟨l,xs,y,rfl,rfl,hH,hz,q⟩:=h;cases rx;obtain⟨u,rfl,ru⟩:=rv.one;obtain⟨z,aJ,n,r,hl,e⟩:=I.BZ hH;refine call_meets F.slot_list_append ⟨_,e,rfl⟩ F.entry_list_append (F.args_list_append_2 _ _) (PySem.list_append l aJ.toArray n u (by rw [bO];omega)) ⟨e,?_⟩;refine⟨.d5,_,I.Kq (lO:=aJ++[u]) hH e (by simp) (r.append (.cons ru .nil)) ?_,rfl,q⟩;rw [bW,uE];omega
def G0:V->List V->Hp->VK->Prop:=λx vs H Q=>∃l b xs zs,x=.ref l/\vs=[.ref b]/\H l=some (.lst xs)/\H b=some (.lst zs)/\xs.length+zs.length<=sizeLine/\Q .d5 (upd H l (.lst (xs++zs)))
def BV:FC X "list.extend" G0:=by
 intro ah s σ H x vs v us Q I rx rv h;obtain⟨l,b,xs,zs,rfl,rfl,hH,hB,hz,q⟩:=h;cases rx;obtain⟨u,rfl,ru⟩:=rv.one;cases ru;obtain⟨z,aJ,n,r,hl,e⟩:=I.BZ hH;obtain⟨z2,eY,n2,r2,oy,e2⟩:=I.BZ hB;have hsz:aJ.toArray.size+eY.toArray.size<=sizeLine:=by rw [bO,bO];omega
 have Oy:¬(!aJ.toArray.isEmpty && Builtin.List.listTooLong (aJ.toArray.size+eY.toArray.size))=true:=by
  rw [En hsz,Bool.and_false];exact dJ
 refine call_meets F.slot_list_extend ⟨_,e,rfl⟩ F.entry_list_extend (F.args_list_extend_2 _ _)
  (AutoSeq1.list_extend_list_list_0 l aJ.toArray n b eY.toArray n2 Oy (by rw [bO];omega) ∅) ⟨e,e2,?_⟩
 refine⟨.d5,_,I.Kq (lO:=aJ++eY) hH e (by simp) (r.append r2) ?_,rfl,q⟩;rw [bW];omega
def RQ:R2:=λx y H Q=>Y7 (λl xs=>H l=some (.lst xs)) x y λxs zs=>∀p,H p=none->Q (.ref p) (upd H p (.lst (xs++zs)))
def h_:kU X (binaryOp .Add) RQ:=by
 intro ah s σ H x y v u Q I rx ry h;obtain⟨l,b,xs,zs,rfl,rfl,hH,hB,hz,q⟩:=h;cases rx;cases ry;obtain⟨z,aJ,n,r,hl,e⟩:=I.BZ hH;obtain⟨z2,eY,n2,r2,oy,e2⟩:=I.BZ hB;refine PySem.P.add_list e e2 ?_ (by rw [bO,bO];omega);have ea:aJ.toArray++eY.toArray=(aJ++eY).toArray:=by simp
 rw [ea];exact⟨.ref _,_,I.Ss (t':=s.toks) (r.append r2) (by rw [bW];omega),rfl,q _ I.fresh⟩
end
section
variable {prog:Program}{w:World}{A:Around}{E:Value->Shared->Prop}{s:Shared}
set_option maxRecDepth 100000 in
end
section
variable {X:Cx}
end
end L2
namespace Gd
open PySem PySem.W PySem.Calls PyProof.Rows
def pz {P:Params}{h:Heap}:∀(ns:List Int)(vs:List Value),WellAll P h vs (ns.map WData.int)->IntsAre vs ns:=by
 intro ns
 induction ns with
 | nil =>
  intro vs w;rw [jm] at w;cases w;exact .nil
 | cons n ns ih =>
  intro vs w;rw [br] at w;cases w with
  | cons a b =>
   cases a;exact .cons _ _ (ih _ b)
def Bs {l:OpenLaw}{n:Nat}(hn:l.most=some n){P:Params}{h:Heap}{args:List WData}{vals:List Value}
  (Hz:l.row.toRowW.claim.pre args=true)(KH:WellAll P h vals args) :
  ∃a vs ns,vals=[Value.ref a]/\args=[WData.list (ns.map WData.int)]/\h.get? a=some { cls:=.type "list",data:=.seq vs.toArray }/\IntsAre vs ns/\ns.length<=n:=by
 have hsh:WShape.hasAll [] args [.list .int]=true:=(pre_splitW Hz).1;have hc:l.pre.holds [] { args:=args }=true:=(pre_splitW Hz).2;obtain⟨d,r,rfl,h1,h2⟩:=hasAllW_cons hsh;obtain rfl:=hasAllW_nil h2;obtain⟨xs,rfl,h3⟩:=hasW_list h1;obtain⟨ns,rfl⟩:=items_int h3;have bM:ns.length<=n:=by
  unfold OpenLaw.pre at hc;have h4:(WTm.not (.lt (.lit (.int (n:Int))) (.len (.arg 0)))).holds [] { args:=[.list (ns.map .int)] }=true:=by
   have h4:=(holds_andW hc).1;rw [hn] at h4;exact h4
  have h5:=condW_of h4 (w_not (w_lt w_lit (w_len_list (w_arg rfl))));rw [av] at h5;refine Nat.le_of_not_lt λq=>?_;have q':(n:Int) < ((ns.length:Nat):Int):=by omega
  first
   | (rw [fO q'] at h5;exact absurd h5 nofun)
   | (simp at h5;omega)
 cases KH with
 | cons w1 w2 =>
  cases w2;cases w1 with
  | list ho pB=>exact⟨_,_,ns,rfl,rfl,ho,pz ns _ pB,bM⟩
def Bw (l:OpenLaw)(args:List WData):l.row.toRowW.claim.post args (.bool true) args=true :=
 postW_of (r:=l.row.toRowW) (X:=(true == true))
  (show WShape.has [] (.bool true) .bool=true by first | rfl | decide | simp [WShape.has,WShape.arms,WShape.armsAll])
  (show (WTm.eq .res (.lit (.bool true))).value [] { args:=args,res:=some (.bool true),after:=args }=some (.bool (true == true)) from w_eq_bool (w_res rfl) w_lit) rfl
def pb {l:OpenLaw}{n:Nat}{q:Program}{loose:List Str}{XP:(Str->Option Value)->Heap->Prop}{YP:World->Heap->Prop}{d:DefRec}
  (hn:l.most=some n)(KZ:d.params.defaults=[])
  (call:∀(w:World)(s₀ s₁:Shared)(mg mb:Str->Option Value)(fa:Addr)(o:Obj)(pm cd doc:Value)(a:Addr)(vs:List Value)(ns:List Int),
   Ground q loose [] XP w s₀ mg mb s₁.heap->YP w s₁.heap ->
   s₁.heap.get? fa=some o->o.data=.func (docDef d.name d.params d.body d.scope pm cd doc)->s₁.heap.CodeRec cd d.name->mg d.name=some (.ref fa) ->
   s₁.heap.get? a=some { cls:=.type "list",data:=.seq vs.toArray }->IntsAre vs ns->ns.length<=n->s₁.gens=#[] ->
   codeAny (model l.prog w) callerA (.call (.ref fa) ⟨[.ref a],[]⟩) (λr s'=>r=.ok (.ret (.bool true))/\OldK s₁.heap s'.heap/\s'.os=s₁.os/\AllBare s'.gens) s₁) :
  WalkO q loose XP YP l.row.toRowW d [] (λf vs=>PySem.call f vs):=by
 intro w s₀ s₁ mg mb G Y fa o pm cd doc dV kV ho hd vF hD KQ hg args vals as Hz aan hrd KH hlo;obtain rfl:dV=.none:=Dflts.none hD KZ;obtain rfl:kV=.none:=Dflts.noKw hD;obtain⟨a,vs,ns,rfl,rfl,EO,hints,bM⟩:=Bs hn Hz KH;refine enter_call (jK (call w s₀ s₁ mg mb fa o pm cd doc a vs ns G Y ho (fd_plain hd) vF KQ EO hints bM hg) λr s' hq=>?_);obtain⟨rfl,h2,h3,h4⟩:=hq;exact⟨.inl ⟨.bool true,.bool true,[],rfl,λ_=>rfl,.bool true,Bw l _,λ_=>⟨List.Pairwise.nil,λ_ hm=>(nomatch hm)⟩⟩,h2,h3,h4⟩
section
variable {prog:Program}{w:World}{A:Around}{E:Value->Shared->Prop}{s:Shared}{K:Frag}
def qM (h:Heap):Heap:={ h with objs:=#[] }
def lG (h:Heap)(b:Addr):(qM h).get? b=none:=by
 cases e:(qM h).get? b with
 | none=>rfl
 | some o=>exact absurd (bc e) (Nat.not_lt_zero _)
def ledger (h:Heap)(L d:Addr):List (Addr×Obj):=(List.range h.objs.size).filterMap λa=>if a=L\/a=d then none else (h.get? a).map λo=>(a,o)
def jh {h:Heap}{L d a:Addr}{o:Obj}:(a,o)∈ledger h L d↔a≠L/\a≠d/\h.get? a=some o:=by
 unfold ledger;rw [ux];constructor
 .rintro⟨b,_,e⟩
  split at e
  .cases e
  rename_i hb
  obtain⟨o',ho,e'⟩:=b_.mp e;cases e';exact⟨λq=>hb (.inl q),λq=>hb (.inr q),ho⟩
 rintro⟨n1,n2,ho⟩;refine⟨a,lZ.mpr (bc ho),?_⟩;rw [ay (show ¬(a=L\/a=d) from λq=>q.elim n1 n2),ho] <;> rfl
def wR {h:Heap}{L d:Addr}{od:Obj}(pR:d≠L)(ho:h.get? d=some od):News (qM h) L h ([]++(d,od)::ledger h L d):=by
 rintro⟨a,o⟩ hp;rcases aW.mp hp with e | hp
 .cases e;exact⟨ho,pR,lG _ _⟩
 obtain⟨n1,n2,e⟩:=jh.mp hp;exact⟨e,n1,lG _ _⟩
def Lc {h:Heap}{L:Addr}{m:Str->Option Value}(n:h.Ns L m):Fr (qM h) L h m :=
 ⟨n,λb o e=>(by rw [lG] at e;cases e),dD _⟩
end
end Gd
namespace L2
open PySem PySem.Spec PyProof.Rows
theorem nY:∀{vs:List Value}{ns:List Int},IntsAre vs ns->aT (ns.map V.int) vs
 | _,_,.nil=>.nil
 | _,_,.cons n t h=>.cons ⟨t,rfl⟩ (nY h)
def LH (H:Hp):Prop:=∀b,H b=none\/∃o xs,H b=some (.jD o (.lst xs))
def EE {P:Program}{w:World}{K:aY}{mg mb:Str->Option Value}{CX:xZ}{k:Nat}{fa a:Addr}{fd:FuncData}{x:Str}{sp:Sp}{s₁:Shared}{vs:List Value}{ns:List Int}
  (KX:K.In s₁.heap)(vC:s₁.heap.Ns mainGlobals mg)(hb:s₁.heap.Ns builtinsNs mb)(K2:∀x:Str,x ≠ "__name__" -> mb x=bootBuiltins x)(KR:s₁.heap.NoLimit)(hg:s₁.gens=#[])
  (ha:s₁.heap.get? a=some { cls:=.type "list",data:=.seq vs.toArray })(hi:IntsAre vs ns)(hl:ns.length<=sizeLine)(hr:eP k callerA)
  (F:∀base:Heap,K.In base->base.Ns mainGlobals mg->bS P w K mg base CX k fa fd [x] sp)(mX:∀(s:Shared)(u:Value),BindsTo s fd ⟨[u],[]⟩ [(x,u)])
  (xS:∀H:Hp,LH H->aD K H a (ns.map V.int)->sp [.ref a] H (λv _=>v=.bl true) λ_ _ _=>False)
  (K9:∀H e s',CX [] H s₁ (λ_ _ _=>False) e s'->False) :
  codeAny (model P w) callerA (.call (.ref fa) ⟨[.ref a],[]⟩) (λr s'=>r=.ok (.ret (.bool true))/\OldK s₁.heap s'.heap/\s'.os=s₁.os/\AllBare s'.gens) s₁:=by
 have rv:=nY hi;have Kv:=hi.length;have core:∀H:Hp,LH H->aD K H a (ns.map V.int)->kX P w H s₁.heap->(∀b,H b≠none->b=a)->(H a≠none->K.lookup a=none) ->
   codeAny (model P w) callerA (.call (.ref fa) ⟨[.ref a],[]⟩) (λr s'=>r=.ok (.ret (.bool true))/\OldK s₁.heap s'.heap/\s'.os=s₁.os/\AllBare s'.gens) s₁:=by
  intro H hO hS bU hA hK;have kr:∀{b:Addr}{o:Obj},s₁.heap.get? b=some o->H b=none->(lP s₁.heap H).get? b=some o:=λe n=>w_ e n;have NA:∀{b:Addr}{o:Obj}{es:Array DictEntry}{ep:Nat},s₁.heap.get? b=some o->o.data=.dict es ep->H b=none:=λ{b o es ep} e d=>by
   cases q:H b with
   | none=>rfl
   | some u =>
    have e':b=a:=hA b (by rw [q];simp);subst e';rw [ha] at e;cases e;have d':Data.seq vs.toArray _=Data.dict es ep:=d;cases d'
  have Hm:∀{b:Addr}{m:Str->Option Value},s₁.heap.Ns b m->(lP s₁.heap H).Ns b m:=λ{b m} ⟨o,es,ep,e,d,r⟩=>⟨o,es,ep,kr e (NA e d),d,r⟩;have OK:K.In (lP s₁.heap H):=λb o e=>kr (KX b o e) (by
   cases q:H b with
   | none=>rfl
   | some u =>
    have e':b=a:=hA b (by rw [q];simp);subst e';rw [hK (by rw [q];simp)] at e;cases e)
  have hM:Mod K mg (lP s₁.heap H):=⟨OK,Hm vC,⟨mb,Hm hb,K2⟩,let ⟨mc,h1,h2⟩:=KR;⟨mc,Hm h1,h2⟩⟩;have e0:pH P w K mg (lP s₁.heap H) callerA [] s₁ H:=⟨rfl,hM,λb o e=>AO e,Nat.le_of_eq (tT _ _),trivial,λb hb=>absurd (show b∈([]:List Addr) from hb) (by simp),bU,.of_eq hg⟩;refine jK ((F _ OK (Hm vC)).run callerA [] s₁ H ⟨[.ref a],[]⟩ [.ref a] [.ref a] _ _ hr e0 (mX s₁ (.ref a)) (.cons rfl .nil) (xS H hO hS)) λr s' h=>?_;cases r with
  | error e=>exact(K9 H e s' h).elim
  | ok fl =>
   cases fl with
   | next=>exact False.elim h
   | brk=>exact False.elim h
   | cont=>exact False.elim h
   | ret u =>
    obtain⟨v,H',os,bare,un,HA,r',q⟩:=h;have q':v=.bl true:=q;subst q';obtain rfl:u=Value.bool true:=r';refine⟨rfl,OldK.of_keep λb o e=>?_,os,bare⟩;cases q:H b with
    | none=>exact un.keep b o e q (by intro z;exact absurd (show b∈([]:List Addr) from z) (by simp)) (by simp)
    | some u =>
     rcases hO b with z | ⟨ob,xs,z⟩
     .rw [q] at z;cases z
     have z2:=un.lR b ob _ z;obtain⟨e1,_⟩:=bU b _ z;obtain⟨e2,_⟩:=HA b _ z2;rw [e] at e1;cases e1;exact e2
 cases hk:K.lookup a with
 | some o =>
  have e:=KX a o hk;rw [ha] at e;cases e;refine core (λ_=>none) (λ_=>.inl rfl) (.inr ⟨_,vs.toArray,_,hk,rfl,rfl,rfl,by rw [bO,Kv];exact hl,by simpa using rv⟩) (λb u z=>by have z':(none:Option HO)=some u:=z;cases z') (λb z=>absurd rfl z) λz=>absurd rfl z
 | none =>
  refine core (λb=>if b=a then some (.jD { cls:=.type "list",data:=.seq vs.toArray } (.lst (ns.map V.int))) else none) (λb=>?_) (.inl (.inr ⟨{ cls:=.type "list",data:=.seq vs.toArray },az rfl⟩)) (λb u z=>?_) (λb z=>?_) λ_=>hk
  .by_cases hb:b=a
   .exact .inr ⟨_,_,az hb⟩
   exact .inl (ay hb)
  .by_cases hb:b=a
   .have z':=(az hb).symm.trans z;cases z';subst hb;exact⟨ha,by rw [av];exact hl,vs,_,rv,ha⟩
   have z':=(ay hb).symm.trans z;cases z'
  by_cases hb:b=a
  .exact hb
  exact absurd (ay hb) z
abbrev KOf {K:aY}{h:Heap}(_:K.In h):aY:=K
def PF {l:PySem.W.OpenLaw}{n k:Nat}{q:Program}{loose:List Str}{XP:(Str->Option Value)->Heap->Prop}{YP:World->Heap->Prop}{d:DefRec}{K:Params->aY}{CX:World->xZ}{sp:World->Sp}{x:Str}
  (hn:l.most=some n)(IU:n<=sizeLine)(KZ:d.params.defaults=[])(hr:eP k callerA)
  (hY:∀(w:World)(h:Heap),YP w h->(K w.params).In h)
  (F:∀(w:World)(mg:Str->Option Value)(fa:Addr)(h:Heap),(K w.params).In h->h.Ns mainGlobals mg->mg d.name=some (.ref fa) ->
   ∃fd:FuncData,(∀(s:Shared)(u:Value),BindsTo s fd ⟨[u],[]⟩ [(x,u)]) /\
    ∀base:Heap,(K w.params).In base->base.Ns mainGlobals mg->bS l.prog w (K w.params) mg base (CX w) k fa fd [x] (sp w))
  (xS:∀(w:World)(H:Hp)(a:Addr)(ns:List Int),ns.length<=n->LH H->aD (K w.params) H a (ns.map V.int)->sp w [.ref a] H (λv _=>v=.bl true) λ_ _ _=>False)
  (K9:∀(w:World)(H:Hp)(s:Shared)(e:Value)(s':Shared),CX w [] H s (λ_ _ _=>False) e s'->False) :
  PySem.W.WalkO q loose XP YP l.row.toRowW d [] (λf vs=>PySem.call f vs):=by
 refine Gd.pb hn KZ λw s₀ s₁ mg mb fa o pm cd doc a vs ns G Y ho hd vF KQ EO hints bM hg=>?_;have KX:=hY w _ Y;obtain⟨fd,hb,hF⟩:=F w mg fa _ KX G.T.g KQ;exact EE KX G.T.g G.T.b G.T.builtins G.T.nolimit hg EO hints (dI bM IU) hr hF hb (λH hO hS=>xS w H a ns bM hO hS) λH e s'=>K9 w H s₁ e s'
def du (s:Stmt):Arguments:=match s with
 | .FunctionDef _ a _ _ _ _ _ _ _ _=>a
 | _=>{ posonlyargs:=[],args:=[],vararg:=none,kwonlyargs:=[],kw_defaults:=[],kwarg:=none,defaults:=[] }
def cg (s:Stmt):List Stmt:=match s with
 | .FunctionDef _ _ b _ _ _ _ _ _ _=>b
 | _=>[]
def ax (s:Stmt):Scope:=match s with
 | .FunctionDef _ _ _ _ _ _ sc _ _ _=>sc
 | _=>{ kind:=.function,names:=[],isGenerator:=false,isCoroutine:=false }
abbrev fu:xZ:=λ_ _ _ _ _ _=>False
abbrev E0:XK:=λ_ _ _=>False
def oZ {X:Cx}:Passes fu X E0:=λ_ _ _ _ _ _ _ h=>h.elim
structure ig (K:aY)(x qual:Str)(st:Stmt)(f:Addr)(fd:FuncData):Prop where
 ex:∃(oc:Value)(od:Option Addr)(kV doc pm:Value)(an:Option Addr)(eB ct:Value)(wK:Array (Option Value)),
  fd=PySem.W.fnOf x qual (du st) (cg st) (ax st) .none kV doc pm an eB ct/\K.lookup f=some ⟨oc,od,.func fd,wK⟩/\PySem.W.codeIn K eB qual=true
 kp:PySem.W.keepIn K (.ref f)=true
section
variable {P:Program}{w:World}{K:aY}{mg:Str->Option Value}{base:Heap}
def ig.ok {x qual:Str}{st:Stmt}{f:Addr}{fd:FuncData}{N ps:List Str}{k:Nat}{sp:Sp}(F:ig K x qual st f fd)(S:aK N ps (ax st))(len:∀vs H Q E,sp vs H Q E->vs.length=ps.length)
  (iW:∀(eB:Value)(A:Around)(outer:List Env)(s:Shared)(H:Hp)(vs:List V)(Q:VK)(E:XK),eP k (A.deeper (envOfC qual (ax st) s.heap.objs.size f eB))->sp vs H Q E ->
   ∃t,z7 (oG fu P w K mg base N qual (ax st) f eB A outer s H E).BO (cg st) t/\t { nx:=λ_ H'=>Q .d5 H',rt:=Q } (start N vs) H):bS P w K mg base fu (k+1) f fd ps sp:=by
 obtain⟨oc,od,kV,doc,pm,an,eB,ct,wK,rfl,lk,vF⟩:=F.ex;refine E9 lk vF S len λA outer s H vs Q E hr xS=>?_;obtain⟨t,h,q⟩:=iW eB A outer s H vs Q E hr xS;exact⟨t,h.BO,q⟩
def ig.binds {x qual:Str}{st:Stmt}{f:Addr}{fd:FuncData}{ps:List Str}(F:ig K x qual st f fd)
  (h:∀(kV doc pm:Value)(an:Option Addr)(eB ct:Value)(us:List Value),us.length=ps.length->bindArgs (PySem.W.fnOf x qual (du st) (cg st) (ax st) .none kV doc pm an eB ct) ⟨us,[]⟩=pure (ps.zip us)):Binds K fd ps []:=by
 obtain⟨oc,od,kV,doc,pm,an,eB,ct,wK,rfl,lk,vF⟩:=F.ex;exact .all (h kV doc pm an eB ct)
def E6 {x qual:Str}{st:Stmt}{f:Addr}{oc:Value}{od an:Option Addr}{wK:Array (Option Value)}{kV doc pm eB ct:Value}(l:K.lookup f=some ⟨oc,od,.func (PySem.W.fnOf x qual (du st) (cg st) (ax st) .none kV doc pm an eB ct),wK⟩)
  (c:PySem.W.codeIn K eB qual=true)(k:PySem.W.keepIn K (.ref f)=true):ig K x qual st f (PySem.W.fnOf x qual (du st) (cg st) (ax st) .none kV doc pm an eB ct):=⟨⟨oc,od,kV,doc,pm,an,eB,ct,wK,rfl,l,c⟩,k⟩
end
def gp {A:Around}{k:Nat}(hr:eP k A):A.units+1 < cLine:=oR (Nat.add_le_add_left (by decide:1<=64) _) hr.units
section
variable {X:Cx}
def pv (i:Nat){x:Str}{pos:Pos}(hN:X.N[i]?=some x:=by rfl)(hv:QR X.env.scope x:=by first | exact Or.inl rfl | exact Or.inr (bJ rfl) | exact Or.inr (Or.inr rfl))(hd:(x == ("__debug__":Str))=false:=by decide)
  (vF:(x == ("__classdict__":Str))=false:=by decide):PE X (.Name x pos) (gF i):=J0 hN hv hd vF
end
def gI {A B:Prop}(h:B):if false=true then A else B:=by
 rw [ay dJ];exact h
def ow {A B:Prop}(h:A):if true=true then A else B:=by
 rw [az rfl];exact h
def dA {c A B:Prop} [Decidable c] (h1:c->A)(h2:¬c->B):if c then A else B:=by
 by_cases h:c
 .rw [az h];exact h1 h
 rw [ay h];exact h2 h
def aC (H H':Hp):Prop:=∀b o,H b=some o->H' b=some o
def aC.refl (H:Hp):aC H H:=λ_ _ h=>h
def aC.trans {H H1 H2:Hp}(a:aC H H1)(b:aC H1 H2):aC H H2:=λc o h=>b c o (a c o h)
def aC.free {H H':Hp}(e:aC H H'){l:Addr}(h:H' l=Option.none):H l=Option.none:=by
 cases q:H l with
 | none=>rfl
 | some o =>
  rw [e l o q] at h;cases h
def aC.seq {K:aY}{H H':Hp}{a:Addr}{xs:List V}(e:aC H H')(h:aD K H a xs):aD K H' a xs:=by
 rcases h with (h | ⟨o,h⟩) | h
 .exact .inl (.inl (e _ _ h))
 .exact .inl (.inr ⟨o,e _ _ h⟩)
 exact .inr h
end L2
namespace HD
open PySem PySem.W
def DC (st:SharedT->Thread->Option (SharedT×Thread))(ok:Thread->Bool):Nat->SharedT->Thread->Option SharedT
 | 0,_,_=>none
 | n+1,s,t=>match through t with
  | true=>some s
  | false=>match ok t with
   | false=>none
   | true=>match st s t with
    | some (s',t')=>DC st ok n s' t'
    | none=>none
theorem AH {tb:String->Option Builtin}{p:Program}{w:World}{n₀:Nat}{ann:Option Value}:∀{n:Nat}{s s':SharedT}{t:Thread},DC (stepT (denote tb) p w) (stepOk n₀ ann) n s t=some s'->topRun tb p w n₀ ann n s.abs t=some s'.abs
 | 0,_,_,_,h=>by cases h
 | n+1,s,s',t,h=>by
  unfold DC at h;unfold topRun;cases he:through t with
  | true=>rw [he] at h;cases h;rfl
  | false =>
   rw [he] at h;cases hk:stepOk n₀ ann t with
   | false=>rw [hk] at h;cases h
   | true =>
    rw [hk] at h;cases hs:stepT (denote tb) p w s t with
    | none=>rw [hs] at h;cases h
    | some r=>obtain⟨s₂,t₂⟩:=r;rw [hs] at h;rw [stepT_spec hs];exact AH h
def Wm:List Obj->Nat->BT->BT
 | [],_,t=>t
 | o::r,i,t=>Wm r (i+1) (t.ins i o)
noncomputable def Bb (P:Params):BT:=Wm (boot_heap P).objs.toList 0 .nil
def Cv (P:Params):absHeap (Bb P) 11 {}=boot_heap P:=by kernel_rfl
def Lg {β:Type}:Obj->(Obj->β)->β
 | ⟨c,d,t,s⟩,k=>k ⟨c,d,t,s⟩
def pS {β:Type}:List Obj->(List Obj->β)->β
 | [],k=>k []
 | x::r,k=>Lg x λy=>pS r λys=>k (y::ys)
theorem q9 {β:Type}:∀(l:List Obj)(k:List Obj->β),pS l k=k l
 | [],_=>rfl
 | ⟨c,d,t,s⟩::r,k=>by
  show pS r (λys=>k (⟨c,d,t,s⟩::ys))=_;rw [q9 r]
def EB (p q:Program) (loose:List Str)(Xt:Shared->Bool){α:Type}(Yf:Shared->α)(g0:Bool)(h₀:Heap)(s:Shared) :=
 ((staticsOk (importedModules p.main.body) h₀ s.heap && namesBound p s.heap && gensDone s && laidKept h₀ s.heap),openSeen q loose (importedModules p.main.body) Xt g0 s,Yf s)
def Dr {β:Type}(f:Shared->β)(s:SharedT):β:=pS (s.tree.list s.n) λl=>f ⟨⟨l.toArray,s.life⟩,s.gens,s.drawn,s.toks,s.os⟩
def Dq {β:Type}(f:Shared->β)(s:SharedT):Dr f s=f s.abs:=q9 _ _
def NM {p q:Program}{loose:List Str}{Xt:Shared->Bool}{α:Type}{Yf:Shared->α}{Ya:World->α}{N:Nat}{g0:Bool}{ann:Option Value}{M:Nat}
  (DU:∀w:World,(fencedOpening treeTable p w N).map (λs=>(s.heap,s.gens,s.drawn,s.toks))=some (boot_heap w.params,Array.mk [],boot_drawn,boot_toks))
  (size:∀w:World,((boot_heap w.params).isNs mainGlobals && (Array.mk []:Array GenState).size == 0,(boot_heap w.params).objs.size,(boot_heap w.params).nsMap mainGlobals "__annotations__")=(true,11,ann))
  (run:∀(w:World)(os:OsState),(DC (stepT (denote treeTable) p w) (stepOk 11 ann) M ⟨Bb w.params,11,{},Array.mk [],boot_drawn,boot_toks,os⟩ (topStub p)).map (Dr (EB p q loose Xt Yf g0 (boot_heap w.params)))=some (true,openGood q loose,Ya w))
  (le:Nat.ble M N=true):LeftO p q loose Xt Yf Ya N g0:=λw=>by
 obtain⟨⟨h,gs,d,k,os⟩,e,e'⟩:=b_.mp (DU w);obtain⟨rfl,rfl,rfl,rfl⟩:h=boot_heap w.params/\gs=Array.mk []/\d=boot_drawn/\k=boot_toks:=by simpa using e'
 obtain⟨z1,z2,z3⟩:_/\_/\_:=by simpa only [qa] using size w
 obtain⟨s',r0,l0⟩:=b_.mp (run w os);rw [Dq] at l0;obtain⟨l1,l2,l3⟩:_/\_/\_:=by simpa only [EB,qa] using l0
 have r:=AH r0;have ea:SharedT.abs ⟨Bb w.params,11,{},Array.mk [],boot_drawn,boot_toks,os⟩=⟨boot_heap w.params,Array.mk [],boot_drawn,boot_toks,os⟩:=by
  unfold SharedT.abs;rw [Cv]
 rw [ea] at r;have r:=topRun_mono (N - M) _ _ _ _ r;rw [show M+(N - M)=N by have:=Nat.le_of_ble_eq_true le;omega] at r;have t:topFrom treeTable p w N ⟨boot_heap w.params,Array.mk [],boot_drawn,boot_toks,os⟩=some s'.abs:=by
  unfold topFrom;dsimp only;rw [z1,z2,z3,r];show (match staticsOk (importedModules p.main.body) (boot_heap w.params) s'.abs.heap && namesBound p s'.abs.heap && gensDone s'.abs && laidKept (boot_heap w.params) s'.abs.heap with | true=>_ | false=>_)=_
  rw [l1]
 unfold openEnds;rw [e];show (topFrom treeTable p w N _).map _=_;rw [t];exact congrArg some (Prod.ext l2 l3)
end HD
set_option maxHeartbeats 0
namespace HD
open PySem PySem.W L2 PySem.Challenge
def dE (P:Params)(x:Str)(t:Tok)(v:Value):DictEntry:=⟨PyData.keyHash P x,.str x t,v⟩
def top (p:Program) (i:Nat):Stmt:=p.main.body.getD i (.Pass ⟨0,0,0,0⟩)
def iH (p:Program) (i j:Nat):Stmt:=match top p i with
 | .ClassDef _ _ _ body _ _ _ _ _ _ _=>body.getD j (.Pass ⟨0,0,0,0⟩)
 | _=>.Pass ⟨0,0,0,0⟩
def posOf (s:Stmt):Pos:=match s with
 | .FunctionDef _ _ _ _ _ _ _ _ _ p=>p
 | _=>⟨0,0,0,0⟩
def cF (a:Addr)(n q:Str)(i:Nat)(l m:Int)(x y:Addr)(u v s t:Value)(z:Int)(w:Nat):Addr×Obj:=(a,⟨.type "code",none,.fields #[.str n i,.str q (i+1),.str "/claim/cut.py" (i+2),.int l 0,.int m 0,.int 0 0,.int 0 0,.int 3 0,.ref x,.bool true,.int 181 0,.ref y,u,v,s,t,.int z 0,.int l 0,.str "/claim/cut.py" w],#[]⟩)
def fF (a:Addr)(n q:Str)(s:Stmt)(m:Value):Addr×Obj:=(a,⟨.type "function",none,.func (fnOf n q (du s) (cg s) (ax s) .none .none .none m none (.ref (a-1)) .none),#[]⟩)
def dR (P:Params)(x:Str)(t:Tok)(a:Addr):DictEntry:=dE P x t (.ref a)
def m0:Value:=.str "__main__" 164
def m1:Value:=.str "wright.errors" 194
def m2:Value:=.str "wright.rules" 380
def m3:Value:=.str "wright.begin_tables" 412
def m4:Value:=.str "wright.loops" 506
def m5:Value:=.str "wright.tree_sizes" 536
def m6:Value:=.str "wright.grammar_faults" 557
def m7:Value:=.str "wright.least_trees" 584
def m8:Value:=.str "wright.grammars" 670
def m9:Value:=.str "wright.grammar_texts" 713
def r9:Value:=.str "law_wright_k15_grammars_read" 776
noncomputable def K' (p:Program)(P:Params):Frag:=[
 (2,⟨.none,none,.dict #[] 0,#[]⟩),
 (3,⟨.type "dict",none,.dict #[dE P "__name__" 165 (.str "law_wright_k15_grammars_read" 776),dE P "__doc__" 166 (.none),dE P "__package__" 167 (.none),dE P "__loader__" 168 (.builtin "__main__.__loader__#opaque"),dE P "__spec__" 169 (.none),dR P "__annotations__" 170 6,dR P "__builtins__" 171 4,dE P "__file__" 173 (.str "/claim/cut.py" 172),dE P "__cached__" 174 (.none),dR P "_wall" 193 21,dR P "WrightError" 213 31,dR P "NoRow" 238 51,dR P "NoRules" 254 63,dR P "Twice" 279 82,dR P "Endless" 304 101,dR P "Unmet" 329 120,dR P "Loop" 354 139,dR P "Vast" 379 158,dR P "heads_of" 387 165,dR P "words_in" 393 170,dR P "numbers_by_name" 399 175,dR P "standings_by_part" 411 182,dR P "found_empties" 419 187,dR P "first_places" 430 194,dR P "BeginTable" 505 244,dR P "find_loop" 513 253,dR P "steps_with_like_rows" 519 258,dR P "way_back" 535 265,dR P "least_sizes" 543 270,dR P "greatest_empty_sizes" 550 277,dR P "settled_sizes" 556 282,dE P "MOST_RULES" 560 (.int (60) 559),dR P "refuse_faults" 566 287,dR P "refuse_twice" 577 294,dR P "names_met" 583 299,dR P "least_by_part" 591 304,dR P "rule_size" 597 309,dR P "empty_by_name" 603 314,dR P "LeastTrees" 669 357,dR P "Grammar" 712 386,dR P "WAYS" 718 391,dR P "MARKS" 722 392,dE P "MOST_SIGNS" 724 (.int (14) 723),dR P "read_grammar" 730 397,dR P "read_row" 736 402,dR P "read_rules" 742 407,dR P "is_part" 749 414,dR P "comes_again" 756 421,dR P "with_added_rules" 767 428,dR P "rules_again" 775 435,dR P "_law_cell_at" 785 442,dR P "_law_stream" 796 449,dR P "_law_pool" 802 454,dR P "_law_digits" 812 461,dR P "_law_first" 818 466,dR P "_law_rule" 824 471,dR P "_law_rules" 830 476,dR P "_law_rows" 836 481,dR P "_law_noisy" 849 488,dR P "_law_tuples" 858 495,dR P "law" 864 500] 61,#[]⟩),
 (cF 20 "_wall" "_wall" 187 1 1 15 16 .none (.ref 17) (.ref 18) (.ref 19) 191 192),
 (fF 21 "_wall" "_wall" (top p 0) m0),
 (30,⟨.type "dict",none,.dict #[dE P "__module__" 203 (.str "wright.errors" 194),dE P "__firstlineno__" 207 (.int (5) 206),dR P "__static_attributes__" 208 29,dR P "__weakref__" 210 32,dE P "__doc__" 211 (.none)] 3,#[]⟩),
 (31,⟨.type "type",none,.cls ⟨"WrightError",[.type "ValueError"],[.ref 31,.type "ValueError",.type "Exception",.type "BaseException",.type "object"],30,"WrightError",true,[],[.ref 51,.ref 63,.ref 82,.ref 101,.ref 120,.ref 139,.ref 158],false,none,false⟩,#[some (.ref 22),none,some (.str "WrightError" 196),some (.str "WrightError" 204),some (.builtin "ValueError.__new__"),some (.bool true)]⟩),
 (32,⟨.type "getset_descriptor",none,.fields #[.str "__weakref__" 209,.ref 31,.builtin "ExceptionGroup.__weakref__",.none],#[]⟩),
 (cF 47 "__init__" "NoRow.__init__" 226 9 2 42 43 .none (.ref 44) (.ref 45) (.ref 46) 231 232),
 (fF 48 "__init__" "NoRow.__init__" (iH p 3 0) m1),
 (50,⟨.type "dict",none,.dict #[dE P "__module__" 221 (.str "wright.errors" 194),dE P "__firstlineno__" 225 (.int (7) 224),dR P "__init__" 233 48,dR P "__static_attributes__" 235 49,dE P "__doc__" 236 (.none)] 2,#[]⟩),
 (51,⟨.type "type",none,.cls ⟨"NoRow",[.ref 31],[.ref 51,.ref 31,.type "ValueError",.type "Exception",.type "BaseException",.type "object"],50,"NoRow",true,[],[],false,none,false⟩,#[some (.ref 35),none,some (.str "NoRow" 214),some (.str "NoRow" 222),some (.builtin "ValueError.__new__"),some (.bool true)]⟩),
 (62,⟨.type "dict",none,.dict #[dE P "__module__" 246 (.str "wright.errors" 194),dE P "__firstlineno__" 250 (.int (12) 249),dR P "__static_attributes__" 251 61,dE P "__doc__" 252 (.none)] 2,#[]⟩),
 (63,⟨.type "type",none,.cls ⟨"NoRules",[.ref 31],[.ref 63,.ref 31,.type "ValueError",.type "Exception",.type "BaseException",.type "object"],62,"NoRules",true,[],[],false,none,false⟩,#[some (.ref 54),none,some (.str "NoRules" 239),some (.str "NoRules" 247),some (.builtin "ValueError.__new__"),some (.bool true)]⟩),
 (cF 78 "__init__" "Twice.__init__" 267 16 2 73 74 .none (.ref 75) (.ref 76) (.ref 77) 272 273),
 (fF 79 "__init__" "Twice.__init__" (iH p 5 0) m1),
 (81,⟨.type "dict",none,.dict #[dE P "__module__" 262 (.str "wright.errors" 194),dE P "__firstlineno__" 266 (.int (14) 265),dR P "__init__" 274 79,dR P "__static_attributes__" 276 80,dE P "__doc__" 277 (.none)] 2,#[]⟩),
 (82,⟨.type "type",none,.cls ⟨"Twice",[.ref 31],[.ref 82,.ref 31,.type "ValueError",.type "Exception",.type "BaseException",.type "object"],81,"Twice",true,[],[],false,none,false⟩,#[some (.ref 66),none,some (.str "Twice" 255),some (.str "Twice" 263),some (.builtin "ValueError.__new__"),some (.bool true)]⟩),
 (cF 97 "__init__" "Endless.__init__" 292 21 2 92 93 .none (.ref 94) (.ref 95) (.ref 96) 297 298),
 (fF 98 "__init__" "Endless.__init__" (iH p 6 0) m1),
 (100,⟨.type "dict",none,.dict #[dE P "__module__" 287 (.str "wright.errors" 194),dE P "__firstlineno__" 291 (.int (19) 290),dR P "__init__" 299 98,dR P "__static_attributes__" 301 99,dE P "__doc__" 302 (.none)] 2,#[]⟩),
 (101,⟨.type "type",none,.cls ⟨"Endless",[.ref 31],[.ref 101,.ref 31,.type "ValueError",.type "Exception",.type "BaseException",.type "object"],100,"Endless",true,[],[],false,none,false⟩,#[some (.ref 85),none,some (.str "Endless" 280),some (.str "Endless" 288),some (.builtin "ValueError.__new__"),some (.bool true)]⟩),
 (cF 116 "__init__" "Unmet.__init__" 317 26 2 111 112 .none (.ref 113) (.ref 114) (.ref 115) 322 323),
 (fF 117 "__init__" "Unmet.__init__" (iH p 7 0) m1),
 (119,⟨.type "dict",none,.dict #[dE P "__module__" 312 (.str "wright.errors" 194),dE P "__firstlineno__" 316 (.int (24) 315),dR P "__init__" 324 117,dR P "__static_attributes__" 326 118,dE P "__doc__" 327 (.none)] 2,#[]⟩),
 (120,⟨.type "type",none,.cls ⟨"Unmet",[.ref 31],[.ref 120,.ref 31,.type "ValueError",.type "Exception",.type "BaseException",.type "object"],119,"Unmet",true,[],[],false,none,false⟩,#[some (.ref 104),none,some (.str "Unmet" 305),some (.str "Unmet" 313),some (.builtin "ValueError.__new__"),some (.bool true)]⟩),
 (cF 135 "__init__" "Loop.__init__" 342 31 2 130 131 .none (.ref 132) (.ref 133) (.ref 134) 347 348),
 (fF 136 "__init__" "Loop.__init__" (iH p 8 0) m1),
 (138,⟨.type "dict",none,.dict #[dE P "__module__" 337 (.str "wright.errors" 194),dE P "__firstlineno__" 341 (.int (29) 340),dR P "__init__" 349 136,dR P "__static_attributes__" 351 137,dE P "__doc__" 352 (.none)] 2,#[]⟩),
 (139,⟨.type "type",none,.cls ⟨"Loop",[.ref 31],[.ref 139,.ref 31,.type "ValueError",.type "Exception",.type "BaseException",.type "object"],138,"Loop",true,[],[],false,none,false⟩,#[some (.ref 123),none,some (.str "Loop" 330),some (.str "Loop" 338),some (.builtin "ValueError.__new__"),some (.bool true)]⟩),
 (cF 154 "__init__" "Vast.__init__" 367 36 2 149 150 .none (.ref 151) (.ref 152) (.ref 153) 372 373),
 (fF 155 "__init__" "Vast.__init__" (iH p 9 0) m1),
 (157,⟨.type "dict",none,.dict #[dE P "__module__" 362 (.str "wright.errors" 194),dE P "__firstlineno__" 366 (.int (34) 365),dR P "__init__" 374 155,dR P "__static_attributes__" 376 156,dE P "__doc__" 377 (.none)] 2,#[]⟩),
 (158,⟨.type "type",none,.cls ⟨"Vast",[.ref 31],[.ref 158,.ref 31,.type "ValueError",.type "Exception",.type "BaseException",.type "object"],157,"Vast",true,[],[],false,none,false⟩,#[some (.ref 142),none,some (.str "Vast" 355),some (.str "Vast" 363),some (.builtin "ValueError.__new__"),some (.bool true)]⟩),
 (cF 164 "heads_of" "heads_of" 382 40 1 161 162 .none .none .none (.ref 163) 385 386),
 (fF 165 "heads_of" "heads_of" (top p 11) m2),
 (cF 169 "words_in" "words_in" 388 42 1 166 167 .none .none .none (.ref 168) 391 392),
 (fF 170 "words_in" "words_in" (top p 12) m2),
 (cF 174 "numbers_by_name" "numbers_by_name" 394 50 1 171 172 .none .none .none (.ref 173) 397 398),
 (fF 175 "numbers_by_name" "numbers_by_name" (top p 13) m2),
 (cF 181 "standings_by_part" "standings_by_part" 400 55 1 176 177 .none (.ref 178) (.ref 179) (.ref 180) 409 410),
 (fF 182 "standings_by_part" "standings_by_part" (top p 14) m2),
 (cF 186 "found_empties" "found_empties" 414 62 1 183 184 .none .none .none (.ref 185) 417 418),
 (fF 187 "found_empties" "found_empties" (top p 16) m3),
 (cF 193 "first_places" "first_places" 420 73 2 188 189 .none (.ref 190) (.ref 191) (.ref 192) 428 429),
 (fF 194 "first_places" "first_places" (top p 17) m3),
 (cF 205 "__init__" "BeginTable.__init__" 443 82 2 202 203 .none .none .none (.ref 204) 446 447),
 (fF 206 "__init__" "BeginTable.__init__" (iH p 18 0) m3),
 (cF 212 "find_begins" "BeginTable.find_begins" 449 93 3 207 208 .none (.ref 209) (.ref 210) (.ref 211) 458 459),
 (fF 213 "find_begins" "BeginTable.find_begins" (iH p 18 1) m3),
 (cF 219 "words_of_part" "BeginTable.words_of_part" 461 101 2 214 215 .none (.ref 216) (.ref 217) (.ref 218) 466 467),
 (fF 220 "words_of_part" "BeginTable.words_of_part" (iH p 18 2) m3),
 (cF 226 "first_words" "BeginTable.first_words" 469 104 2 221 222 .none (.ref 223) (.ref 224) (.ref 225) 474 475),
 (fF 227 "first_words" "BeginTable.first_words" (iH p 18 3) m3),
 (cF 233 "all_empty" "BeginTable.all_empty" 477 107 2 228 229 .none (.ref 230) (.ref 231) (.ref 232) 482 483),
 (fF 234 "all_empty" "BeginTable.all_empty" (iH p 18 4) m3),
 (cF 240 "words_of_parts" "BeginTable.words_of_parts" 485 110 3 235 236 .none (.ref 237) (.ref 238) (.ref 239) 491 492),
 (fF 241 "words_of_parts" "BeginTable.words_of_parts" (iH p 18 5) m3),
 (243,⟨.type "dict",none,.dict #[dE P "__module__" 438 (.str "wright.begin_tables" 412),dE P "__firstlineno__" 442 (.int (80) 441),dR P "__init__" 448 206,dR P "find_begins" 460 213,dR P "words_of_part" 468 220,dR P "first_words" 476 227,dR P "all_empty" 484 234,dR P "words_of_parts" 493 241,dR P "__static_attributes__" 498 242,dR P "__dict__" 500 245,dR P "__weakref__" 502 246,dE P "__doc__" 503 (.none)] 4,#[]⟩),
 (244,⟨.type "type",none,.cls ⟨"BeginTable",[.type "object"],[.ref 244,.type "object"],243,"BeginTable",true,[],[],false,none,false⟩,#[none,none,some (.str "BeginTable" 431),some (.str "BeginTable" 439),some (.builtin "object.__new__"),some (.bool true)]⟩),
 (245,⟨.type "getset_descriptor",none,.fields #[.str "__dict__" 499,.ref 244,.builtin "function.__dict__",.builtin "function.__dict__#set"],#[]⟩),
 (246,⟨.type "getset_descriptor",none,.fields #[.str "__weakref__" 501,.ref 244,.builtin "ExceptionGroup.__weakref__",.none],#[]⟩),
 (cF 252 "find_loop" "find_loop" 508 113 1 249 250 .none .none .none (.ref 251) 511 512),
 (fF 253 "find_loop" "find_loop" (top p 20) m4),
 (cF 257 "steps_with_like_rows" "steps_with_like_rows" 514 117 1 254 255 .none .none .none (.ref 256) 517 518),
 (fF 258 "steps_with_like_rows" "steps_with_like_rows" (top p 21) m4),
 (cF 264 "way_back" "way_back" 520 126 3 259 260 .none (.ref 261) (.ref 262) (.ref 263) 533 534),
 (fF 265 "way_back" "way_back" (top p 22) m4),
 (cF 269 "least_sizes" "least_sizes" 538 142 1 266 267 .none .none .none (.ref 268) 541 542),
 (fF 270 "least_sizes" "least_sizes" (top p 24) m5),
 (cF 276 "greatest_empty_sizes" "greatest_empty_sizes" 544 144 1 271 272 .none (.ref 273) (.ref 274) (.ref 275) 548 549),
 (fF 277 "greatest_empty_sizes" "greatest_empty_sizes" (top p 25) m5),
 (cF 281 "settled_sizes" "settled_sizes" 551 146 3 278 279 .none .none .none (.ref 280) 554 555),
 (fF 282 "settled_sizes" "settled_sizes" (top p 26) m5),
 (cF 286 "refuse_faults" "refuse_faults" 561 159 2 283 284 .none .none .none (.ref 285) 564 565),
 (fF 287 "refuse_faults" "refuse_faults" (top p 29) m6),
 (cF 293 "refuse_twice" "refuse_twice" 567 178 1 288 289 .none (.ref 290) (.ref 291) (.ref 292) 575 576),
 (fF 294 "refuse_twice" "refuse_twice" (top p 30) m6),
 (cF 298 "names_met" "names_met" 578 185 1 295 296 .none .none .none (.ref 297) 581 582),
 (fF 299 "names_met" "names_met" (top p 31) m6),
 (cF 303 "least_by_part" "least_by_part" 586 195 1 300 301 .none .none .none (.ref 302) 589 590),
 (fF 304 "least_by_part" "least_by_part" (top p 33) m7),
 (cF 308 "rule_size" "rule_size" 592 203 2 305 306 .none .none .none (.ref 307) 595 596),
 (fF 309 "rule_size" "rule_size" (top p 34) m7),
 (cF 313 "empty_by_name" "empty_by_name" 598 205 2 310 311 .none .none .none (.ref 312) 601 602),
 (fF 314 "empty_by_name" "empty_by_name" (top p 35) m7),
 (cF 325 "__init__" "LeastTrees.__init__" 616 212 3 322 323 .none .none .none (.ref 324) 619 620),
 (fF 326 "__init__" "LeastTrees.__init__" (iH p 36 0) m7),
 (cF 332 "least_of" "LeastTrees.least_of" 622 219 2 327 328 .none (.ref 329) (.ref 330) (.ref 331) 627 628),
 (fF 333 "least_of" "LeastTrees.least_of" (iH p 36 1) m7),
 (cF 339 "hollow_of" "LeastTrees.hollow_of" 630 222 2 334 335 .none (.ref 336) (.ref 337) (.ref 338) 635 636),
 (fF 340 "hollow_of" "LeastTrees.hollow_of" (iH p 36 2) m7),
 (cF 346 "begun_place" "LeastTrees.begun_place" 638 225 3 341 342 .none (.ref 343) (.ref 344) (.ref 345) 644 645),
 (fF 347 "begun_place" "LeastTrees.begun_place" (iH p 36 3) m7),
 (cF 353 "begun_of" "LeastTrees.begun_of" 647 228 4 348 349 .none (.ref 350) (.ref 351) (.ref 352) 654 655),
 (fF 354 "begun_of" "LeastTrees.begun_of" (iH p 36 4) m7),
 (356,⟨.type "dict",none,.dict #[dE P "__module__" 611 (.str "wright.least_trees" 584),dE P "__firstlineno__" 615 (.int (210) 614),dR P "__init__" 621 326,dR P "least_of" 629 333,dR P "hollow_of" 637 340,dR P "begun_place" 646 347,dR P "begun_of" 656 354,dR P "__static_attributes__" 662 355,dR P "__dict__" 664 358,dR P "__weakref__" 666 359,dE P "__doc__" 667 (.none)] 4,#[]⟩),
 (357,⟨.type "type",none,.cls ⟨"LeastTrees",[.type "object"],[.ref 357,.type "object"],356,"LeastTrees",true,[],[],false,none,false⟩,#[none,none,some (.str "LeastTrees" 604),some (.str "LeastTrees" 612),some (.builtin "object.__new__"),some (.bool true)]⟩),
 (358,⟨.type "getset_descriptor",none,.fields #[.str "__dict__" 663,.ref 357,.builtin "function.__dict__",.builtin "function.__dict__#set"],#[]⟩),
 (359,⟨.type "getset_descriptor",none,.fields #[.str "__weakref__" 665,.ref 357,.builtin "ExceptionGroup.__weakref__",.none],#[]⟩),
 (369,⟨.type "tuple",none,.seq #[.none] 0,#[]⟩),
 (cF 375 "__init__" "Grammar.__init__" 684 233 3 370 371 .none (.ref 372) (.ref 373) (.ref 374) 690 691),
 (376,⟨.type "function",none,.func (fnOf "__init__" "Grammar.__init__" (du (iH p 38 0)) (cg (iH p 38 0)) (ax (iH p 38 0)) (.ref 369) (.none) (.none) (.str "wright.grammars" 670) (none) (.ref 375) (.none)),#[]⟩),
 (cF 382 "start" "Grammar.start" 693 241 1 377 378 .none (.ref 379) (.ref 380) (.ref 381) 697 698),
 (fF 383 "start" "Grammar.start" (iH p 38 1) m8),
 (385,⟨.type "dict",none,.dict #[dE P "__module__" 679 (.str "wright.grammars" 670),dE P "__firstlineno__" 683 (.int (231) 682),dR P "__init__" 692 376,dR P "start" 699 383,dR P "__static_attributes__" 705 384,dR P "__dict__" 707 387,dR P "__weakref__" 709 388,dE P "__doc__" 710 (.none)] 4,#[]⟩),
 (386,⟨.type "type",none,.cls ⟨"Grammar",[.type "object"],[.ref 386,.type "object"],385,"Grammar",true,[],[],false,none,false⟩,#[none,none,some (.str "Grammar" 672),some (.str "Grammar" 680),some (.builtin "object.__new__"),some (.bool true)]⟩),
 (387,⟨.type "getset_descriptor",none,.fields #[.str "__dict__" 706,.ref 386,.builtin "function.__dict__",.builtin "function.__dict__#set"],#[]⟩),
 (388,⟨.type "getset_descriptor",none,.fields #[.str "__weakref__" 708,.ref 386,.builtin "ExceptionGroup.__weakref__",.none],#[]⟩),
 (391,⟨.type "tuple",none,.seq #[.str "left" 715,.str "right" 716,.str "none" 717] 0,#[]⟩),
 (392,⟨.type "tuple",none,.seq #[.str "*" 719,.str "+" 720,.str "?" 721] 0,#[]⟩),
 (cF 396 "read_grammar" "read_grammar" 725 247 1 393 394 .none .none .none (.ref 395) 728 729),
 (fF 397 "read_grammar" "read_grammar" (top p 43) m9),
 (cF 401 "read_row" "read_row" 731 255 3 398 399 .none .none .none (.ref 400) 734 735),
 (fF 402 "read_row" "read_row" (top p 44) m9),
 (cF 406 "read_rules" "read_rules" 737 264 3 403 404 .none .none .none (.ref 405) 740 741),
 (fF 407 "read_rules" "read_rules" (top p 45) m9),
 (cF 413 "is_part" "is_part" 743 275 1 408 409 .none (.ref 410) (.ref 411) (.ref 412) 747 748),
 (fF 414 "is_part" "is_part" (top p 46) m9),
 (cF 420 "comes_again" "comes_again" 750 277 1 415 416 .none (.ref 417) (.ref 418) (.ref 419) 754 755),
 (fF 421 "comes_again" "comes_again" (top p 47) m9),
 (cF 427 "with_added_rules" "with_added_rules" 757 279 1 422 423 .none (.ref 424) (.ref 425) (.ref 426) 765 766),
 (fF 428 "with_added_rules" "with_added_rules" (top p 48) m9),
 (cF 434 "rules_again" "rules_again" 768 290 1 429 430 .none (.ref 431) (.ref 432) (.ref 433) 773 774),
 (fF 435 "rules_again" "rules_again" (top p 49) m9),
 (cF 441 "_law_cell_at" "_law_cell_at" 778 298 2 436 437 .none (.ref 438) (.ref 439) (.ref 440) 783 784),
 (fF 442 "_law_cell_at" "_law_cell_at" (top p 51) r9),
 (cF 448 "_law_stream" "_law_stream" 786 302 2 443 444 .none (.ref 445) (.ref 446) (.ref 447) 794 795),
 (fF 449 "_law_stream" "_law_stream" (top p 52) r9),
 (cF 453 "_law_pool" "_law_pool" 797 309 2 450 451 .none .none .none (.ref 452) 800 801),
 (fF 454 "_law_pool" "_law_pool" (top p 53) r9),
 (cF 460 "_law_digits" "_law_digits" 803 321 2 455 456 .none (.ref 457) (.ref 458) (.ref 459) 810 811),
 (fF 461 "_law_digits" "_law_digits" (top p 54) r9),
 (cF 465 "_law_first" "_law_first" 813 329 4 462 463 .none .none .none (.ref 464) 816 817),
 (fF 466 "_law_first" "_law_first" (top p 55) r9),
 (cF 470 "_law_rule" "_law_rule" 819 336 3 467 468 .none .none .none (.ref 469) 822 823),
 (fF 471 "_law_rule" "_law_rule" (top p 56) r9),
 (cF 475 "_law_rules" "_law_rules" 825 343 4 472 473 .none .none .none (.ref 474) 828 829),
 (fF 476 "_law_rules" "_law_rules" (top p 57) r9),
 (cF 480 "_law_rows" "_law_rows" 831 347 3 477 478 .none .none .none (.ref 479) 834 835),
 (fF 481 "_law_rows" "_law_rows" (top p 58) r9),
 (cF 487 "_law_noisy" "_law_noisy" 837 364 2 482 483 .none (.ref 484) (.ref 485) (.ref 486) 847 848),
 (fF 488 "_law_noisy" "_law_noisy" (top p 59) r9),
 (cF 494 "_law_tuples" "_law_tuples" 850 373 2 489 490 .none (.ref 491) (.ref 492) (.ref 493) 856 857),
 (fF 495 "_law_tuples" "_law_tuples" (top p 60) r9),
 (cF 499 "law" "law" 859 380 1 496 497 .none .none .none (.ref 498) 862 863),
 (fF 500 "law" "law" (top p 61) r9)]
def as:List Addr:=[2,3,20,21,30,31,32,47,48,50,51,62,63,78,79,81,82,97,98,100,101,116,117,119,120,135,136,138,139,154,155,157,158,164,165,169,170,174,175,181,182,186,187,193,194,205,206,212,213,219,220,226,227,233,234,240,241,243,244,245,246,252,253,257,258,264,265,269,270,276,277,281,282,286,287,293,294,298,299,303,304,308,309,313,314,325,326,332,333,339,340,346,347,353,354,356,357,358,359,369,375,376,382,383,385,386,387,388,391,392,396,397,401,402,406,407,413,414,420,421,427,428,434,435,441,442,448,449,453,454,460,461,465,466,470,471,475,476,480,481,487,488,494,495,499,500]
def q' (p:Program):Program:=view p [0,2,3,4,5,6,7,8,9,11,12,13,14,16,17,18,20,21,22,24,25,26,28,29,30,31,33,34,35,36,38,40,41,42,43,44,45,46,47,48,49,51,52,53,54,55,56,57,58,59,60,61]
abbrev loose:List Str:=[]
abbrev steps:Nat:=4074
abbrev bound:Nat:=9128
abbrev B4:OpenLaw:=rw_wright_k15_grammars_read
noncomputable abbrev K (P:Params):Frag:=K' pw_wright_k15_grammars_read P
theorem Pg (P:Params):as=(K P).map (·.1):=by kernel_rfl
noncomputable abbrev hook:Hook:=kmHook K as Pg [301,272,267]
def pre (h:B4.row.wellSaid=true->B4.row.Holds):B4.Holds:=by
 o_law
 exact h (by assumption)
abbrev Xt:Shared->Bool:=λs=>xlAt (q' pw_wright_k15_grammars_read) [] s && recOk (RowW.records (OpenRow.toRowW (OpenLaw.row rw_wright_k15_grammars_read))) s
def run (w:World)(os:OsState):(DC (stepT (denote treeTable) pw_wright_k15_grammars_read w) (stepOk 11 (some (.ref 6))) steps ⟨Bb w.params,11,{},Array.mk [],boot_drawn,boot_toks,os⟩ (topStub pw_wright_k15_grammars_read)).map
  (Dr (EB pw_wright_k15_grammars_read (q' pw_wright_k15_grammars_read) loose Xt (Hook.obs hook) true (boot_heap w.params)))=some (true,openGood (q' pw_wright_k15_grammars_read) loose,Hook.val hook w):=by
 rw [PySem.W.Fast.te10156331382660048174,PySem.W.Fast.te11892475500146522536,PySem.W.Fast.te14364793385576792824,PySem.W.Fast.te6613529449190102663,PySem.W.Fast.te16414490043275756733]
 kernel_rfl
theorem size (w:World):((boot_heap w.params).isNs mainGlobals && (Array.mk []:Array GenState).size == 0,(boot_heap w.params).objs.size,(boot_heap w.params).nsMap mainGlobals "__annotations__")=(true,11,some (.ref 6)):=by kernel_rfl
def DU:∀w:World,(fencedOpening treeTable pw_wright_k15_grammars_read w bound).map (λs=>(s.heap,s.gens,s.drawn,s.toks))=some (boot_heap w.params,Array.mk [],boot_drawn,boot_toks) :=
 boot_open (nofun) nofun (λs=>by kernel_rfl)
def left:LeftO (OpenRow.toRowW B4.row).prog (q' pw_wright_k15_grammars_read) loose Xt (Hook.obs hook) (Hook.val hook) bound:=NM DU size run nofun
def jY:DefRec:={ name := "law",params:=du (top pw_wright_k15_grammars_read 61),body:=cg (top pw_wright_k15_grammars_read 61),scope:=ax (top pw_wright_k15_grammars_read 61),pos:=posOf (top pw_wright_k15_grammars_read 61) }
def Z1:defOf (q' pw_wright_k15_grammars_read) B4.row.name=some (jY,[]):=by kernel_rfl
def Z0:B4.row.prog.theDef B4.row.name=some (jY.params,jY.body,jY.scope):=by kernel_rfl
def ZZ:kwWritten? jY.params.kwonlyargs jY.params.kw_defaults=some []:=by kernel_rfl
def ZY:(chainsOk (q' pw_wright_k15_grammars_read) && opensWell B4.row.prog && (frees B4.row.toRowW && B4.row.within.isEmpty))=true:=by kernel_rfl
def ZX:jY.params.defaults=[]:=by kernel_rfl
def hold (h:WalkO (q' pw_wright_k15_grammars_read) loose (XL (q' pw_wright_k15_grammars_read) []) (Hook.says hook) B4.row.toRowW jY [] λf vs=>PySem.call f vs)(hw:B4.row.toRowW.promised):B4.Holds :=
 pre λRy=>holds_open (q:=q' pw_wright_k15_grammars_read) (loose:=loose) (Xt:=Xt) (XP:=XL (q' pw_wright_k15_grammars_read) []) (Yf:=Hook.obs hook) (Ya:=Hook.val hook) (YP:=Hook.says hook) (N:=bound) left (Hook.of hook) (Hook.keeps hook) (λs e=>xl_of s (qp.mp e).1) XL.keeps Z1 Z0 ZZ (λs e=>recFacts_of (qp.mp e).2) rfl Ry ZY ⟨rfl,rfl,rfl,rfl,rfl,nofun⟩ hw h
end HD
set_option maxHeartbeats 4000000
namespace L2
open PySem PySem.Spec PyProof.Rows
abbrev z_:=Nat->St->Hp->Prop
def oH {CX:xZ}{P:Program}{w:World}{K:aY}{mg:Str->Option Value}{base:Heap}{N:List Str}{qual:Str}{scope:Scope}{f:Addr}{cd:Value}{A:Around}{outer:List Env}{s:Shared}{H:Hp}{E:XK}:(oG CX P w K mg base N qual scope f cd A outer s H E).BO.K=K:=rfl
def Sx {t:TS}{D:Ends}{σ:St}{H:Hp}(h:let E:=D;t E σ H):t D σ H:=h
def Sv {t u:TS}{D:Ends}{σ:St}{H:Hp}(h:let E:={ D with nx:=u D };t E σ H):Jx t u D σ H:=h
def NL {t u:TS}{D:Ends}{σ:St}{H:Hp}(h:let E:=D;let F:={ E with nx:=u E };t F σ H):Jx t u D σ H:=h
def Sw {g:TG}{x:V}{σ:St}{H:Hp}{t:TS}{D:Ends}(h:let E:=D;g x σ H λσ2 H2=>t E σ2 H2):g x σ H λσ2 H2=>t D σ2 H2:=h
end L2
local macro_rules | `(tactic| nofun) => `(tactic| (dsimp only [L2.oH];refine L2.Sv ?_;intro _))
local macro_rules | `(tactic| ac_rfl) => `(tactic| (refine L2.NL ?_;intro _ _))
local macro_rules | `(tactic| ac_nf0) => `(tactic| (refine L2.Sw ?_;intro _))
local macro_rules | `(tactic| ac_nf) => `(tactic| (refine L2.Sx ?_;intro _))
set_option maxHeartbeats 0
namespace L2
open PySem PySem.Spec PyProof.Rows
section
variable {κ:Type} [DecidableEq κ]
def bu (kvs:List (κ×V))(k:κ):Option V:=(kvs.find? λkv=>decide (kv.1=k)).map (·.2)
def bP (kvs:List (κ×V))(k:κ)(v:V):List (κ×V) :=
 if (kvs.any λkv=>decide (kv.1=k))=true then kvs.map (λkv=>if kv.1=k then (kv.1,v) else kv) else kvs++[(k,v)]
def Jc (kvs:List (κ×V))(k:κ):List (κ×V):=kvs.filter λkv=>decide (kv.1≠k)
def d_ {p:κ×V}{r:List (κ×V)}{k:κ}(e:p.1=k):bu (p::r) k=some p.2:=by simp [bu,nN,e]
def eA {p:κ×V}{r:List (κ×V)}{k:κ}(e:¬p.1=k):bu (p::r) k=bu r k:=by simp [bu,nN,e]
theorem iL (k:κ):∀kvs:List (κ×V),(kvs.any λkv=>decide (kv.1=k))=(bu kvs k).isSome
 | []=>rfl
 | p::r=>by
  rw [p_];by_cases e:p.1=k
  .simp only [d_ e,fO e,Bool.true_or,Option.isSome_some]
  rw [eA e,gy e,Bool.false_or];exact iL k r
theorem wb (k j:κ)(y:V):∀kvs:List (κ×V),bu (kvs.map λkv=>if kv.1=k then (kv.1,y) else kv) j=(bu kvs j).map λx=>if j=k then y else x
 | []=>rfl
 | p::r=>by
  have ih:=wb k j y r;rw [br];by_cases h:p.1=k
  .rw [az h];by_cases e:p.1=j
   .rw [d_ (p:=(p.1,y)) e,d_ e,qc,az (e.symm.trans h)]
   rw [eA (p:=(p.1,y)) e,eA e,ih]
  rw [ay h];by_cases e:p.1=j
  .rw [d_ (p:=p) e,d_ e,qc,ay (λz=>h (e.trans z))]
  rw [eA (p:=p) e,eA e,ih]
theorem sP (k j:κ)(y:V):∀kvs:List (κ×V),bu kvs k=none->bu (kvs++[(k,y)]) j=if j=k then some y else bu kvs j
 | [],_=>by
  by_cases e:k=j
  .rw [az e.symm];exact d_ (p:=(k,y)) e
  rw [ay (λz=>e z.symm)];exact eA (p:=(k,y)) e
 | p::r,hn=>by
  rw [List.cons_append];have hk:¬p.1=k:=λz=>by rw [d_ z] at hn;cases hn
  rw [eA hk] at hn;have ih:=sP k j y r hn;by_cases e:p.1=j
  .rw [d_ e,d_ e,ay (λz=>hk (e.trans z))]
  rw [eA e,eA e,ih]
def wa (kvs:List (κ×V))(k j:κ)(y:V):bu (bP kvs k y) j=if j=k then some y else bu kvs j:=by
 unfold bP;by_cases a:(kvs.any λkv=>decide (kv.1=k))=true
 .rw [az a,wb];rw [iL] at a;by_cases e:j=k
  .obtain⟨x,hx⟩:=mh.mp a;rw [az e,e,hx,qc,az rfl]
  rw [ay e];cases bu kvs j with
  | none=>rfl
  | some x=>rw [qc,ay e]
 rw [ay a];refine sP k j y kvs ?_;rw [iL] at a;cases q:bu kvs k with
 | none=>rfl
 | some x=>rw [q] at a;exact(a rfl).elim
def eW (kvs:List (κ×V))(k:κ)(v:V):(bP kvs k v).length<=kvs.length+1:=by
 unfold bP
 split
 .rw [av];omega
 rw [bW,bV,jq];omega
def wC {kvs:List (κ×V)}{k:κ}(v:V)(h:bu kvs k=none):bP kvs k v=kvs++[(k,v)]:=by
 unfold bP;rw [iL,h];exact ay nofun
def jk.iT {o:Option V}{u:Option Value}(r:jk o u):o.isSome=u.isSome:=by
 cases o with
 | none=>cases u with
  | none=>rfl
  | some _=>exact(show False from r).elim
 | some _=>cases u with
  | none=>exact(show False from r).elim
  | some _=>rfl
theorem jk.getD {o:Option V}{u:Option Value}{d:V}{d':Value}(r:jk o u)(rd:RelV d d'):RelV (o.getD d) (u.getD d'):=by
 cases o with
 | none=>cases u with
  | none=>exact rd
  | some _=>exact(show False from r).elim
 | some _=>cases u with
  | none=>exact(show False from r).elim
  | some _=>exact r
def KV.val {kvs:List (κ×V)}{vs:List (κ×Value)}(r:KV kvs vs)(k:κ):jk (bu kvs k) (valueAt vs k):=by
 unfold KV at r
 induction r with
 | nil=>exact True.intro
 | @cons p q ps qs h t ih =>
  obtain⟨h1,h2⟩:=h;by_cases e:p.1=k
  .have e':q.1=k:=h1.symm.trans e;have b:valueAt (q::qs) k=some q.2:=by simp [valueAt,nN,e']
   rw [d_ e,b];exact h2
  have e':¬q.1=k:=λz=>e (h1.trans z);have b:valueAt (q::qs) k=valueAt qs k:=by simp [valueAt,nN,e']
  rw [eA e,b];exact ih
theorem KV.any {kvs:List (κ×V)}{vs:List (κ×Value)}(r:KV kvs vs)(k:κ):(kvs.any λkv=>decide (kv.1=k))=vs.any λkv=>decide (kv.1=k):=by
 unfold KV at r
 induction r with
 | nil=>rfl
 | cons h t ih=>rw [p_,p_,ih,h.1]
def KV.JV {kvs:List (κ×V)}{vs:List (κ×Value)}(r:KV kvs vs)(k:κ){y:V}{u:Value}(ry:RelV y u) :
  KV (kvs.map λkv=>if kv.1=k then (kv.1,y) else kv) (vs.map λkv=>if kv.1=k then (kv.1,u) else kv):=by
 unfold KV at r ⊢
 induction r with
 | nil=>exact .nil
 | @cons p q ps qs h t ih =>
  rw [br,br];refine .cons ?_ ih;obtain⟨h1,h2⟩:=h;by_cases e:p.1=k
  .rw [az e,az (h1.symm.trans e)];exact⟨h1,ry⟩
  rw [ay e,ay (λz=>e (h1.trans z))];exact⟨h1,h2⟩
def KV.put {kvs:List (κ×V)}{vs:List (κ×Value)}(r:KV kvs vs)(k:κ){y:V}{u:Value}(ry:RelV y u):KV (bP kvs k y) (stored vs k u):=by
 unfold bP stored;rw [r.any k];by_cases e:(vs.any λkv=>decide (kv.1=k))=true
 .rw [az e,az e];exact r.JV k ry
 rw [ay e,ay e];exact fN r ⟨rfl,ry⟩
def KV.drop {kvs:List (κ×V)}{vs:List (κ×Value)}(r:KV kvs vs)(k:κ):KV (Jc kvs k) (without vs k):=by
 unfold KV at r ⊢;unfold Jc without
 induction r with
 | nil=>exact .nil
 | @cons p q ps qs h t ih =>
  obtain⟨h1,h2⟩:=h;rw [qf,qf];by_cases e:p.1=k
  .have a:¬decide (p.1≠k)=true:=by simp [e]
   have b:¬decide (q.1≠k)=true:=by simp [h1.symm.trans e]
   rw [ay a,ay b];exact ih
  have e':¬q.1=k:=λz=>e (h1.trans z);have a:decide (p.1≠k)=true:=by simp [e]
  have b:decide (q.1≠k)=true:=by simp [e']
  rw [az a,az b];exact .cons ⟨h1,h2⟩ ih
def KV.keys {kvs:List (κ×V)}{vs:List (κ×Value)}(r:KV kvs vs):kvs.map (·.1)=vs.map (·.1):=by
 unfold KV at r
 induction r with
 | nil=>rfl
 | cons h t ih=>rw [br,br,ih,h.1]
theorem KV.length {kvs:List (κ×V)}{vs:List (κ×Value)}(r:KV kvs vs):kvs.length=vs.length:=bK r
end
def kP {P:Program}{w:World}{k:aN}{u:Value}(r:RelV (kV k) u):(a7 P w).is k u=true:=by
 cases k with
 | inl i=>obtain⟨t,e⟩:=(show ∃t,u=Value.int i t from r);subst e;exact wW P w i t
 | inr x=>obtain⟨t,e⟩:=(show ∃t,u=Value.str x t from r);subst e;exact wV P w x t
theorem tO {P:Program}{w:World}:∀{ks:List aN}{us:List Value},aT (ks.map kV) us->ItemsAre (a7 P w) ks us
 | [],_,r=>by rw [jm] at r;cases r;exact .nil
 | k::ks,_,r=>by
  rw [br] at r;cases r with
  | cons h t=>exact .cons (kP h) (tO t)
abbrev KT (H:Hp):List (List aN×V)->List (List aN×Addr×Value)->Prop:=Paired λp q=>p.1=q.1/\H q.2.1=some (.tup (p.1.map kV))/\RelV p.2 q.2.2
def KT.val {H:Hp}{kvs:List (List aN×V)}{xs:List (List aN×Addr×Value)}(r:KT H kvs xs)(k:List aN):jk (bu kvs k) ((atKey xs k).map (·.2)):=by
 induction r with
 | nil=>exact True.intro
 | @cons p q ps qs h t ih =>
  obtain⟨h1,_,h2⟩:=h;by_cases e:p.1=k
  .have e':q.1=k:=h1.symm.trans e;have b:atKey (q::qs) k=some q.2:=by simp [atKey,nN,e']
   rw [d_ e,b];exact h2
  have e':¬q.1=k:=λz=>e (h1.trans z);have b:atKey (q::qs) k=atKey qs k:=by simp [atKey,nN,e']
  rw [eA e,b];exact ih
def KT.JV {H:Hp}{kvs:List (List aN×V)}{xs:List (List aN×Addr×Value)}(r:KT H kvs xs)(k:List aN){y:V}{u:Value}(ry:RelV y u) :
  KT H (kvs.map λkv=>if kv.1=k then (kv.1,y) else kv) (xs.map (putAt k u)):=by
 induction r with
 | nil=>exact .nil
 | @cons p q ps qs h t ih =>
  rw [br,br];refine .cons ?_ ih;obtain⟨h1,h2,h3⟩:=h;unfold putAt;by_cases e:p.1=k
  .rw [az e,az (h1.symm.trans e)];exact⟨h1,h2,ry⟩
  rw [ay e,ay (λz=>e (h1.trans z))];exact⟨h1,h2,h3⟩
def KT.put {H:Hp}{kvs:List (List aN×V)}{xs:List (List aN×Addr×Value)}(r:KT H kvs xs)(k:List aN){b:Addr}{y:V}{u:Value}(hb:H b=some (.tup (k.map kV)))(ry:RelV y u) :
  KT H (bP kvs k y) (storedH xs k b u):=by
 have e:(kvs.any λkv=>decide (kv.1=k))=(atKey xs k).isSome:=by
  rw [iL,(r.val k).iT,nW]
 unfold bP storedH;rw [e];by_cases q:(atKey xs k).isSome=true
 .rw [az q,az q];exact r.JV k ry
 rw [ay q,ay q];exact fN r ⟨rfl,hb,ry⟩
def KT.keeps {H H':Hp}{kvs:List (List aN×V)}{xs:List (List aN×Addr×Value)}(r:KT H kvs xs)(ht:∀b ys,H b=some (.tup ys)->H' b=some (.tup ys)):KT H' kvs xs :=
 Paired.gS r λ_ _ z=>⟨z.1,ht _ _ z.2.1,z.2.2⟩
section
variable {P:Program}{w:World}{H:Hp}{h:Heap}{a:Addr}
def Iy {u:HO}(ok:kX P w H h)(e:Rd H a u):cC P w H h a u:=e.ok ok
def ni {kvs:List (aN×V)}(ok:kX P w H h)(e:Rd H a (.dK kvs)):kvs.length<=sizeLine/\(a == sysModules)=false/\∃vs,KV kvs vs/\h.DictOf (a7 P w) a vs :=
 show cC P w H h a (.dK kvs) from Iy ok e
def xn {kvs:List (aN×V)}(ok:kX P w H h)(e:H a=some (.dK kvs)):kvs.length<=sizeLine/\(a == sysModules)=false/\∃vs,KV kvs vs/\h.DictOf (a7 P w) a vs:=ni ok (.inl e)
def lN {ks:List aN}(ok:kX P w H h)(e:H a=some (.tup (ks.map kV))):(tupleKind (a7 P w)).is h ks a:=by
 obtain⟨_,aJ,r,o,h1,h2,n,h3⟩:=(show cC P w H h a (.tup (ks.map kV)) from ok a _ e);exact⟨o,aJ.toArray,n,h1,h2,h3,by simpa using tO r⟩
def rp {kvs:List (List aN×V)}(ok:kX P w H h)(e:Rd H a (.dT kvs)):kvs.length<=sizeLine/\(a == sysModules)=false /\
  ∃xs,KT H kvs xs/\h.DictOfH (tupleKind (a7 P w)) a xs:=by
 obtain⟨z,y,xs,r,o,es,ep,h1,h2,h3,h4,h5⟩:=(show cC P w H h a (.dT kvs) from Iy ok e);refine⟨z,y,xs,r,o,es,ep,h1,h2,h3,h4,λx hx=>?_,h5⟩;have all:∀{l:List (List aN×V)}{m:List (List aN×Addr×Value)},KT H l m->∀x∈m,(tupleKind (a7 P w)).is h x.1 x.2.1:=by
  intro l m q
  induction q with
  | nil=>intro x hx;exact nomatch hx
  | @cons p q ps qs hq t ih =>
   intro x hx;rcases aW.mp hx with e | hx
   .subst e;exact lN ok (by rw [<-hq.1];exact hq.2.1)
   exact ih x hx
 exact all r x hx
def O6 {kvs:List (List aN×V)}(ok:kX P w H h)(e:H a=some (.dT kvs)):kvs.length<=sizeLine/\(a == sysModules)=false /\
  ∃xs,KT H kvs xs/\h.DictOfH (tupleKind (a7 P w)) a xs:=rp ok (.inl e)
end
def cE (H:Hp)(a:Addr)(y:V)(r:Option V):Prop :=
 (∃kvs k,Rd H a (.dK kvs)/\y=kV k/\r=bu kvs k)\/∃kvs k b,Rd H a (.dT kvs)/\y=.ref b/\H b=some (.tup (k.map kV))/\r=bu kvs k
def oO (H:Hp)(a:Addr)(y v:V)(H':Hp):Prop :=
 (∃kvs k,H a=some (.dK kvs)/\y=kV k/\kvs.length < sizeLine/\H'=upd H a (.dK (bP kvs k v))) \/
 ∃kvs k b,H a=some (.dT kvs)/\y=.ref b/\H b=some (.tup (k.map kV))/\kvs.length < sizeLine/\H'=upd H a (.dT (bP kvs k v))
theorem cE.k {H:Hp}{a:Addr}{kvs:List (aN×V)}{k:aN}(e:H a=some (.dK kvs)):cE H a (kV k) (bu kvs k):=.inl ⟨kvs,k,.inl e,rfl,rfl⟩
def cE.t {H:Hp}{a b:Addr}{kvs:List (List aN×V)}{k:List aN}(e:H a=some (.dT kvs))(eb:H b=some (.tup (k.map kV))):cE H a (.ref b) (bu kvs k):=.inr ⟨kvs,k,b,.inl e,rfl,eb,rfl⟩
theorem oO.k {H:Hp}{a:Addr}{kvs:List (aN×V)}{k:aN}{v:V}(e:H a=some (.dK kvs))(hl:kvs.length < sizeLine):oO H a (kV k) v (upd H a (.dK (bP kvs k v))):=.inl ⟨kvs,k,e,rfl,hl,rfl⟩
def oO.t {H:Hp}{a b:Addr}{kvs:List (List aN×V)}{k:List aN}{v:V}(e:H a=some (.dT kvs))(eb:H b=some (.tup (k.map kV)))(hl:kvs.length < sizeLine) :
  oO H a (.ref b) v (upd H a (.dT (bP kvs k v))):=.inr ⟨kvs,k,b,e,rfl,eb,hl,rfl⟩
section
variable {X:Cx}{ah:List (Addr×Obj)}{σ:St}{H:Hp}{s:Shared}{a:Addr}{y v:V}{u r:Value}{o:Option V}{A:Around}{E:Value->Shared->Prop}
def Inv.big (I:Inv X ah σ H s):sysModules < s.heap.objs.size:=by
 have h:mainGlobals < s.heap.objs.size:=(I.mod.glob.keeps I.bk).lt;exact kZ nofun h
def Cp {Q:Value->Shared->Prop}(hu:A.units+1 < cLine)(I:Inv X ah σ H s)(g:cE H a y (some v))(ry:RelV y u)(h:∀w' s',Inv X ah σ H s'->RelV v w'->Q w' s') :
  wpAny (model X.prog X.w) A (getItem (.ref a) u) Q E s:=by
 rcases g with ⟨kvs,k,e,ey,l⟩ | ⟨kvs,k,b,e,ey,eb,l⟩
 .subst ey;obtain⟨z,hd,vs,rel,dd⟩:=ni I.bU e;obtain⟨w',hw,yN⟩:=jk.some_of (v:=v) (o:=valueAt vs k) (by rw [l];exact rel.val k);exact wpAny_getItem_of (kP ry) dd.mapOf hw (h w' _ (I.tok _) yN)
 subst ey;cases (show u=Value.ref b from ry);obtain⟨z,hd,xs,rel,dd⟩:=rp I.bU e;obtain⟨w',hw,yN⟩:=jk.some_of (v:=v) (o:=(atKey xs k).map (·.2)) (by rw [l];exact rel.val k);obtain⟨p,hp,o8⟩:=b_.mp hw;refine wpAny_getItem_heap (nU hu) (lN I.bU eb) dd hp ?_;rw [o8];exact h w' _ (I.tok _) yN
def Vf {Q:Value->Shared->Prop}(hu:A.units+1 < cLine)(I:Inv X ah σ H s)(g:cE H a y o)(ry:RelV y u)(h:∀s',Inv X ah σ H s'->Q (.bool o.isSome) s') :
  wpAny (model X.prog X.w) A (compareOp .In u (.ref a)) Q E s:=by
 rcases g with ⟨kvs,k,e,ey,l⟩ | ⟨kvs,k,b,e,ey,eb,l⟩
 .subst ey;obtain⟨z,hd,vs,rel,dd⟩:=ni I.bU e;refine wpAny_in_of (kP ry) hd dd.mapOf ?_;rw [<-(rel.val k).iT,<-l];exact h _ (I.tok _)
 subst ey;cases (show u=Value.ref b from ry);obtain⟨z,hd,xs,rel,dd⟩:=rp I.bU e;refine wpAny_in_heap (nU hu) (lN I.bU eb) hd dd ?_;have q:=(rel.val k).iT;rw [nW] at q;rw [<-q,<-l];exact h _ (I.tok _)
def HP {Q:Value->Shared->Prop}(hu:A.units+1 < cLine)(I:Inv X ah σ H s)(g:cE H a y o)(ry:RelV y u)(h:∀s',Inv X ah σ H s'->Q (.bool (!o.isSome)) s') :
  wpAny (model X.prog X.w) A (compareOp .NotIn u (.ref a)) Q E s:=by
 rcases g with ⟨kvs,k,e,ey,l⟩ | ⟨kvs,k,b,e,ey,eb,l⟩
 .subst ey;obtain⟨z,hd,vs,rel,dd⟩:=ni I.bU e;refine wpAny_notIn_of (kP ry) hd dd.mapOf ?_;rw [<-(rel.val k).iT,<-l];exact h _ (I.tok _)
 subst ey;cases (show u=Value.ref b from ry);obtain⟨z,hd,xs,rel,dd⟩:=rp I.bU e;refine wpAny_notIn_heap (nU hu) (lN I.bU eb) hd dd ?_;have q:=(rel.val k).iT;rw [nW] at q;rw [<-q,<-l];exact h _ (I.tok _)
def pU {h':Heap}{t':Nat}{ob:HO}(I:Inv X ah σ H s)(mu:Pr (H a))(hs:Heap.SameBut a s.heap h')(he:∃q,h'.get? a=some q)(new:cC X.prog X.w (upd H a ob) h' a ob) :
  Inv X ah σ (upd H a ob) { s with heap:=h',toks:=t' } :=
 I.write (x:=a) (e:=a) mu (.inl rfl) (λb q hb z=>(hs.2 b hb).trans z) he new
def rq {P:Program}{w:World}{H':Hp}{h':Heap}{kvs:List (aN×V)}{vs:List (aN×Value)}(z:kvs.length<=sizeLine)(hd:(a == sysModules)=false)(rel:KV kvs vs)(dd:h'.DictOf (a7 P w) a vs) :
  cC P w H' h' a (.dK kvs):=⟨z,hd,vs,rel,dd⟩
def Co {H':Hp}{Q:Unit->Shared->Prop}(hu:A.units+1 < cLine)(I:Inv X ah σ H s)(g:oO H a y v H')(ry:RelV y u)(rv:RelV v r)(h:∀s',Inv X ah σ H' s'->Q () s') :
  wpAny (model X.prog X.w) A (setItem (.ref a) u r) Q E s:=by
 rcases g with ⟨kvs,k,e,ey,l,eH⟩ | ⟨kvs,k,b,e,ey,eb,l,eH⟩
 .subst ey eH;obtain⟨z,hd,vs,rel,dd⟩:=xn I.bU e;have hz:vs.length<=sizeLine:=by rw [<-rel.length];exact z
  have hl:(bP kvs k v).length<=sizeLine:=by have:=eW kvs k v;omega
  refine wpAny_setItem_pairs (hsz:=hz) (kP ry) dd λh' F7 hs=>h _ ?_;have he:∃q,h'.get? a=some q:=let ⟨q,_,_,hq,_⟩:=F7;⟨q,hq⟩;exact pU I (by rw [e];exact True.intro) hs he (rq hl hd (rel.put k rv) F7)
 subst ey eH;cases (show u=Value.ref b from ry);obtain⟨z,hd,xs,rel,dd⟩:=O6 I.bU e;have hz:xs.length<=sizeLine:=by rw [<-bK rel];exact z
 have hl:(bP kvs k v).length<=sizeLine:=by have:=eW kvs k v;omega
 refine wpAny_setItem_heap (hsz:=hz) (nU hu) (lN I.bU eb) dd λh' F7 hs=>h _ ?_;obtain⟨q,es,ep,hq,h2,h3,h4,_,h5⟩:=F7;refine pU I (by rw [e];exact True.intro) hs ⟨q,hq⟩ ⟨hl,hd,_,(rel.put k eb rv).keeps λc ys ec=>?_,q,es,ep,hq,h2,h3,h4,h5⟩;rw [ai (NC ec e (λz=>nomatch z))];exact ec
end
section
variable {X:Cx}{ah:List (Addr×Obj)}{σ:St}{H:Hp}{s:Shared}{a:Addr}{kvs:List (aN×V)}{k:aN}{u:Value}{A:Around}{E:Value->Shared->Prop}
def O8 {Q:Value->Shared->Prop}(I:Inv X ah σ H s)(e:Rd H a (.dK kvs))(h:∀t s',Inv X ah σ H s'->Q (.int kvs.length t) s'):wpAny (model X.prog X.w) A (call (.builtin "len") [.ref a]) Q E s:=by
 obtain⟨z,hd,vs,rel,dd⟩:=ni I.bU e;refine call_len_dict hd dd (by rw [<-rel.length];rw [sizeLine_eq] at z;omega) ?_;rw [<-rel.length];exact h _ _ (I.tok _)
end
def Pq (i:Expr):Prop:=∀ov iv,subscripted i false ov iv=operate [ov,iv] (getItem ov iv)
def Aj {prog:Program}{w:World}{A:Around}{E:Value->Shared->Prop}{s:Shared}{env:Env}{value slice:Expr}{pos:Pos}{T id:String}{Q:Value->Shared->Prop}
  (hl:typeLookup (.type T) "__getitem__"=pure (some (.builtin id)))(hs:Pq slice)
  (h:wpAny (model prog w) A (eval value env) (λo s₁=>wpAny (model prog w) A (eval slice env) (λi s₂=>s₂.TypeIs o T/\wpAny (model prog w) A (getItem o i) Q E s₂) E s₁) E s) :
  wpAny (model prog w) A (eval (.Subscript value slice pos) env) Q E s:=by
 refine Subscript_ (cW h (λo s₁ h₁=>cW h₁ (λi s₂ h₂=>?_) λ_ _ x=>x) λ_ _ x=>x);obtain⟨hT,h₂⟩:=h₂;unfold subscriptTail;refine aA ?_;rw [getitemInPython_of_ne hT.not_modules];refine aA (wpAny_specialOf hT hl ?_);have fin:wpAny (model prog w) A (subscripted slice false o i) (λr s₃=>wpAny (model prog w) A (letTemporaryGo value o r >>= λ_=>pure r) Q E s₃) E s₂:=by
  rw [hs o i];exact wpAny_operating (cW h₂ (λr s₃ h₃=>aA (wpAny_letTemporaryGo (bj h₃))) λ_ _ x=>x)
 first
  | exact bj (aA fin)
  | exact aA (bj (aA fin))
  | exact aA fin
def xq {X:Cx}{ah:List (Addr×Obj)}{σ:St}{H:Hp}{s:Shared}{a:Addr}{y:V}{o:Option V}(I:Inv X ah σ H s)(g:cE H a y o):s.TypeIs (.ref a) "dict" := by
 rcases g with ⟨kvs,k,e,_,_⟩ | ⟨kvs,k,b,e,_,_,_⟩
 .obtain⟨_,_,vs,_,dd⟩:=ni I.bU e;exact dd.typeIs
 obtain⟨_,_,xs,_,dd⟩:=rp I.bU e;exact dd.typeIs
inductive Y4 (x:V)(S:Addr->Hp->Prop)(R:Hp->Prop):Prop
|mk(a:Addr)(H4:Hp)(e:x=.ref a)(s:S a H4)(q:R H4)
inductive Y5 (S:Option V->Prop)(R:Option V->Prop):Prop
|mk(o:Option V)(s:S o)(q:R o)
inductive Y6 (x:V)(S:Addr->V->Prop)(R:V->Prop):Prop
|mk(a:Addr)(v:V)(e:x=.ref a)(s:S a v)(q:R v)
inductive VG (x:V)(S:Addr->Option V->Prop)(R:Option V->Prop):Prop
|mk(a:Addr)(o:Option V)(e:x=.ref a)(s:S a o)(q:R o)
def Ah (td ty:TE):TE:=λσ H Q=>td σ H λx H1=>ty σ H1 λy H2=>Y6 x (λa v=>cE H2 a y (some v)) λv=>Q v H2
def M9 (ty td:TE):TE:=λσ H Q=>ty σ H λy H1=>td σ H1 λx H2=>VG x (λa o=>cE H2 a y o) λo=>Q (.bl o.isSome) H2
def Ag (ty td:TE):TE:=λσ H Q=>ty σ H λy H1=>td σ H1 λx H2=>VG x (λa o=>cE H2 a y o) λo=>Q (.bl (!o.isSome)) H2
def Nm (td ty tv:TE):TS:=λD σ H=>tv σ H λv H1=>td σ H1 λx H2=>ty σ H2 λy H3=>Y4 x (λa H4=>oO H3 a y v H4) λH4=>D.nx σ H4
section
variable {X:Cx}{o i e value:Expr}{pos pos' tpos:Pos}{td ty tv:TE}
def fc (hu:X.A.units+1 < cLine)(ho:PE X o td)(hi:PE X i ty)(hs:Pq i):PE X (.Subscript o i pos) (Ah td ty):=by
 intro ah s σ H Q I h;refine Aj PySem.F.slot_dict_getitem.lookup hs (cS (ho ah s σ H _ I h) λu s1 bh=>?_);obtain⟨x,H1,I1,rx,q1⟩:=bh;refine cS (hi ah s1 σ H1 _ I1 q1) λiv s2 bh=>?_;obtain⟨y,H2,I2,ry,a,v,ex,g,q2⟩:=bh;subst ex;obtain rfl:u=Value.ref a:=rx;exact⟨xq I2 g,Cp hu I2 g ry λw' s3 I3 yN=>⟨v,H2,I3,yN,q2⟩⟩
def oh (hu:X.A.units+1 < cLine)(hi:PE X i ty)(ho:PE X o td):PC X .In i o (M9 ty td):=by
 intro ah s σ H Q I h;refine cS (hi ah s σ H _ I h) λiv s1 bh=>?_;obtain⟨y,H1,I1,ry,q1⟩:=bh;refine cS (ho ah s1 σ H1 _ I1 q1) λu s2 bh=>?_;obtain⟨x,H2,I2,rx,a,ov,ex,g,q2⟩:=bh;subst ex;obtain rfl:u=Value.ref a:=rx;exact Vf hu I2 g ry λs3 I3=>⟨.bl ov.isSome,H2,I3,rfl,q2⟩
def dP (hu:X.A.units+1 < cLine)(hi:PE X i ty)(ho:PE X o td):PC X .NotIn i o (Ag ty td):=by
 intro ah s σ H Q I h;refine cS (hi ah s σ H _ I h) λiv s1 bh=>?_;obtain⟨y,H1,I1,ry,q1⟩:=bh;refine cS (ho ah s1 σ H1 _ I1 q1) λu s2 bh=>?_;obtain⟨x,H2,I2,rx,a,ov,ex,g,q2⟩:=bh;subst ex;obtain rfl:u=Value.ref a:=rx;exact HP hu I2 g ry λs3 I3=>⟨.bl (!ov.isSome),H2,I3,rfl,q2⟩
def iu (hu:X.A.units+1 < cLine)(ho:PE X o td)(hi:PE X i ty)(hv:PE X value tv)(hs:swapsWith value (some (.Subscript o i pos')) pos.line X.env=pure false) :
  PS X (.Assign [.Subscript o i pos'] value pos) (Nm td ty tv):=by
 intro ah s σ H D I h;refine wpAny_Assign_Subscript (cS (hv ah s σ H _ I h) λr s1 bh=>?_) hs;obtain⟨v,H1,I1,rv,q1⟩:=bh;refine cS (ho ah s1 σ H1 _ I1 q1) λu s2 bh=>?_;obtain⟨x,H2,I2,rx,q2⟩:=bh;refine cS (hi ah s2 σ H2 _ I2 q2) λiv s3 bh=>?_;obtain⟨y,H3,I3,ry,a,H4,ex,g,q3⟩:=bh;subst ex;obtain rfl:u=Value.ref a:=rx;exact Co hu I3 g ry rv λs4 I4=>⟨σ,H4,I4,q3⟩
end
def xp {P:Program}{w:World}{H:Hp}(h:Heap)(hb:sysModules < h.objs.size):cC P w H (h.push { cls:=.type "dict",data:=.dict #[] }) h.objs.size (.dK []) :=
 ⟨dD _,jt.mpr (fY (bT hb)),[],.nil,Heap.DictOf.new h⟩
def C6:TE:=λ_ H Q=>∀p,H p=none->Q (.ref p) (upd H p (.dK []))
section
variable {X:Cx}{pos:Pos}
def gi:PE X (.Dict [] [] pos) C6:=λah s σ H Q I h =>
 wpAny_Dict_empty ⟨.ref s.heap.objs.size,_,I.laid (a:=s.heap.objs.size) (o:=.dK []) (t':=s.toks) (λ_ _ q=>bZ _ q) (aL _) (xp s.heap I.big),rfl,h _ (I.bU.fresh (aL _))⟩
end
def ym:List (TE×TE)->St->Hp->(List (V×V)->Hp->Prop)->Prop
 | [],_,H,Q=>Q [] H
 | (tk,tv)::r,σ,H,Q=>tk σ H λx H1=>tv σ H1 λy H2=>ym r σ H2 λps H3=>Q ((x,y)::ps) H3
abbrev VV:List (V×V)->List (Value×Value)->Prop:=Paired λp q=>RelV p.1 q.1/\RelV p.2 q.2
def QT (X:Cx)(pos:Pos)(keys:List (Option Expr))(values:List Expr)(Gn:List (TE×TE)):Prop :=
 ∀(ah:List (Addr×Obj))(s:Shared)(σ:St)(H:Hp)(Q:List (V×V)->Hp->Prop),Inv X ah σ H s->ym Gn σ H Q ->
  wpAny (model X.prog X.w) X.A (evalPairs (pairTrees keys values X.env pos)) (λvs s'=>∃ps H',Inv X ah σ H' s'/\VV ps vs/\Q ps H') X.xe s
def G3 {X:Cx}{pos:Pos}:QT X pos [] [] []:=λah s σ H Q I h=>pairTrees_nil_walk ⟨[],H,I,.nil,h⟩
def DL {X:Cx}{pos:Pos}{k v:Expr}{ks:List (Option Expr)}{vs:List Expr}{tk tv:TE}{Gn:List (TE×TE)}(hk:PE X k tk)(hv:PE X v tv)(hr:QT X pos ks vs Gn) :
  QT X pos (some k::ks) (v::vs) ((tk,tv)::Gn):=λah s σ H Q I h =>
 pairTrees_cons_walk (cS (hk ah s σ H _ I h) λu s1 ⟨x,H1,I1,rx,q1⟩=>cS (hv ah s1 σ H1 _ I1 q1) λw2 s2 ⟨y,H2,I2,ry,q2⟩ =>
  cS (hr ah s2 σ H2 _ I2 q2) λws s3 ⟨ps,H3,I3,rel,q3⟩=>⟨(x,y)::ps,H3,I3,.cons ⟨rx,ry⟩ rel,q3⟩)
def lH (kvs more:List (aN×V)):List (aN×V):=more.foldl (λbF kv=>bP bF kv.1 kv.2) kvs
def KV.merge:∀{more:List (aN×V)}{rs:List (aN×Value)}{kvs:List (aN×V)}{vs:List (aN×Value)},KV more rs->KV kvs vs->KV (lH kvs more) (merged vs rs):=by
 intro more rs kvs vs r;unfold KV at r
 induction r generalizing kvs vs with
 | nil=>intro q;exact q
 | @cons p q ps qs h t ih =>
  intro r0;have e:KV (bP kvs p.1 p.2) (stored vs q.1 q.2):=by
   have:=r0.put p.1 h.2;rw [<-h.1];exact this
  exact ih e
theorem kO:∀(more kvs:List (aN×V)),(lH kvs more).length<=kvs.length+more.length
 | [],kvs=>by show kvs.length<=kvs.length+0;omega
 | p::r,kvs=>by
  have h1:=kO r (bP kvs p.1 p.2);have h2:=eW kvs p.1 p.2;show (lH (bP kvs p.1 p.2) r).length<=_;rw [bV];omega
theorem rH {P:Program}{w:World}:∀{kvs:List (aN×V)}{ws:List (Value×Value)},VV (kvs.map λkv=>(kV kv.1,kv.2)) ws->∃rs,Carries (a7 P w) ws rs/\KV kvs rs
 | [],_,r=>by rw [jm] at r;cases r;exact⟨[],True.intro,.nil⟩
 | p::kvs,_,r=>by
  rw [br] at r;cases r with
  | @cons a b as bs h t =>
   obtain⟨rs,c,q⟩:=rH (P:=P) (w:=w) t;obtain⟨b1,b2⟩:=b;exact⟨(p.1,b2)::rs,⟨kP h.1,rfl,c⟩,.cons ⟨rfl,h.2⟩ q⟩
def M7 (Gn:List (TE×TE)):TE:=λσ H Q=>∀p,H p=none->ym Gn σ (upd H p (.dK [])) λps H2=>H2 p=some (.dK [])/\∃kvs:List (aN×V),ps=kvs.map (λkv=>(kV kv.1,kv.2))/\kvs.length<=15/\Q (.ref p) (upd H2 p (.dK (lH [] kvs)))
def G_ {X:Cx}{pos:Pos}{keys:List (Option Expr)}{values:List Expr}{Gn:List (TE×TE)}(h:QT X pos keys values Gn)(pB:keys.all (·.isSome)=true)(hl:keys.length=values.length)(h0:keys≠[])
  (Uv:keys.length<=15):PE X (.Dict keys values pos) (M7 Gn):=by
 intro ah s σ H Q I q;have hn:=I.bU.fresh (aL s.heap.objs.size);have I1:=I.laid (a:=s.heap.objs.size) (o:=.dK []) (h':=s.heap.push { cls:=.type "dict",data:=.dict #[] }) (t':=s.toks) (λ_ _ q=>bZ _ q) (aL _) (xp s.heap I.big);refine wpAny_Dict_walk (knd:=a7 X.prog X.w) pB hl h0 Uv (cS (h ah _ σ _ _ I1 (q _ hn)) λws s2 bh=>?_);obtain⟨ps,H2,I2,rel,e,kvs,ep,lk,q2⟩:=bh;subst ep;obtain⟨rs,c,rk⟩:=rH (P:=X.prog) (w:=X.w) rel;obtain⟨z,hd,vs0,r0,dd⟩:=xn I2.bU e;cases r0;refine⟨rs,c,dd,λh' F7 hs=>⟨.ref s.heap.objs.size,_,?_,rfl,q2⟩⟩;have hz:(lH [] kvs).length<=sizeLine:=by
  have h1:=kO kvs [];rw [jq] at h1;rw [sizeLine_eq];omega
 have he:∃q,h'.get? s.heap.objs.size=some q:=let ⟨q,_,_,hq,_⟩:=F7;⟨q,hq⟩;exact pU I2 (by rw [e];exact True.intro) hs he (rq hz hd (rk.merge .nil) F7)
structure M1 (X:Cx)(o:Expr)(m:Str)(apos:Pos)(e:Expr)(fE:Pos):Prop where
 base:attributeBase o m X.env (eval o X.env)=eval o X.env
 Qv:((backTo fE (starEach [e] X.env)).all (λx=>!x.1) && (backToKw fE (keywordEach [] X.env)).all (λx=>x.1.isSome)
  && decide (([e]:List Expr).length+([]:List Keyword).length+(if ([]:List Keyword).isEmpty then 0 else 1) < 30))=true
 line:(apos.endLine == fE.line)=true
 trees:backTo fE (starEach [e] X.env)=[(false,eval e X.env)]
structure M2 (X:Cx)(o:Expr)(m:Str)(apos:Pos)(e f:Expr)(fE:Pos):Prop where
 base:attributeBase o m X.env (eval o X.env)=eval o X.env
 Qv:((backTo fE (starEach [e,f] X.env)).all (λx=>!x.1) && (backToKw fE (keywordEach [] X.env)).all (λx=>x.1.isSome)
  && decide (([e,f]:List Expr).length+([]:List Keyword).length+(if ([]:List Keyword).isEmpty then 0 else 1) < 30))=true
 line:(apos.endLine == fE.line)=true
 trees:backTo fE (starEach [e,f] X.env)=[(false,eval e X.env),(false,eval f X.env)]
def QV (H:Hp)(a:Addr):Prop:=(∃kvs,Rd H a (.dK kvs))\/∃kvs,Rd H a (.dT kvs)
def zB {X:Cx}{ah:List (Addr×Obj)}{σ:St}{H:Hp}{s:Shared}{a:Addr}(I:Inv X ah σ H s)(d:QV H a) :
  s.TypeIs (.ref a) "dict" /\ (∀b,Value.ref a=.ref b->∃ob,s.heap.get? b=some ob/\ob.dict=none)/\(a == sysModules)=false:=by
 rcases d with ⟨kvs,e⟩ | ⟨kvs,e⟩
 .obtain⟨_,hd,vs,_,dd⟩:=ni I.bU e;refine⟨dd.typeIs,λb q=>?_,hd⟩;cases q;obtain⟨ob,_,_,h1,h2,_⟩:=dd;exact⟨ob,h1,h2.2.1⟩
 obtain⟨_,hd,xs,_,dd⟩:=rp I.bU e;refine⟨dd.typeIs,λb q=>?_,hd⟩;cases q;obtain⟨ob,_,_,h1,h2,_⟩:=dd;exact⟨ob,h1,h2.2.1⟩
section
variable {X:Cx}{ah:List (Addr×Obj)}{σ:St}{H:Hp}{s:Shared}{a:Addr}{y d:V}{u r:Value}{o:Option V}{A:Around}{E:Value->Shared->Prop}
def Lu {Q:Value->Shared->Prop}(hu:A.units+1 < cLine)(I:Inv X ah σ H s)(g:cE H a y o)(ry:RelV y u)(rd:RelV d r)(h:∀w' s',Inv X ah σ H s'->RelV (o.getD d) w'->Q w' s') :
  wpAny (model X.prog X.w) A (call (.builtin "dict.get") [.ref a,u,r]) Q E s:=by
 rcases g with ⟨kvs,k,e,ey,l⟩ | ⟨kvs,k,b,e,ey,eb,l⟩
 .subst ey;obtain⟨z,hd,vs,rel,dd⟩:=ni I.bU e;refine call_meetsIn PySem.F.slot_dict_get dd.typeIs PySem.F.entry_dict_get (PySem.F.args_dict_get_3 _ _ _) (meets_dict_get_default (a7 X.prog X.w) a (kP ry) hd r) ⟨_,dd.mapOf,h _ _ (I.tok _) ?_⟩;rw [l];exact(rel.val k).getD rd
 subst ey;cases (show u=Value.ref b from ry);obtain⟨z,hd,xs,rel,dd⟩:=rp I.bU e;refine call_meetsIn PySem.F.slot_dict_get dd.typeIs PySem.F.entry_dict_get (PySem.F.args_dict_get_3 _ _ _) (meetsH_dict_get_default (tupleKind (a7 X.prog X.w)) a b hd r) ⟨nU hu,k,xs,lN I.bU eb,dd,h _ _ (I.tok _) ?_⟩;rw [l];exact(rel.val k).getD rd
end
def JA (td ty tx:TE):TE:=λσ H Q=>td σ H λx H1=>QP x (QV H1) λa=>ty σ H1 λy H2=>tx σ H2 λz H3=>Y5 (cE H3 a y) λo=>Q (o.getD z) H3
section
variable {X:Cx}{o e f:Expr}{apos fE:Pos}{td ty tx:TE}
def DQ (hu:X.A.units+1 < cLine)(ho:PE X o td)(he:PE X e ty)(hf:PE X f tx)(m:M2 X o "get" apos e f fE):PE X (.Call (.Attribute o "get" apos) [e,f] [] fE) (JA td ty tx):=by
 intro ah s σ H Q I h;refine wpAny_Call_method m.base m.Qv m.line ya PySem.F.slot_dict_get PySem.F.type_dict_get (cS (ho ah s σ H _ I h) λu s1 bh=>?_);obtain⟨x,H1,I1,rx,a,ex,d,q1⟩:=bh;subst ex;obtain rfl:u=Value.ref a:=rx;obtain⟨t1,t2,_⟩:=zB I1 d;refine⟨t1,t2,?_⟩;rw [m.trees];refine uD rfl (uw (nS (cS (he ah s1 σ H1 _ I1 q1) λiv s2 ⟨y,H2,I2,ry,q2⟩ =>
  nS (cS (hf ah s2 σ H2 _ I2 q2) λfv s3 ⟨z,H3,I3,rz,ov,g,q3⟩=>Calls.spliced_nil ?_))))
 exact Lu hu I3 g ry rz λw' s4 I4 yN=>⟨_,H3,I4,yN,q3⟩
end
section
variable {X:Cx}{ah:List (Addr×Obj)}{σ:St}{H:Hp}{s:Shared}{a:Addr}{kvs:List (aN×V)}{A:Around}{E:Value->Shared->Prop}
end
section
variable {X:Cx}{ah:List (Addr×Obj)}{σ:St}{H:Hp}{s:Shared}{a:Addr}{y:V}{u:Value}{A:Around}{E:Value->Shared->Prop}
end
end L2
set_option maxHeartbeats 4000000
namespace L2
open PySem
def vw:typeLookup (.type "list") "keys"=pure none:=by rw [typeLookup_type,builtinLookup_eq_fast];kernel_rfl
def vx:typeLookup (.type "list") "__getattr__"=pure none:=by rw [typeLookup_type,builtinLookup_eq_fast];kernel_rfl
section
variable {prog:Program}{w:World}{A:Around}{E:Value->Shared->Prop}{h:Heap}{g:Array GenState}{d:Drawn}{t:Nat}{os:OsState}{a:Addr}{o:Obj}
def C8:isSubtype (.type "AttributeError") (.type "AttributeError")=pure true:=by rw [isSubtype_type];kernel_rfl
def Kb {m:Str}{tk:Tok}:ownMembersOf (.type "AttributeError") [.str m tk]=#[unsetMember,unsetMember]:=by kernel_rfl
def E_ {m:Str}{tk:Tok}:firstArgMember (.type "AttributeError") [.str m tk]=pure .none:=by kernel_rfl
def yP {α:Type}{self:Value}{name msg:Str}{Q:α->Shared->Prop}(hm:msg.length<=sizeLine)(hh:A.handled=none)
  (hq:∀h' t' e oe,(∀b o,h.get? b=some o->h'.get? b=some o)->h'.get? e=some oe->oe.cls=.type "AttributeError" -> E (.ref e) ⟨h',g,d,t',os⟩) :
  wpAny (model prog w) A (raiseAttrError self name msg) Q E ⟨h,g,d,t,os⟩:=by
 have f1:=C8;unfold raiseAttrError newExc;refine aA (wpAny_mkStr ?_ hm);have fe:=E_ (m:=msg) (tk:=t);rw [Kb]
 repeat (any_goals (first | assumption | wp_step))
 unfold raiseNew;refine aA (wpAny_handled ?_);rw [hh];refine aA (bj ?_);refine wpAny_throw ?_;refine hq _ _ _ _ (λb o q=>?_) (Heap.get?_update_self _ (de _ rfl) rfl) rfl;have lt:=bc q;rw [Heap.get?_update_other _ _ (by rw [jN];exact jo (uv lt))];exact bZ _ (bZ _ q)
def zx {tk:Tok}{aJ:Array Value}{n:Nat}{Q:Fin->Shared->Prop}(hx:h.get? a=some { cls:=.type "list",data:=.seq aJ n })(hh:A.handled=none)
  (hq:∀h' t' e oe,(∀b o,h.get? b=some o->h'.get? b=some o)->h'.get? e=some oe->oe.cls=.type "AttributeError" -> E (.ref e) ⟨h',g,d,t',os⟩) :
  wpAny (model prog w) A (Builtin.«object.__getattribute__» ⟨[.ref a,.str "keys" tk],[]⟩) Q E ⟨h,g,d,t,os⟩:=by
 have hT:(⟨h,g,d,t,os⟩:Shared).TypeIs (.ref a) "list" := ⟨_,hx,rfl⟩;have f4:=vw
 repeat (any_goals (first | assumption | wp_step))
 exact yP nofun hh hq
def oq {aJ:Array Value}{n:Nat}{Q:Option Value->Shared->Prop}(hx:h.get? a=some { cls:=.type "list",data:=.seq aJ n })(hh:A.handled=none)
  (hq:∀h' t',(∀b o,h.get? b=some o->h'.get? b=some o)->Q none ⟨h',g,d,t',os⟩):wpAny (model prog w) A (getAttr? (.ref a) "keys") Q E ⟨h,g,d,t,os⟩:=by
 have hT:∀t',(⟨h,g,d,t',os⟩:Shared).TypeIs (.ref a) "list" := λt'=>⟨_,hx,rfl⟩;have f1:=C8;have f2:=uH.lookup;have f3:=uH.bind (.ref a);have f4:=vx;unfold getAttr? getAttrBy? getAttrBy;refine aA (wpAny_mkText (aA (wpAny_attempt (jE (aA (nF (hT _) ?_))))));rw [f2];refine aA (bj ?_);show wpAny _ _ (getAttrByItsOwn _ _ _ _ _ _) _ _ _;unfold getAttrByItsOwn;refine aA (bj (a:=none) (aA (wpAny_attempt (jE ?_))));show wpAny _ _ (boundAndCalled _ _ _) _ _ _;unfold boundAndCalled;rw [f3];refine aA (bj (jH (ql uH.plain F.entry_list_ga (uH.check _ _ _ _ _ _ _ _ (hT _) (F.args_list_getattribute_2 _ _) (zx hx hh λh' t' e oe k ee ec=>?_)))));have te:(⟨h',g,d,t',os⟩:Shared).TypeIs (.ref e) "AttributeError" := ⟨oe,ee,ec⟩;show wpAny _ _ (getattributeRaised _ _ _ _ _ _ _) _ _ _;unfold getattributeRaised;refine aA (wpAny_isInstance te f1 ?_);rw [az rfl];show wpAny _ _ (typeLookup _ _ >>= _) _ _ _;rw [f4];refine aA (bj ?_);show wpAny _ _ (throw _) _ _ _;refine wpAny_throw ?_;refine aA (wpAny_isInstance te f1 ?_);rw [az rfl];exact bj (hq h' t' k)
end
def e_:plainId "dict.update.loop"=true:=by decide +kernel
def kq:entryFor table "dict.update.loop"=some Builtin.«dict.update.loop»:=entryFor_of_tree (nofun)
section
variable {prog:Program}{w:World}{K:Type} [DecidableEq K] {knd:KeyKind prog w K}{A:Around}{E:Value->Shared->Prop}
def lU (knd:KeyKind prog w K)(h:Heap)(u:Value)(kv:K×Value):Prop :=
 ∃t key n o,u=.ref t/\knd.is kv.1 key=true/\h.get? t=some o/\o.cls=.type "tuple" /\ o.data=.seq #[key,kv.2] n
def lU.keep {h h':Heap}{u:Value}{kv:K×Value}(p:lU knd h u kv)(k:∀b o,o.cls=.type "tuple" -> h.get? b=some o->h'.get? b=some o):lU knd h' u kv :=
 let ⟨t,key,n,o,a,b,c,d,e⟩:=p;⟨t,key,n,o,a,b,k t o d c,d,e⟩
def Fe {R:Result->Shared->Prop}{d it l:Addr}{items:Array Value}(hh:A.handled=none):∀(more:List (K×Value)) (i:Nat)(s:Shared)(kvs:List (K×Value)) (j:Int)(tk:Tok),items.size=i+more.length ->
  s.heap.DictOf knd d kvs->s.heap.IsListIter it l i->s.heap.IsList l items->(∀m kv,more[m]?=some kv->∃u,items[i+m]?=some u/\lU knd s.heap u kv)->kvs.length+more.length<=sizeLine ->
  (∀h' t',h'.DictOf knd d (more.foldl (λa p=>stored a p.1 p.2) kvs)->(∀b o,b≠d->b≠it->s.heap.get? b=some o->h'.get? b=some o)->R (.ok (.ret .none)) { s with heap:=h',toks:=t' }) ->
  codeAny (model prog w) A (.builtin "dict.update.loop" ⟨[.ref d,.ref it,.int j tk,.none],[]⟩) R s:=by
 intro more
 induction more with
 | nil =>
  intro i s kvs j tk hi hd hit hl hp hz hR;refine nK kq ?_;rw [qk e_ _];unfold Builtin.«dict.update.loop»;have hs:items[i]?=none:=Array.getElem?_eq_none (by rw [hi];exact aL _);refine aA (uC hh hit hl hs λh1 eb=>?_);have nd:d≠it:=λz=>by
   obtain⟨o,_,_,q,_,c,_⟩:=hd;obtain⟨o',q',_,c'⟩:=hit;rw [z,q'] at q;cases q;rw [c'] at c;cases c
  show wpAny _ _ (Builtin.Dict.addKeywords d [] >>= _) _ _ _;exact aA (bj (bj (hR h1 s.toks (hd.extBut eb nd) λb o n1 n2 q=>eb b o n2 q)))
 | cons kv more ih =>
  intro i s kvs j tk hi hd hit hl hp hz hR;refine nK kq ?_;rw [qk e_ _];unfold Builtin.«dict.update.loop»;obtain⟨u,hu,t,key,n,o,rfl,hk,ho,hc,vE⟩:=hp 0 kv rfl;refine aA (wpAny_pyNext_list_item hit hl hu λh1 SJ sb=>?_);have nd:d≠it:=λz=>by
   obtain⟨o,_,_,q,_,c,_⟩:=hd;obtain⟨o',q',_,c'⟩:=hit;rw [z,q'] at q;cases q;rw [c'] at c;cases c
  have n2:∀b o,(o.cls=.type "tuple" \/ o.cls=.type "list")->s.heap.get? b=some o->b≠d/\b≠it:=by
   intro b o c q;constructor
   .intro z;obtain⟨o',q',c'⟩:=hd.typeIs;rw [z,q'] at q;cases q;rw [c'] at c;rcases c with c | c <;> exact absurd c nofun
   intro z;obtain⟨o',q',c',_⟩:=hit;rw [z,q'] at q;cases q;rw [c'] at c;rcases c with c | c <;> exact absurd c nofun
  have nt:∀b o,o.cls=.type "tuple" -> s.heap.get? b=some o->b≠d/\b≠it:=λb o c q=>n2 b o (.inl c) q;have nl:l≠d/\l≠it:=by
   obtain⟨o,q,c,_⟩:=hl;exact n2 l o (.inr c) q
  have Ou:h1.get? t=some o:=(sb.2 t (nt t o hc ho).2).trans ho;have K0:h1.DictOf knd d kvs:=hd.sameBut sb nd;refine aA (jE (aA (wpAny_tryCatch ?_)));unfold Builtin.Dict.pairItems;refine aA (nF (T := "tuple") ⟨o,Ou,hc⟩ ?_);rw [az nofun];refine aA (p6 Ou vE (bj ?_));show wpAny _ _ (holding [key,kv.2] (dictSet d key kv.2)) _ _ _;rw [bV] at hz hi;refine jE (wpAny_dictSet_pairs (s:={ s with heap:=h1 }) hk K0 (λh2 hd2 Nl=>?_) ∅);have kk:∀b o,b≠d->b≠it->s.heap.get? b=some o->h2.get? b=some o:=λb o n1 n2 q=>(Nl.2 b n1).trans ((sb.2 b n2).trans q);have ln:(stored kvs kv.1 kv.2).length<=kvs.length+1:=by
   unfold stored
   split
   .simp
   simp
  refine bj ⟨nH e_ _,ih (i+1) _ _ _ _ ∅ hd2 (SJ.at λo q=>(Nl.2 it (fY nd)).trans q) (hl.at λo q=>kk l o nl.1 nl.2 q) (λm SD e=>?_) ∅ λh3 t3 gY k3=>?_⟩
  .obtain⟨u',e1,e2⟩:=hp (m+1) SD e;exact⟨u',by rw [<-e1];congr 1;omega,e2.keep λb o c q=>kk b o (nt b o c q).1 (nt b o c q).2 q⟩
  exact hR h3 t3 gY λb o n1 n2 q=>k3 b o n1 n2 (kk b o n1 n2 q)
def yn:(Value.type "list" != Value.type "dict")=true:=by decide
def rK {s:Shared}{l:Addr}{items:Array Value}{n:Nat}{more:List (K×Value)}{Q:Value->Shared->Prop}(knd:KeyKind prog w K)(hh:A.handled=none)(hx:s.heap.get? l=some { cls:=.type "list",data:=.seq items n })
  (hi:items.size=more.length)(hp:∀(m:Nat) kv,more[m]?=some kv->∃u,items[m]?=some u/\lU knd s.heap u kv)(hz:more.length<=sizeLine)
  (h:∀h' t',h'.DictOf knd s.heap.objs.size (more.foldl (λa p=>stored a p.1 p.2) [])->(∀b o,s.heap.get? b=some o->h'.get? b=some o)->Q (.ref s.heap.objs.size) { s with heap:=h',toks:=t' }) :
  wpAny (model prog w) A (call (.type "dict") [.ref l]) Q E s:=by
 refine callType_codes (Q₁:=λobj s₁=>obj=.ref s.heap.objs.size/\s₁={ s with heap:=s.heap.push { cls:=.type "dict",data:=.dict #[] } }) F.kt_called_dict (F.kt_typeCall_dict_1 _) F.entry_dict_init (kt_code_dict_new _ ⟨rfl,rfl⟩) ?_;rintro obj s₁ ⟨rfl,rfl⟩;have zi:(s.heap.push { cls:=.type "dict",data:=.dict #[] }).DictOf knd s.heap.objs.size []:=Heap.DictOf.new s.heap;have l0:=bZ { cls:=.type "dict",data:=.dict #[] } hx;refine⟨zi.typeIs,F.args_dict_init_2 _ _,?_⟩;unfold Builtin.«dict.__init__» Builtin.Dict.selfAndRest;refine aA (aA (wpAny_notOrdered_dict zi.typeIs (bj ?_)));show wpAny _ _ (Builtin.Dict.updateFrom "dict.__init__" s.heap.objs.size (.ref l) [] .none) _ _ _;unfold Builtin.Dict.updateFrom;refine aA (nF (T := "list") ⟨_,l0,rfl⟩ ?_);rw [az yn];refine aA (oq l0 hh λh1 t1 k1=>?_);refine aA (wpAny_rule ?_);have l1:=k1 _ _ l0;refine aA (kI ⟨_,l1,rfl,_,rfl⟩ ?_);have k2:∀b o,s.heap.get? b=some o->(h1.push { cls:=.type "list_iterator",data:=.fields #[.ref l,.int 0 0] }).get? b=some o:=λb o q=>bZ _ (k1 _ _ (bZ _ q));refine bj ⟨nH e_ _,Fe (knd:=knd) (A:=A.in1) (l:=l) (items:=items) (show A.in1.handled=none from hh) more 0 _ [] _ _ (by rw [hi,nI]) ?_ ⟨_,de _ rfl,rfl,rfl⟩ ⟨_,k2 _ _ hx,rfl,n,rfl⟩ (λm kv e=>?_) (by simpa using hz) λh' t' hd k3=>?_⟩
 .obtain⟨o,es,ep,q,r⟩:=zi;exact⟨o,es,ep,bZ _ (k1 _ _ q),r⟩
 .obtain⟨u,e1,e2⟩:=hp m kv e;exact⟨u,by rw [nI];exact e1,e2.keep λb o _ q=>k2 b o q⟩
 refine⟨rfl,h h' t' hd λb o q=>k3 b o (bT (bc q)) ?_ (k2 b o q)⟩;have:=bc (k1 _ _ (bZ { cls:=.type "dict",data:=.dict #[] } q));exact bT this
end
open PySem PySem.Spec PyProof.Rows
def CC (X:Cx)(ifs:List Expr)(t:TT):Prop :=
 ∀(ah:List (Addr×Obj))(s:Shared)(σ:St)(H:Hp)(Q:Bool->Hp->Prop),Inv X ah σ H s->t σ H Q ->
  wpAny (model X.prog X.w) X.A (forIn ifs true λc r=>if r=true then do let ok <-isTrue c X.env (eval c X.env);pure (ForInStep.yield ok) else pure (ForInStep.yield r)) (TP X ah σ Q) X.xe s
def iM:TT:=λ_ H Q=>Q true H
def cb {X:Cx}:CC X [] iM:=λ_ _ _ H _ I h=>wpAny_tests_nil ⟨H,I,h⟩
def gh {X:Cx}{c:Expr}{t:TT}(h:PT X c t):CC X [c] t:=λah s σ H Q I hw=>wpAny_tests_one (h ah s σ H Q I hw)
def o_ {prog:Program}{w:World}{A:Around}{R:Result->Shared->Prop}{s:Shared}{elt target iter:Expr}{ifs:List Expr}{scope:Scope}{pos:Pos}{it bF:Value}{env:Env}(I:Nat->Shared->Prop)
  (turn:∀n s,I n s->wpAny (model prog w) A (pyNext it) (λr s₁=>match r with
   | none=>R (.ok .next) s₁
   | some v=>wpAny (model prog w) A (letOwnedTupleGo target it v) (λ_ s₁=>wpAny (model prog w) A (assign target env v) (λ_ s₂ =>
     wpAny (model prog w) A (forIn ifs true λc r=>if r=true then do let ok <-isTrue c env (eval c env);pure (ForInStep.yield ok) else pure (ForInStep.yield r)) (λok s₃ =>
      if ok=true then wpAny (model prog w) A (eval elt env) (λx s₄ =>
       wpAny (model prog w) A (call (.builtin "list.append") [bF,x]) (λ_ s₅=>∃m,m < n/\I m s₅) (λ_ _=>False) s₄) (λ_ _=>False) s₃
      else ∃m,m < n/\I m s₃) (λ_ _=>False) s₂) (λ_ _=>False) s₁) (λ_ _=>False) s₁) (λ_ _=>False) s)
  (n:Nat)(h:I n s) :
  codeAny (model prog w) A (.compLoop (.ListComp elt [⟨target,iter,ifs,0⟩] scope pos) 0 it bF env) R s:=by
 refine codeAny_loop rfl I (λn s hI=>?_) n h;show wpAny _ A ((compTurn (.ListComp elt [⟨target,iter,ifs,0⟩] scope pos) 0 it bF env).onRaise (λx=>do noteFrame x env;theTreesLotGoes x)) _ _ s;refine wpAny_noted ?_;rw [compTurn_list];refine aA (wpAny_standAt (aA (cW (turn n s hI) (λr s₁ h₁=>?_) λ_ _ h'=>h'.elim)));cases r with
 | none=>exact bj h₁
 | some v =>
  refine aA (cW h₁ (λ_ s₂ h₂=>?_) λ_ _ h'=>h'.elim);refine aA (cW h₂ (λ_ s₂ h₂=>aA (cW h₂ (λok s₃ h₃=>?_) λ_ _ h'=>h'.elim)) λ_ _ h'=>h'.elim);cases ok with
  | false=>exact bj ⟨rfl,h₃⟩
  | true =>
   exact aA (aA (cW h₃ (λx s₄ h₄=>aA (cW h₄ (λ_ s₅ h₅=>bj (bj ⟨rfl,h₅⟩)) λ_ _ h'=>h'.elim)) λ_ _ h'=>h'.elim))
inductive xP (K:aY)(H:Hp):V->String->Prop where
 | bl (x:Bool):xP K H (.bl x) "bool"
 | int (i:Int):xP K H (.int i) "int"
 | str (x:Str):xP K H (.str x) "str"
 | tup {a:Addr}{xs:List V}(e:ba K H a xs):xP K H (.ref a) "tuple"
inductive Y0 (K:aY)(H:Hp)(xs:List V)(R:Bool->Prop):Prop
|mk(x:V)(T n:String)(b:Bool)(e:xs=[x,.ty n])(c:xP K H x T)(k:PySem.W.kitOne K (.type T) (.type n)=some b)(q:R b)
def j6 {X:Cx}:eK X (.builtin "isinstance") (λxs H Q=>Y0 X.K H xs λb=>Q (.bl b) H):=by
 intro ah s σ H xs us Q I r h;obtain⟨x,T,n,b,rfl,ty,e,q⟩:=h;obtain⟨u,w',rfl,rx,rn⟩:=vals2 r;cases (show w'=Value.type n from rn);have fin:∀tk,EP X ah σ Q (.bool b) { s with toks:=tk }:=λtk=>⟨.bl b,H,I.tok _,rfl,q⟩;cases ty with
 | bl y=>cases (show u=Value.bool y from rx);exact qd PySem.W.kitx_bool I.sC True.intro e (λz=>nomatch z) fin
 | int i=>obtain⟨t,z⟩:=(show ∃t,u=Value.int i t from rx);cases z;exact qd PySem.W.kitx_int I.sC True.intro e (λz=>nomatch z) fin
 | str y=>obtain⟨t,z⟩:=(show ∃t,u=Value.str y t from rx);cases z;exact qd PySem.W.kitx_str I.sC True.intro e (λz=>nomatch z) fin
 | @tup a ys hq =>
  cases (show u=Value.ref a from rx);obtain⟨aJ,_,⟨o,h1,h2,_⟩,_⟩:=I.tuple hq;exact qd PySem.W.kitx_tuple I.sC ⟨o,h1,h2⟩ e (λz=>nomatch z) fin
def tF {X:Cx}{a:Expr}{ta:TE}(K:aY)(ha:PE X a ta)(he:∀whole,isTrue a X.env whole=(do let v <-whole;standAt a.pos;holding [v] (truthy v)))(hK:X.K=K:=by rfl) :
  PT X a (λσ H Q=>ta σ H λx H'=>∃k,CB K x H' k/\Q k H'):=by
 subst hK;exact hZ ha he
def BD {X:Cx}(hu:X.A.units < cLine):kU X (compareOp .Eq) (λx y H Q=>∃a b xs,x=.ref a/\y=.ref b/\aD X.K H a xs/\aD X.K H b []/\Q (.bl (xs.isEmpty)) H):=by
 intro ah s σ H x y v u Q I rx ry h;obtain⟨a,b,xs,rfl,rfl,ha,hb,q⟩:=h;cases rx;cases ry;obtain⟨aJ,r,pl,hz⟩:=I.list ha;obtain⟨eY,r2,wF,IS⟩:=I.list hb;have e2:eY=[]:=aT.zero r2;subst e2;have bM:=r.length;cases xs with
 | nil =>
  have e:aJ=[]:=aT.zero r;subst e;refine SeqAt.eq_listAt (e:=λ_=>true) pl.isList wF.isList rfl hu (λj h1 _=>absurd h1 (by simp)) ⟨.bl true,H,I,rfl,q⟩
 | cons y ys =>
  refine SeqAt.eq_list_lengthsAt pl.isList wF.isList ?_ hu ⟨.bl false,H,I,rfl,q⟩;rw [bO,bO,<-bM];simp
structure Ig (env:Env)(scope:Scope)(cl:List (Str×Addr)):Prop where
 eq:closureFor scope env=pure cl
 sub:∀y c,cl.lookup y=some c->env.cells.lookup y=some c
 all:∀y,(y,NameKind.free)∈scope.names->∃c,cl.lookup y=some c
def ji {y n:Str}{c:Addr}{l:List (Str×Addr)}:((n,c)::l).lookup y=if y=n then some c else l.lookup y:=by
 by_cases h:y=n
 .rw [az h];simp [List.lookup,h]
 rw [ay h];simp [List.lookup,jt.mpr h]
def vK {env:Env}{scope:Scope}(h:∀y,(y,NameKind.free)∈scope.names->∃c,env.cells.lookup y=some c):∃cl,Ig env scope cl:=by
 have go:∀(names:List (Str×NameKind))(bF:List (Str×Addr)),(∀y,(y,NameKind.free)∈names->∃c,env.cells.lookup y=some c)->(∀y c,bF.lookup y=some c->env.cells.lookup y=some c) ->
   ∃cl,(forIn names bF λ(x:Str×NameKind)(cs:List (Str×Addr))=>(if x.2 == .free then do let c <-cellOf env x.1;pure (ForInStep.yield ((x.1,c)::cs)) else pure (ForInStep.yield cs):Sem (ForInStep (List (Str×Addr)))))=pure cl /\
    (∀y c,cl.lookup y=some c->env.cells.lookup y=some c)/\(∀y,(y,NameKind.free)∈names->∃c,cl.lookup y=some c)/\∀y c,bF.lookup y=some c->∃c',cl.lookup y=some c':=by
  intro names
  induction names with
  | nil=>intro bF _ hs;exact⟨bF,rfl,hs,λy hy=>absurd hy (by simp),λy c e=>⟨c,e⟩⟩
  | cons x r ih =>
   intro bF hf hs;obtain⟨n,k⟩:=x;rw [List.forIn_cons];by_cases hk:k=.free
   .subst hk;obtain⟨c0,e0⟩:=hf n bG;obtain⟨cl,e1,e2,e3,e4⟩:=ih ((n,c0)::bF) (λy hy=>hf y (cJ _ hy)) (λy c e=>by
     rw [ji] at e;by_cases z:y=n
     .rw [az z] at e;cases e;rw [z];exact e0
     rw [ay z] at e;exact hs y c e)
    refine⟨cl,?_,e2,λy hy=>?_,λy c e=>?_⟩
    .rw [<-e1];have:cellOf env n=pure c0:=by unfold cellOf;rw [e0]
     simp only [this];rfl
    .rcases aW.mp hy with z | z
     .cases z;exact e4 n c0 (by rw [ji,az rfl])
     exact e3 y z
    by_cases z:y=n
    .exact e4 y c0 (by rw [ji,az z])
    exact e4 y c (by rw [ji,ay z];exact e)
   obtain⟨cl,e1,e2,e3,e4⟩:=ih bF (λy hy=>hf y (cJ _ hy)) hs;refine⟨cl,?_,e2,λy hy=>?_,e4⟩
   .rw [<-e1];have:(k == NameKind.free)=false:=by simpa using hk
    simp only [this];rfl
   rcases aW.mp hy with z | z
   .cases z;exact absurd rfl hk
   exact e3 y z
 obtain⟨cl,e1,e2,e3,_⟩:=go scope.names [] h (λy c e=>by simp at e);refine⟨cl,?_,e2,e3⟩;unfold closureFor;exact Eq.trans (congrArg (λt:Sem (List (Str×Addr))=>t >>= λcs=>pure cs) e1) rfl
def vf {scope:Scope}{env:Env}{y:Str}(hk:env.scope.kind=.function)(hy:scope.names.lookup y=some .free)(he:env.kindOf y=some .cell):(relabel scope env).names.lookup y=some .cell:=by
 have go:∀l:List (Str×NameKind),l.lookup y=some .free->(l.map λ(x:Str×NameKind)=>if (x.2 == NameKind.free && env.scope.kind == .function && env.kindOf x.1 == some .cell) then (x.1,NameKind.cell) else (x.1,x.2)).lookup y=some .cell:=by
  intro l
  induction l with
  | nil=>intro z;cases z
  | cons x r ih =>
   obtain⟨n,k⟩:=x;intro hy;rw [br];by_cases z:y=n
   .subst z;simp [List.lookup] at hy;subst hy;simp [List.lookup,hk,he]
   have zb:(y == n)=false:=jt.mpr z;simp only [List.lookup,zb] at hy;have:=ih hy;dsimp only
   split <;> simp only [List.lookup,zb] <;> exact this
 exact go _ hy
theorem vv {α:Type}{y:Str}{v:α}:∀{l:List (Str×α)},l.lookup y=some v->(y,v)∈l
 | [],h=>by cases h
 | (n,u)::r,h=>by
  by_cases z:y=n
  .subst z;simp [List.lookup] at h;subst h;exact bG
  have zb:(y == n)=false:=jt.mpr z;simp only [List.lookup,zb] at h;exact cJ _ (vv h)
def mI {scope:Scope}{env:Env}{y:Str}{k:NameKind}(h:(relabel scope env).names.lookup y=some k)(hk:k=.cell\/k=.free)(hc:∀z∈scope.names,z.2≠.cell):(y,NameKind.free)∈scope.names:=by
 have m:=vv h;unfold relabel at m;obtain⟨⟨n,k'⟩,m1,m2⟩:=cM.mp m;dsimp only at m2
 split at m2
 .rename_i q
  cases m2;simp at q;obtain⟨⟨q,_⟩,_⟩:=q;subst q;exact m1
 cases m2;rcases hk with hk | hk
 .exact absurd hk (hc _ m1)
 rw [<-hk];exact m1
def rA (X:Cx)(scope:Scope)(cl:List (Str×Addr))(C:Addr)(s1:Shared)(H1:Hp) (N:List Str)(fp:List Addr):Cx :=
 { X with N:=N,s₀:=s1,H₀:=H1,env:=compEnvC scope cl C X.env,outer:=X.stack,stack:=X.stack,ex:=fp,fn:=λ_=>false,pn:=[],xe:=λ_ _=>False }
structure Ih (X:Cx)(scope:Scope)(js:List (Nat×Str)):Prop where
 at_:∀p∈js,X.N[p.1]?=some p.2/\X.env.scope.names.lookup p.2=some .cell/\scope.names.lookup p.2=some .free
 all:∀y,(y,NameKind.free)∈scope.names->X.env.scope.names.lookup y=some .cell
def eM (ts:List Str)(js:List (Nat×Str))(σ:St):St:=ts.map (λ_=>none)++js.map λp=>(σ[p.1]?).join
def tR {X:Cx}{ah:List (Addr×Obj)}{σ:St}{H:Hp}{s1 s4:Shared}{scope:Scope}{ts:List Str}{js:List (Nat×Str)}{cl:List (Str×Addr)}{fp:List Addr}{C:Addr}{m:Str->Option Value}
  (I:Inv X ah σ H s1)(hf:∀b∈fp,rT X ah H b)(EV:∀b∈fp,b < s1.heap.objs.size)(iU:scope.kind=.function)(iV:∀y∈scope.names,y.2≠.cell)(cp:Ih X scope js)(ny:Ig X.env scope cl)
  (hC:s1.heap.objs.size < C)(ho:s4.os=s1.os)(hg:s4.gens=s1.gens)(old:∀b o,s1.heap.get? b=some o->s4.heap.get? b=some o)(hn:s4.heap.Ns C m)
  (hD:s4.heap.get? s1.heap.objs.size=some { cls:=.type "list",data:=.seq ([]:List Value).toArray 0 }) :
  Inv (rA X scope cl C s1 H (ts++js.map (·.2)) fp) [] (eM ts js σ) (upd H s1.heap.objs.size (.lst [])) s4:=by
 have xk:X.env.scope.kind=.function:=I.ok.kind;have has:∀y,((relabel scope X.env).names.lookup y=some .cell\/(relabel scope X.env).names.lookup y=some .free)->∃c,cl.lookup y=some c:=λy hy=>ny.all y (by
  rcases hy with hy | hy
  .exact mI hy (.inl rfl) iV
  exact mI hy (.inr rfl) iV)
 have lt:∀y c,cl.lookup y=some c->c < s1.heap.objs.size:=λy c e=>by
  obtain⟨v,o,ho,_⟩:=I.cell y c (ny.sub y c e);exact bc ho
 refine⟨⟨I.ok.mod,iU,I.ok.glob,I.ok.blt,i5 hC,λy z c h1 h2=>I.ok.inj y z c (ny.sub _ _ h1) (ny.sub _ _ h2),has,λy c h _=>absurd (show false=true from h) dJ,I.ok.hd,I.ok.frames,.inl rfl,
   λb hb=>⟨bT (kZ (EV b hb) hC),λy c h=>(hf b hb).2.2.2.2.1 y c (ny.sub _ _ h)⟩,I.bs,dI I.ok.F8 I.sz,λb o e hb=>?_,λb hb=>?_,I.stack,I.Al⟩,
  ho,?_,Un.laid old (aL _) I.fresh,⟨m,hn,λi y v e1 e2 _=>?_⟩,λy c h=>?_,?_,λy c h=>?_,λp hp=>absurd (show p∈([]:List (Addr×Obj)) from hp) (by simp),I.bU.laid old (aL _) ?_,?_⟩
 .obtain⟨_,_,_,h4,_⟩:=hf b hb;rcases h4 with h4 | h4
  .exact I.ok.Ep b o e h4
  exact absurd (fP (bc (I.ok.bs b o e).1) h4) (jM _)
 .intro AY;obtain⟨_,h2,h3,_⟩:=hf b hb;rcases aW.mp (I.yo b AY) with z | z
  .exact h2 z
  exact h3 z
 .rw [hg];exact I.bare
 .have HM:(ts++js.map (·.2))[i]?=some y:=e1;have Cn:(ts.map (λ_=>(none:Option V))++js.map λp=>(σ[p.1]?).join)[i]?=some (some v):=e2;by_cases hi:i < ts.length
  .rw [sN (by simpa using hi)] at Cn;simp [hi] at Cn
  rw [sO ∅] at HM;rw [sO (by simpa using Nat.le_of_not_lt hi)] at Cn;rw [av] at Cn;rw [aZ] at HM Cn;cases hj:js[i - ts.length]? with
  | none=>rw [hj] at HM;cases HM
  | some p =>
   rw [hj] at HM Cn;simp only [qc,Option.some.injEq] at HM Cn;obtain⟨a1,a2,a3⟩:=cp.at_ p (cv hj);subst HM;have es:σ[p.1]?=some (some v):=by
    cases q:σ[p.1]? with
    | none=>rw [q] at Cn;cases Cn
    | some z=>rw [q] at Cn;exact congrArg some Cn
   obtain⟨m0,AX,lk⟩:=I.loc;obtain⟨u,ru,l⟩:=lk p.1 p.2 v a1 es (.inr (.inl a2));rcases l with l | ⟨_,c,ec,o,hc,hd⟩
   .have l1:X.env.scope.names.lookup p.2=some .local:=l.1;rw [a2] at l1;cases l1
   obtain⟨c',Ym⟩:=ny.all p.2 (vv a3);have e3:=ny.sub _ _ Ym;rw [ec] at e3;cases e3;exact⟨u,ru,.inr ⟨.inl (vf xk a3 a2),c,Ym,o,old _ _ hc,hd⟩⟩
 .obtain⟨v,o,h1,h2⟩:=I.cell y c (ny.sub y c h);exact⟨v,o,old _ _ h1,h2⟩
 .show upd H s1.heap.objs.size (.lst []) C=none;rw [ai (jo hC)];exact I.bU.fresh (i5 hC)
 .show upd H s1.heap.objs.size (.lst []) c=none;rw [ai (bT (lt y c h))];exact I.kQ y c (ny.sub y c h)
 .exact⟨by show 0<=sizeLine;decide,[],0,.nil,hD⟩
 show (eM ts js σ).length=(ts++js.map (·.2)).length;simp [eM]
def C7 (wi:TI) (ts:List Str)(js:List (Nat×Str))(g:TG)(tif:TT)(te:TE):TE:=λσ H Q=>wi σ H λJ H1=>∀D,H1 D=none->∃W:Nat->Nat->List V->St->Hp->Prop,(∃m,W 0 m [] (eM ts js σ) (upd H1 D (.lst []))) /\
 ∀i m ys σ' H,W i m ys σ' H->(J.stop i H/\Q (.ref D) H)\/(J.go i H/\∃m',m' < m/\∀x H',J.mi i H x H'->g x σ' H' λσ2 H2=>tif σ2 H2 λb H3 =>
  if b=true then te σ2 H3 λy H4=>H4 D=some (.lst ys)/\ys.length < sizeLine/\W (i+1) m' (ys++[y]) σ2 (upd H4 D (.lst (ys++[y]))) else W (i+1) m' ys σ2 H3)
def bL {X:Cx}{elt iter tg:Expr}{ifs:List Expr}{scope:Scope}{pos:Pos}{wi:TI}{g:TG}{tif:TT}{te:TE}(ts:List Str)(js:List (Nat×Str))(hc:X.calm=true)(hi:PI X tg iter wi)
  (cp:Ih X scope js)(iV:∀y∈scope.names,y.2≠.cell)(iU:scope.kind=.function)
  (zG:∀y∈scope.names,y.2=.local->scope.names.lookup y.1=some .local)
  (hg:∀cl C s1 H1 fp,PG (rA X scope cl C s1 H1 (ts++js.map (·.2)) fp) tg g)
  (TV:∀cl C s1 H1 fp,CC (rA X scope cl C s1 H1 (ts++js.map (·.2)) fp) ifs tif)(he:∀cl C s1 H1 fp,PE (rA X scope cl C s1 H1 (ts++js.map (·.2)) fp) elt te)
  (hs:∀x,foldedSetIterable iter X.env x=pure x:=by intro _;rfl) :
  PE X (.ListComp elt [⟨tg,iter,ifs,0⟩] scope pos) (C7 wi ts js g tif te):=by
 intro ah s σ H Q I h;rw [eval_ListComp];obtain⟨cl,ny⟩:=vK (env:=X.env) (scope:=scope) λy hy=>I.ok.has y (.inl (cp.all y hy));refine wpAny_comprehension_free (use:=none) rfl hs ny.eq iU zG (cS (hi ah s σ H _ I h) λv s1 h1=>cS h1 λP8 s2 h2=>?_);obtain⟨it,fp,tn,J,H2,e,I2,T,FN,f2,h2⟩:=h2;subst e;obtain⟨W,⟨m0,w0⟩,turn⟩:=h2 s2.heap.objs.size I2.fresh;have EV:∀b∈fp,b < s2.heap.objs.size:=λb hb=>by obtain⟨o,e,_⟩:=T.obj _ _ FN b hb;exact bc e
 refine qe (wpAny_newFunctionEnv iV (by intro y hy;simp at hy) (λh₁ zE vB=>?_) iU);dsimp only at zE vB ⊢;generalize K7:s2.heap.push { cls:=.type "list",dict:=none,data:=.seq ([]:List Value).toArray }=G2 at zE vB ⊢;have E2:G2.objs.size=s2.heap.objs.size+1:=by rw [<-K7,jN]
 have Up:s2.heap.objs.size≠G2.objs.size:=by rw [E2];exact bT (md _)
 have old:∀b o,s2.heap.get? b=some o->h₁.get? b=some o:=λb o e =>
  vB.extBut b o (by rw [E2];exact bT (uv (bc e))) (bZ _ (K7 ▸ bZ _ e))
 have Cc:h₁.get? s2.heap.objs.size=some { cls:=.type "list",data:=.seq ([]:List Value).toArray 0 }:=vB.extBut _ _ Up (bZ _ (K7 ▸ de _ rfl));generalize mY:rA X scope cl G2.objs.size s2 H2 (ts++js.map (·.2)) fp=X2;have I4:Inv X2 [] (eM ts js σ) (upd H2 s2.heap.objs.size (.lst [])) { s2 with heap:=h₁,toks:=s2.toks+([]:List (Str×Value)).length }:=by
  rw [<-mY];exact tR I2 f2 EV iU iV cp ny (by rw [E2];exact md _) rfl rfl old zE Cc
 have x1:X2.prog=X.prog:=by rw [<-mY];rfl
 have x2:X2.w=X.w:=by rw [<-mY];rfl
 have x3:X2.K=X.K:=by rw [<-mY];rfl
 have x4:X2.calm=true:=by rw [<-mY];exact hc
 have x5:X2.A=X.A:=by rw [<-mY];rfl
 have x6:X2.env=compEnvC scope cl G2.objs.size X.env:=by rw [<-mY];rfl
 have x7:X2.xe=λ_ _=>False:=by rw [<-mY];rfl
 have TZ:PG X2 tg g:=by rw [<-mY];exact hg _ _ _ _ _
 have KS:CC X2 ifs tif:=by rw [<-mY];exact TV _ _ _ _ _
 have HF:PE X2 elt te:=by rw [<-mY];exact he _ _ _ _ _
 have Nf:tn 0 h₁:=T.keep _ _ _ FN λb _ o e=>old b o e;have qy:∀{H':Hp}{jx:List (Addr×Obj)},(∀b∈fp,H' b=none)->(∀p∈jx,p.1∉fp)->∀b∈fp,rT X2 jx H' b:=λ{H' jx} hn hp b hb=>by
  have o4:=I4.ok;subst mY;exact⟨hn b hb,(o4.Mo b hb).1,o4.Ck b hb,.inl hb,(o4.Mo b hb).2,λp lX=>by
   have o8:p∈([]:List (Addr×Obj))++jx:=lX;rw [oP] at o8;intro z;exact hp p o8 (by rw [z];exact hb)⟩
 have fin:∀{s':Shared}{σ':St}{H':Hp},Inv X2 [] σ' H' s'->Q (.ref s2.heap.objs.size) H' ->
   compPost (model X.prog X.w) X.A X.xe none (EP X ah σ Q) (.ref s2.heap.objs.size) G2.objs.size (.ok .next) s':=λ{s' σ' H'} J' q=>by
  subst mY;obtain⟨m',IV,_⟩:=J'.loc;refine⟨m',IV,λh' LZ=>?_⟩;have u:Un (Ce X.stack) fp H2 H' s2.heap s'.heap:=J'.base;have nC:∀b o,s2.heap.get? b=some o->b≠G2.objs.size:=λb o e=>by rw [E2];exact bT (uv (bc e))
  have u':Un (Ce X.stack) fp H2 H' s2.heap h':=⟨λb o e n hb hx=>(LZ.2 b (nC b o e)).trans (u.keep b o e n hb hx),λb o e n hb hx=>by
    obtain⟨sl,z⟩:=u.slot b o e n hb hx;exact⟨sl,(LZ.2 b (nC b o e)).trans z⟩,u.free,λb o e hx=>by
    obtain⟨o',z⟩:=u.there b o e hx;exact⟨o',(LZ.2 b (nC b o e)).trans z⟩,u.nZ,u.lR,u.mn⟩
  have bU:kX X.prog X.w H' h':=λb ob e=>by
   refine(J'.bU b ob e).g7 (λc w' iz q'=>(LZ.2 c ?_).trans q') (λ_ q=>q) λ_ _ q=>q;intro z;have fr:H' G2.objs.size=none:=J'.free;rcases iz with z' | z'
   .rw [<-z'] at e;rw [z,fr] at e;cases e
   rw [z,fr] at z';cases z'
  have I5:Inv X ah σ H' { s' with heap:=h' }:=I2.Jf (s':={ s' with heap:=h' }) J'.os u' bU J'.bare λb hb=>by
   obtain⟨_,f1,_,f3,f4,f5⟩:=f2 b hb;exact⟨f3,f1,f4,f5⟩
  exact⟨.ref s2.heap.objs.size,H',I5,rfl,q⟩
 have loop:∀s₃:Shared,s₃={ s2 with heap:=h₁,toks:=s2.toks+([]:List (Str×Value)).length } ->
   codeAny (model X.prog X.w) X.A (.compLoop (.ListComp elt [⟨tg,iter,ifs,0⟩] scope pos) 0 (.ref it) (.ref s2.heap.objs.size) (compEnvC scope cl G2.objs.size X.env))
    (compPost (model X.prog X.w) X.A X.xe none (EP X ah σ Q) (.ref s2.heap.objs.size) G2.objs.size) s₃:=by
  rintro s₃ rfl;subst mY;refine o_ (λn s'=>∃i ys σ' H',Inv (rA X scope cl G2.objs.size s2 H2 (ts++js.map (·.2)) fp) [] σ' H' s'/\tn i s'.heap/\(∀b∈fp,H' b=none)/\W i n ys σ' H') ?_ m0
   ⟨0,[],_,_,I4,Nf,λb hb=>by rw [ai (bT (EV b hb))];exact(f2 b hb).1,w0⟩
  rintro n s' ⟨i,ys,σ0,H',J',vT,OT,w'⟩;rcases turn i n ys σ0 H' w' with ⟨stop,q⟩ | ⟨go,m',hm,step⟩
  .refine cW (T.done (rA X scope cl G2.objs.size s2 H2 (ts++js.map (·.2)) fp) rfl rfl rfl hc i [] s' _ H' (λ_ _=>False) J' (qy OT (by simp)) vT stop) (λr s4 ⟨hr,J4⟩=>?_) λ_ _ z=>z;subst hr;exact fin J4 q
  refine cW (T.item (rA X scope cl G2.objs.size s2 H2 (ts++js.map (·.2)) fp) rfl rfl rfl hc i [] s' _ H' (λ_ _=>False) J' (qy OT (by simp)) vT go) (λr s4 ⟨u,hr,h4⟩=>?_) λ_ _ z=>z;subst hr;refine cW h4 (λ_ s5 bh=>?_) λ_ _ z=>z;obtain⟨xv,H5,J5,r5,y5,yp,OS⟩:=bh;have VM:=J5.pinned (qy OS (by simp)) (T.obj _ _ yp);have back:∀{s7:Shared}{σ7:St}{H7:Hp},Inv (rA X scope cl G2.objs.size s2 H2 (ts++js.map (·.2)) fp) ([]++og fp s5.heap) σ7 H7 s7->Inv (rA X scope cl G2.objs.size s2 H2 (ts++js.map (·.2)) fp) [] σ7 H7 s7/\tn (i+1) s7.heap/\∀b∈fp,H7 b=none:=λ{s7 σ7 H7} J7=>by
   refine⟨J7.jP,T.keep _ _ _ yp λb hb o e=>(J7.pin (b,o) (fX _ (fX _ (gH hb e)))).1,λb hb=>?_⟩;obtain⟨o,e,d⟩:=T.obj _ _ yp b hb;exact(J7.pin (b,o) (fX _ (fX _ (gH hb e)))).2.1
  show wpAny _ _ (assign tg (rA X scope cl G2.objs.size s2 H2 (ts++js.map (·.2)) fp).env u) _ _ s5;refine cW (TZ _ s5 _ H5 xv u _ VM r5 (step xv H5 y5)) (λ_ s6 bh=>?_) λ_ _ z=>z;obtain⟨σ6,H6,J6,q6⟩:=bh;refine cW (KS _ s6 _ H6 _ J6 q6) (λb s7 bh=>?_) λ_ _ z=>z;obtain⟨H7,J7,q7⟩:=bh;cases b with
  | false =>
   rw [ay dJ] at q7 ⊢;obtain⟨J8,Rr,Uz⟩:=back J7;exact⟨m',hm,i+1,ys,σ6,H7,J8,Rr,Uz,q7⟩
  | true =>
   rw [az rfl] at q7 ⊢;refine cW (HF _ s7 _ H7 _ J7 q7) (λyv s8 bh=>?_) λ_ _ z=>z;obtain⟨y,H8,J8,r8,Mf,LW,w8⟩:=bh;refine cW (bX (X:=rA X scope cl G2.objs.size s2 H2 (ts++js.map (·.2)) fp) _ s8 _ H8 (.ref s2.heap.objs.size) [y] (.ref s2.heap.objs.size) [yv] (λv H'=>W (i+1) m' (ys++[y]) σ6 H') J8 rfl (.cons r8 .nil) ⟨s2.heap.objs.size,ys,y,rfl,rfl,Mf,LW,w8⟩)
    (λ_ s9 ⟨_,H9,J9,_,w9⟩=>?_) λ_ _ z=>z
   obtain⟨VN,JE,Ld⟩:=back J9;exact⟨m',hm,i+1,ys++[y],σ6,H9,VN,JE,Ld,w9⟩
 exact codeAny_compStart_list (loop _ rfl) (T.self _ _ _ _ _ Nf (loop _ rfl))
def Pt (K:aY)(a:Addr):It :=
 ⟨λi H=>∃xs x,aD K H a xs/\xs[i]?=some x,λi H x H'=>∃t y,x=.ref t/\H t=none/\H'=upd H t (.tup [.int (i:Int),y])/\∀xs,aD K H a xs->xs[i]?=some y,λi H=>∃xs,aD K H a xs/\xs.length<=i⟩
def Bm {P:Program}{w:World}{K:aY}{elts:List Expr}{k:Nat}{tpos:Pos}(a e it:Addr)(HE:e≠it) :
  Turn P w K (.Tuple elts k tpos) (Pt K a) [e,it] e (λi h=>(∃old,IsEnum h e it i old)/\h.IsListIter it a i) where
 mem:=by simp
 obj:=λi h st b hb=>by
  obtain⟨⟨old,he⟩,o,e1,c,d⟩:=st;rcases aW.mp hb with rfl | hb
  .exact⟨_,he,λv z=>by cases z⟩
  obtain rfl:b=it:=by simpa using hb
  exact⟨o,e1,λv z=>by rw [d] at z;cases z⟩
 keep:=λi h h' st k=>⟨⟨st.1.choose,k e (by simp) _ st.1.choose_spec⟩,st.2.at λo q=>k it (by simp) o q⟩
 item:=by
  intro X hP hw hK hc i ah s σ H E I hf st hg;subst hP hw hK;obtain⟨xs,x,hq,hx⟩:=hg;obtain⟨aJ,rv,p,hz⟩:=I.list hq;obtain⟨u,hu,ru⟩:=rv.get hx;obtain⟨⟨old,he⟩,hit⟩:=st;refine wpAny_pyNext_enum_item he hit p.isList (x:=u) (by simpa using hu) HE λh1 ho ET hT hsz hk=>?_;refine⟨_,rfl,yb ho λh2 OF sb=>?_⟩;have ne:s.heap.objs.size≠e:=jo (bc he);have kk:∀b o,b≠e->b≠it->s.heap.get? b=some o->h2.get? b=some o:=λb o n1 n2 q=>(sb.2 b n1).trans (hk b o n1 n2 q);have T2:h2.get? s.heap.objs.size=some { cls:=.type "tuple",data:=.seq #[.int i s.toks,u] }:=(sb.2 _ ne).trans hT;have fe:=hf e (by simp);have fi:=hf it (by simp);have fT:H s.heap.objs.size=none:=I.bU.fresh (aL _);have tr:∀b v,H b=some v->b≠e/\b≠it:=λb v q=>⟨λz=>(by rw [z,fe.1] at q;cases q),λz=>(by rw [z,fi.1] at q;cases q)⟩;have nc:∀b,b∉[e,it]->b≠e/\b≠it:=λb z=>⟨λq=>z (by simp [q]),λq=>z (by simp [q])⟩;have lt:∀b o,s.heap.get? b=some o->b≠s.heap.objs.size:=λb o q=>bT (bc q);have I2:Inv X ah σ (upd H s.heap.objs.size (.tup [.int (i:Int),x])) { s with heap:=h2,toks:=s.toks+1 }:=by
   refine I.call (g':=s.gens) (t':=s.toks+1) (d':=s.drawn) (ch:=[e,it]) ⟨λb o q _ _ c=>kk b o (nc b c).1 (nc b c).2 q,λb o q _ _ c=>⟨o.slots,kk b o (nc b c).1 (nc b c).2 q⟩,
    λb o q n _=>by rw [ai (lt b o q)];exact n,λb o q c=>⟨o,kk b o (nc b c).1 (nc b c).2 q⟩,λb ys q=>by rw [ai (aq q fT)];exact q,λb o v q=>by rw [ai (aq q fT)];exact q,
    λb ps q=>⟨#[],by rw [ai (aq q fT),q];simp⟩⟩ (λb v q=>?_) I.bare (λb hb=>?_)
   .by_cases hb:b=s.heap.objs.size
    .subst hb;rw [ab] at q;cases q;exact⟨by show 2<=sizeLine;decide,[.int i s.toks,u],.cons ⟨_,rfl⟩ (.cons ru .nil),_,T2,rfl,_,rfl⟩
    rw [ai hb] at q;refine(I.bU b v q).g7 (λc o iz z=>?_) (λc q'=>by rw [ai (aq q' fT)];exact q') λc ys q'=>by rw [ai (aq q' fT)];exact q'
    rcases iz with rfl | iz
    .exact kk c o (tr c _ q).1 (tr c _ q).2 z
    exact kk c o (tr c _ iz).1 (tr c _ iz).2 z
   rcases aW.mp hb with rfl | hb
   .exact⟨fe.2.2.2.1,fe.2.1,fe.2.2.2.2.1,fe.2.2.2.2.2⟩
   obtain rfl:b=it:=by simpa using hb
   exact⟨fi.2.2.2.1,fi.2.1,fi.2.2.2.2.1,fi.2.2.2.2.2⟩
  refine⟨.ref s.heap.objs.size,_,I2,rfl,⟨_,x,rfl,fT,rfl,λys hy=>by rw [I.iS hy hq];exact hx⟩,⟨⟨_,OF⟩,ET.at λo q=>(sb.2 it HE.symm).trans q⟩,λb hb=>?_⟩;have AY:H b=none/\∃o,s.heap.get? b=some o:=by
   rcases aW.mp hb with rfl | hb
   .exact⟨fe.1,_,he⟩
   obtain rfl:b=it:=by simpa using hb
   obtain⟨o,q,_⟩:=hit;exact⟨fi.1,o,q⟩
  obtain⟨n,o,q⟩:=AY;rw [ai (lt b o q)];exact n
 done:=by
  intro X hP hw hK hc i ah s σ H E I hf st hg;subst hP hw hK;obtain⟨xs,hq,hx⟩:=hg;obtain⟨aJ,rv,p,hz⟩:=I.list hq;obtain⟨⟨old,he⟩,hit⟩:=st;obtain⟨f0,f1,f2,f3,f4,f5⟩:=hf it (by simp);have hl:=rv.length;exact wpAny_pyNext_enum_end (I.ok.hd hc) he hit p.isList (by simp;omega) λh' eb=>⟨rfl,I.turned (t':=s.toks) (λb o hb e=>eb b o hb e) f0 f1 f3 f4 f5⟩
 self:=λ_ _ _ _ _ st h=>nO st.1.choose_spec h
def oK:bootBuiltins "enumerate"=some (.type "enumerate"):=by decide +kernel
def N2 (K:aY)(ta:TA):TI:=λσ H R=>ta σ H λvs H1=>QQ vs (aD K H1) λa=>R (Pt K a) H1
def mK {X:Cx}{elts:List Expr}{k:Nat}{tpos:Pos}{l:Expr}{ta:TA}{p pos:Pos}(hg:Gl X "enumerate")(hm:X.mg "enumerate"=none)(ha:PA X [l] ta)(hs:starEach [l] X.env=[(false,eval l X.env)]:=by rfl) :
  PI X (.Tuple elts k tpos) (.Call (.Name "enumerate" p) [l] [] pos) (N2 X.K ta):=by
 intro ah s σ H R I h;refine Call_ (ib I hg hm oK (v8 (cS (ha pos ah s σ H _ I h) λus s1 bh=>?_) hs rfl));obtain⟨vs,H1,I1,r1,q1⟩:=bh;obtain⟨a,xs,e,hq,q⟩:=q1;subst e;obtain⟨u,rfl,rx⟩:=r1.one;cases rx;obtain⟨aJ,rv,pl,hz⟩:=I1.list hq;refine call_enumerate_list pl.isList λh1 he hit hsz hk=>nO he ?_;refine⟨s1.heap.objs.size+1,[s1.heap.objs.size+1,s1.heap.objs.size],_,_,H1,rfl,I1.kept (t':=s1.toks) λb o e=>hk b o e,Bm a _ _ (jo (md _)),⟨⟨_,he⟩,hit⟩,λb hb=>?_,q⟩;rcases aW.mp hb with rfl | hb
 .exact I1.ky (jJ _) (I1.bU.fresh (jJ _))
 obtain rfl:b=s1.heap.objs.size:=by simpa using hb
 exact I1.ky (aL _) (I1.bU.fresh (aL _))
def cT (kvs bF:List (aN×V)):List (aN×V):=kvs.foldl (λa p=>bP a p.1 p.2) bF
theorem rh:∀{kvs:List (aN×V)}{vs:List (aN×Value)}{bF:List (aN×V)}{Fm:List (aN×Value)},KV kvs vs->KV bF Fm->KV (cT kvs bF) (vs.foldl (λa p=>stored a p.1 p.2) Fm)
 | _,_,_,_,.nil,h=>h
 | _,_,_,_,.cons (a:=p) (b:=q) r t,h=>by
  obtain⟨e,rv⟩:=r;show KV (cT _ (bP _ p.1 p.2)) (List.foldl _ (stored _ q.1 q.2) _);rw [<-e];exact rh t (h.put p.1 rv)
theorem rj:∀(kvs bF:List (aN×V)),(cT kvs bF).length<=bF.length+kvs.length
 | [],bF=>by simp [cT]
 | p::r,bF=>by
  have:=rj r (bP bF p.1 p.2);have:=eW bF p.1 p.2;show (cT r (bP bF p.1 p.2)).length<=_;rw [bV];omega
section
variable {X:Cx}{ah:List (Addr×Obj)}{σ:St}{H:Hp}{s:Shared}
theorem pairs_at (I:Inv X ah σ H s):∀{ts:List Addr}{kvs:List (aN×V)}{aJ:List Value},Paired (λt kv=>ba X.K H t [kV kv.1,kv.2]) ts kvs->aT (ts.map V.ref) aJ ->
  ∃vs:List (aN×Value),KV kvs vs/\Paired (λu kv=>lU (a7 X.prog X.w) s.heap u kv) aJ vs
 | [],_,_,.nil,r=>by
  rw [jm] at r;cases r;exact⟨[],.nil,.nil⟩
 | t::ts,kv::kvs,_,.cons h p,r=>by
  rw [br] at r;cases r with
  | cons r1 r2 =>
   obtain⟨vs,e1,e2⟩:=pairs_at I p r2;obtain⟨aJ,rv,⟨o,h1,h2,n,h3⟩,_⟩:=I.tuple h;obtain⟨u1,u2,rfl,q1,q2⟩:=vals2 rv;exact⟨(kv.1,u2)::vs,.cons ⟨rfl,q2⟩ e1,.cons ⟨t,u1,n,o,r1,kP q1,h1,h2,h3⟩ e2⟩
theorem Paired.at_ {α β:Type}{F:α->β->Prop}:∀{xs:List α}{ys:List β},Paired F xs ys->∀(m:Nat)(y:β),ys[m]?=some y->∃x,xs[m]?=some x/\F x y
 | _,_,.nil,m,y,e=>by cases m <;> cases e
 | _,_,.cons h t,0,y,e=>by cases e;exact⟨_,rfl,h⟩
 | _,_,.cons h t,m+1,y,e=>Paired.at_ t m y e
def dY (hc:X.calm=true):eK X (.type "dict") (λxs H Q=>∃a ts kvs,xs=[.ref a]/\H a=some (.lst (ts.map V.ref))/\Paired (λt kv=>ba X.K H t [kV kv.1,kv.2]) ts kvs/\∀d,H d=none->Q (.ref d) (upd H d (.dK (cT kvs [])))):=by
 intro ah s σ H xs us Q I r h;obtain⟨a,ts,kvs,rfl,e,p,q⟩:=h;obtain⟨u,rfl,rx⟩:=vals1 r;cases (show u=Value.ref a from rx);obtain⟨z,aJ,n,rv,ho⟩:=(show cC X.prog X.w H s.heap a (.lst _) from I.bU a _ e);obtain⟨vs,r1,r2⟩:=pairs_at I p rv;have l1:=bK r2;have l2:=r1.length;have l3:=bK p;rw [av] at z;refine rK (a7 X.prog X.w) (I.ok.hd hc) ho (by simpa using l1) (λm kv em=>?_) ∅ λh' t' hd kk=>?_
 .obtain⟨u,e1,e2⟩:=Paired.at_ r2 m kv em;exact⟨u,by simpa using e1,e2⟩
 have new:cC X.prog X.w (upd H s.heap.objs.size (.dK (cT kvs []))) h' s.heap.objs.size (.dK (cT kvs [])):=by
  refine rq ?_ ?_ (rh r1 .nil) hd
  .have:=rj kvs [];simp at this;omega
  have:=I.big;exact jt.mpr (jo this)
 exact⟨.ref s.heap.objs.size,_,I.laid (t':=t') kk (aL _) new,rfl,q _ (I.bU.fresh (aL _))⟩
theorem tH {α β:Type}{F:α->β->Prop}:∀{xs:List α}{ys:List β},xs.length=ys.length->(∀(j:Nat) x y,xs[j]?=some x->ys[j]?=some y->F x y)->Paired F xs ys
 | [],[],_,_=>.nil
 | [],_::_,e,_=>by cases e
 | _::_,[],e,_=>by cases e
 | x::xs,y::ys,e,h=>.cons (h 0 x y rfl rfl) (tH (Nat.succ.inj e) λj a b e1 e2=>h (j+1) a b e1 e2)
def IM {P:Program}{w:World}{k:aN}{u:Value}(h:(a7 P w).is k u=true):RelV (kV k) u:=by
 rcases c_ (show qS k u=true from h) with ⟨i,t,rfl,rfl⟩ | ⟨x,t,rfl,rfl⟩
 .exact⟨t,rfl⟩
 exact⟨t,rfl⟩
def lS (hc:X.calm=true):eK X (.type "list") (λxs H Q=>∃a kvs,xs=[.ref a]/\H a=some (.dK kvs)/\∀D,H D=none->Q (.ref D) (upd H D (.lst (kvs.map λp=>kV p.1)))):=by
 intro ah s σ H xs us Q I r h;obtain⟨a,kvs,rfl,e,q⟩:=h;obtain⟨u,rfl,rx⟩:=vals1 r;cases (show u=Value.ref a from rx);obtain⟨z,hs,vs,rel,dd⟩:=xn I.bU e;obtain⟨o,es,ep,d1,d2,d3,d4⟩:=dd;have l1:=rel.length;refine PySem.W.kdl_call (PySem.W.kdl_dict (knd:=a7 X.prog X.w) (kvs:=vs) (ep:=ep) hs) (I.ok.hd hc) ⟨o,es,d1,d2,d3,d4⟩ ∅ λh' tk bF c kk hD Cc=>?_;have keys:=rel.keys;have vals:aT (kvs.map λp=>kV p.1) bF.toList:=by
  refine tH (by have h1:=Cc.1;simp only [av,uz];omega) λj x y e1 e2=>?_;rw [Array.getElem?_toList] at e2;obtain⟨k,v,e3,e4⟩:=Cc.2 j y e2;rw [aZ] at e1;obtain⟨p,e5,rfl⟩:=b_.mp e1;have e6:(kvs.map (·.1))[j]?=some p.1:=by rw [aZ,e5];rfl
  rw [keys,aZ,e3] at e6;cases e6;exact IM e4
 have new:cC X.prog X.w (upd H s.heap.objs.size (.lst (kvs.map λp=>kV p.1))) h' s.heap.objs.size (.lst (kvs.map λp=>kV p.1)):=⟨by rw [av];exact z,bF.toList,c,vals,by simpa using hD⟩;exact⟨.ref s.heap.objs.size,_,I.laid (t':=tk) kk (aL _) new,rfl,q _ (I.bU.fresh (aL _))⟩
end
def rP (v:V):Prop:=ie v=true\/∃r,v=.ref r
def Fc {x:V}(h:ie x=true):xj x x=true:=by
 cases x with
 | d5=>rfl
 | bl b=>exact pX b
 | int i=>exact pX i
 | str z=>exact pX z
 | _=>cases h
def rm {A:Around}{s:Shared}{x:V}{u v:Value}(h:rP x)(ru:RelV x u)(rv:RelV x v):SeqAt.EqAt A s u v true:=by
 rcases h with h | ⟨r,rfl⟩
 .have q:=zS (A:=A) (s:=s) ru rv h h;rw [Fc h] at q;exact q
 cases (show u=Value.ref r from ru);cases (show v=Value.ref r from rv);exact .same _
theorem uR:∀{ts:List Str}{aJ:List Value},aT (ts.map V.str) aJ->StrsAre aJ ts
 | [],_,r=>by rw [jm] at r;cases r;exact .nil
 | z::ts,_,r=>by
  rw [br] at r;cases r with
  | cons h t =>
   obtain⟨tk,e⟩:=(show ∃tk,_=Value.str z tk from h);subst e;exact .cons z tk (uR t)
def rJoin (K:aY):V->List V->Hp->VK->Prop:=λx vs H Q=>∃z a ts,x=.str z/\vs=[.ref a]/\aD K H a (ts.map V.str)/\(ts.map (·.length)).sum+ts.length * z.length<=16777216/\Q (.str (Txt.join z ts)) H
def mR {X:Cx}:FC X "str.join" (rJoin X.K):=by
 intro ah s σ H x vs v us Q I rx rv h;obtain⟨z,a,ts,rfl,rfl,hq,hz,q⟩:=h;obtain⟨t,rfl⟩:=rx;obtain⟨u,rfl,ru⟩:=rv.one;cases (show u=Value.ref a from ru);obtain⟨aJ,r,pl,_⟩:=I.list hq;exact join_list pl.isList (by simpa using uR r) hz λt' k=>⟨.str _,H,I.tok _,⟨_,rfl⟩,q⟩
section
variable {K:aY}{a D:Addr}{xs:List V}{ts:List Str}{js:List (Nat×Str)}{g:TG}{tif:TT}{te:TE}{R:Hp->Prop}{σ:St}{H:Hp}
def bq (Pv:Nat->List V->St->Hp->Prop)(h0:Pv 0 [] (eM ts js σ) (upd H D (.lst [])))(hl:∀i ys σ H,i<=xs.length->Pv i ys σ H->aD K H a xs)
  (hs:∀i x ys σ H,xs[i]?=some x->Pv i ys σ H->g x σ H λσ2 H2=>tif σ2 H2 λb H3=>if b=true then te σ2 H3 λy H4=>H4 D=some (.lst ys)/\ys.length < sizeLine/\Pv (i+1) (ys++[y]) σ2 (upd H4 D (.lst (ys++[y]))) else Pv (i+1) ys σ2 H3)
  (hd:∀ys σ H,Pv xs.length ys σ H->R H) :
  ∃W:Nat->Nat->List V->St->Hp->Prop,(∃m,W 0 m [] (eM ts js σ) (upd H D (.lst []))) /\
 ∀i m ys σ' H,W i m ys σ' H->((kW K a).stop i H/\R H)\/((kW K a).go i H/\∃m',m' < m/\∀x H',(kW K a).mi i H x H'->g x σ' H' λσ2 H2=>tif σ2 H2 λb H3 =>
  if b=true then te σ2 H3 λy H4=>H4 D=some (.lst ys)/\ys.length < sizeLine/\W (i+1) m' (ys++[y]) σ2 (upd H4 D (.lst (ys++[y]))) else W (i+1) m' ys σ2 H3):=by
 refine⟨λi m ys σ H=>m=xs.length - i/\i<=xs.length/\Pv i ys σ H,⟨xs.length,by simp,dD _,h0⟩,?_⟩;rintro i m ys σ' H ⟨rfl,hi,p⟩;have q:=hl i ys σ' H hi p;by_cases gT:i < xs.length
 .refine .inr ⟨⟨xs,xs[i],q,by simp [gT]⟩,xs.length - (i+1),∅,λx H' y=>?_⟩;obtain⟨e,y⟩:=y;subst e;have z:=hs i x ys σ' _ (y xs q) p;have h1:(i+1<=xs.length)=True:=eq_true gT;simp only [h1,true_and];exact z
 have e:i=xs.length:=by omega
 subst e;exact .inl ⟨⟨xs,q,aL _⟩,hd ys σ' H p⟩
def xB {lo:Int}{n:Nat}(Pv:Nat->List V->St->Hp->Prop)(h0:Pv 0 [] (eM ts js σ) (upd H D (.lst [])))
  (hs:∀i ys σ H,i < n->Pv i ys σ H->g (.int (lo+i)) σ H λσ2 H2=>tif σ2 H2 λb H3=>if b=true then te σ2 H3 λy H4=>H4 D=some (.lst ys)/\ys.length < sizeLine/\Pv (i+1) (ys++[y]) σ2 (upd H4 D (.lst (ys++[y]))) else Pv (i+1) ys σ2 H3)
  (hd:∀ys σ H,Pv n ys σ H->R H) :
  ∃W:Nat->Nat->List V->St->Hp->Prop,(∃m,W 0 m [] (eM ts js σ) (upd H D (.lst []))) /\
 ∀i m ys σ' H,W i m ys σ' H->((Ie lo n).stop i H/\R H)\/((Ie lo n).go i H/\∃m',m' < m/\∀x H',(Ie lo n).mi i H x H'->g x σ' H' λσ2 H2=>tif σ2 H2 λb H3 =>
  if b=true then te σ2 H3 λy H4=>H4 D=some (.lst ys)/\ys.length < sizeLine/\W (i+1) m' (ys++[y]) σ2 (upd H4 D (.lst (ys++[y]))) else W (i+1) m' ys σ2 H3):=by
 refine⟨λi m ys σ H=>m=n - i/\i<=n/\Pv i ys σ H,⟨n,by simp,dD _,h0⟩,?_⟩;rintro i m ys σ' H ⟨rfl,hi,p⟩;by_cases gT:i < n
 .refine .inr ⟨gT,n - (i+1),∅,λx H' y=>?_⟩;obtain⟨rfl,rfl⟩:=y;have z:=hs i ys σ' _ gT p;have h1:(i+1<=n)=True:=eq_true gT;simp only [h1,true_and];exact z
 have e:i=n:=by omega
 subst e;exact .inl ⟨aL _,hd ys σ' H p⟩
end
def vL {X:Cx}:eK X (.builtin "isinstance") (λxs H Q=>∃a ys n b,xs=[.ref a,.ty n]/\aD X.K H a ys/\PySem.W.kitOne X.K (.type "list") (.type n)=some b/\Q (.bl b) H):=by
 intro ah s σ H xs us Q I r h;obtain⟨a,ys,n,b,rfl,hq,e,q⟩:=h;obtain⟨u,w',rfl,rx,rn⟩:=vals2 r;cases (show u=Value.ref a from rx);cases (show w'=Value.type n from rn);obtain⟨aJ,_,pl,_⟩:=I.list hq;obtain⟨o,h1,h2,_⟩:=pl.isList;exact qd PySem.W.kitx_list I.sC ⟨o,h1,h2⟩ e (λz=>nomatch z) λtk=>⟨.bl b,H,I.tok _,rfl,q⟩
def mS {K:aY}{t:Value}:PySem.W.kitOne K t t=some true:=by unfold PySem.W.kitOne;rw [az (pX t)]
def M_ (t:TS):TS:=λD σ H=>∃R:St->Hp->Prop,t { D with nx:=R } σ H/\∀σ' H',R σ' H'->D.nx σ' H'
def cO {X:Cx}{st:Stmt}{t:TS}(h:PS X st t):PS X st (M_ t):=by
 intro ah s σ H D I ⟨R,q,m⟩;refine cS (h ah s σ H _ I q) λf s1 z=>?_;cases f with
 | next=>obtain⟨σ',H',I',r⟩:=z;exact⟨σ',H',I',m _ _ r⟩
 | ret v=>exact z
 | brk=>exact z
 | cont=>exact z
def aH (P:Program)(w:World)(K:aY)(mg:Str->Option Value)(base:Heap) (k:Nat)(x:Str) (ps:List Str)(sp:Sp):Prop :=
 ∃f fd,bS P w K mg base fu k f fd ps sp/\Binds K fd ps []/\PySem.W.keepIn K (.ref f)=true/\mg x=some (.ref f)
theorem aH.mono {P:Program}{w:World}{K:aY}{mg:Str->Option Value}{base:Heap}{j k:Nat}{x:Str}{ps:List Str}{sp:Sp}(c:aH P w K mg base j x ps sp)(h:j<=k):aH P w K mg base k x ps sp :=
 let ⟨f,fd,a,b⟩:=c;⟨f,fd,a.mono h,b⟩
def bI {X:Cx}{k:Nat}{x:Str}{ps:List Str}{sp:Sp}{e:Expr}{es:List Expr}{t:TA}{p pos:Pos}(c:aH X.prog X.w X.K X.mg X.base k x ps sp)(hr:eP k X.A)(hg:Gl X x)(ha:PA X (e::es) t)
  (B_:(x == ("__debug__":Str))=false:=by decide)(he:starEach (e::es) X.env=(false,eval e X.env)::starEach es X.env:=by rfl)(pQ:(backTo pos (starEach es X.env)).any (·.1)=false:=by rfl) :
  PE X (.Call (.Name x p) (e::es) [] pos) (Im sp [] E0 t):=by
 obtain⟨f,fd,G,b,kp,m⟩:=c;exact Ha G hr hg m kp b .nil oZ ha B_ he pQ
def fits {n:Nat}(h:n<=1000000):n<=sizeLine:=dI h nofun
def bo {n:Nat}(h:n<=1000000):n < sizeLine:=oR h nofun
def ae {H:Hp}{p:Addr}(h:H p=none)(o:HO):aC H (upd H p o):=λb u q=>by rw [ai (aq q h)];exact q
def aC.tup {K:aY}{H H':Hp}{a:Addr}{xs:List V}(e:aC H H')(h:ba K H a xs):ba K H' a xs:=by
 rcases h with (h | ⟨o,h⟩) | h
 .exact .inl (.inl (e _ _ h))
 .exact .inl (.inr ⟨o,e _ _ h⟩)
 exact .inr h
def oJ {X:Cx}(hc:X.calm=true):eK X (.builtin "all") (λxs H Q=>∃(a:Addr)(bs:List Bool),xs=[.ref a]/\aD X.K H a (bs.map V.bl)/\Q (.bl (bs.all id)) H):=by
 intro ah s σ H xs us Q I r h;obtain⟨a,bs,rfl,hq,q⟩:=h;obtain⟨u,rfl,rx⟩:=vals1 r;cases (show u=Value.ref a from rx);obtain⟨aJ,rv,pl,hz⟩:=I.list hq;obtain⟨o,h1,h2,m,h3⟩:=id pl.isList;have la:a < s.heap.objs.size:=bc h1;have ln:=rv.length;rw [av] at ln;have SK:∀(i:Nat) v,aJ.toArray[i]?=some v->v=.bool (bs.getD i true):=λi v e=>by
  have e':aJ[i]?=some v:=by simpa using e
  obtain⟨x,e2,e3⟩:=Paired.at_ rv i v e';rw [aZ] at e2;obtain⟨b,e4,rfl⟩:=b_.mp e2;rw [oX,e4];exact e3
 refine call_all_walk (kI pl.isList ?_);refine⟨s.heap.objs.size,_,_,_,_,_,λi=>bs.getD i true,rfl,Walks.list (A:=X.A.in1) (show X.A.in1.handled=none from I.ok.hd hc) s.heap.objs.size a (bT la) aJ.toArray,⟨⟨_,de _ rfl,rfl,rfl⟩,⟨o,bZ _ h1,h2,m,h3⟩⟩,?_,λh' tk kk=>?_⟩
 .intro i v s1 Q1 E1 hP Uj;rw [SK i v hP];exact oQ Uj
 have e:((List.range aJ.toArray.size).all λi=>bs.getD i true)=bs.all id:=by
  rw [bO,<-ln,il,gL,gL];constructor
  .intro h b hb;obtain⟨i,hi,e⟩:=oS.mp hb;have:=h i (lZ.mpr hi);rw [oX,dw hi,e] at this;exact this
  intro h i hi;have OD:=lZ.mp hi;rw [oX,dw OD];exact h _ (pW OD)
 rw [e];exact⟨.bl _,H,I.kept (t':=tk) λb o' e'=>kk b o' (by simp;exact bT (bc e')) (bZ _ e'),rfl,q⟩
section
variable {prog:Program}{w:World}{A:Around}{E:Value->Shared->Prop}{s:Shared}
def zh {it l:Addr}{i:Nat}{items:Array Value}{x:Value}{Q:Value->Shared->Prop}(hit:s.heap.IsTupleIter it l i)(hl:s.heap.IsTuple l items)(hx:items[i]?=some x)
  (hQ:∀h',h'.IsTupleIter it l (i+1)->Heap.SameBut it s.heap h'->Q x { s with heap:=h' }):wpAny (model prog w) A (Builtin.SmallTypes.nextOf (.ref it)) Q E s:=by
 obtain⟨o,ho,hc,hd⟩:=id hit;obtain⟨ol,Tx,_,nl,Qj⟩:=hl;unfold Builtin.SmallTypes.nextOf;refine aA (uF (name:=Str.ofString "__next__") hit.typeIs uJ (wpAny_call_entry uJ hit.typeIs F.entry_tuple_iterator_next ?_ (F.args_tuple_iterator_next_1 _)));show wpAny _ _ (field (.ref it) 0 >>= λv=>_) _ _ s;refine aA (iC ho hd (x:=.ref l) (by rfl) ?_);show wpAny _ _ (if (Value.ref l == .none)=true then _ else _) _ _ s;rw [ay (by exact dJ)];show wpAny _ _ (field (.ref it) 1 >>= λv=>_) _ _ s;refine aA (iC ho hd (x:=.int i 0) (by rfl) ?_);show wpAny _ _ (seqItems? (.ref l) >>= λv=>_) _ _ s;refine aA (p6 Tx Qj (by
  simp only [kK,hx];refine aA (wpAny_setField ho hd (by simp) (bj ⟨x,rfl,bj (hQ _ ⟨_,Heap.get?_update_self _ ho (Obj.isFreed_of_fields (Obj.data_mapFields hd _)),(Obj.cls_mapFields ..).trans hc,?_⟩ (Heap.SameBut.update ..))⟩));rw [Obj.data_mapFields hd];simp [rawInt]))
def zT {e it l:Addr}{i:Nat}{items:Array Value}{x old:Value}{Q:Option Value->Shared->Prop}(he:IsEnum s.heap e it i old)(hit:s.heap.IsTupleIter it l i)(hl:s.heap.IsTuple l items)(hx:items[i]?=some x)(pR:e≠it)
  (hQ:∀h',IsEnumOut h' e it ((i:Int)+1) x s.heap.objs.size->h'.IsTupleIter it l (i+1)->h'.get? s.heap.objs.size=some { cls:=.type "tuple",data:=.seq #[.int i s.toks,x] } ->
   (∀b o,b≠e->b≠it->s.heap.get? b=some o->h'.get? b=some o)->Q (some (.ref s.heap.objs.size)) { s with heap:=h',toks:=s.toks+1 }) :
  wpAny (model prog w) A (pyNext (.ref e)) Q E s:=by
 have hT:s.TypeIs (.ref e) "enumerate" := ⟨_,he,rfl⟩;unfold pyNext;refine aA (wpAny_attempt (uF (name:=Str.ofString "__next__") hT uA (wpAny_call_entry uA hT F.entry_enumerate_next ?_ (F.args_enumerate_next_1 _))));obtain⟨hp,g,d,tk,os⟩:=s;show wpAny _ _ (field (.ref e) 2 >>= λv=>_) _ _ _;refine aA (iC he rfl (x:=.ref it) (by rfl) (aA (zh hit hl hx λh₁ TR N_=>?_)));replace N_:Heap.SameBut it hp h₁:=N_;have T8:IsEnum h₁ e it i old:=(N_.2 e pR).trans he;show wpAny _ _ (field (.ref e) 3 >>= λv=>_) _ _ ⟨h₁,g,d,tk,os⟩;refine aA (iC T8 rfl (x:=rawInt i) (by rfl) ?_);show wpAny _ _ (field (.ref e) 4 >>= λv=>_) _ _ ⟨h₁,g,d,tk,os⟩;refine aA (iC T8 rfl (x:=.none) (by rfl) ?_);show wpAny _ _ (mkInt i >>= λv=>_) _ _ ⟨h₁,g,d,tk,os⟩;refine aA (wpAny_mkInt ?_);show wpAny _ _ (setField (.ref e) 3 (rawInt ((i:Int)+1)) >>= λv=>_) _ _ ⟨h₁,g,d,tk+1,os⟩;refine aA (qi T8 (by simp) λh₂ f₂ hs₂=>?_);have he₂:IsEnum h₂ e it ((i:Int)+1) old:=f₂;have k₂:Heap.SameBut e h₁ h₂:=hs₂;show wpAny _ _ (setField (.ref e) 4 .none >>= λv=>_) _ _ ⟨h₂,g,d,tk+1,os⟩;refine aA (qi he₂ (by simp) λh₃ f₃ hs₃=>?_);have he₃:IsEnum h₃ e it ((i:Int)+1) old:=f₃;have k₃:Heap.SameBut e h₂ h₃:=hs₃;show wpAny _ _ (newTuple [.int i tk,x] >>= λv=>_) _ _ ⟨h₃,g,d,tk+1,os⟩;refine aA (wpAny_newTuple ?_);have Qi:IsEnum (h₃.push { cls:=.type "tuple",data:=.seq #[.int i tk,x] }) e it ((i:Int)+1) old:=bZ _ he₃;have hsz:h₃.objs.size=hp.objs.size:=by rw [k₃.1,k₂.1,N_.1]
 have Xp:e < hp.objs.size:=bc he;have WV:(h₃.push { cls:=.type "tuple",data:=.seq #[.int i tk,x] }).get? hp.objs.size=some { cls:=.type "tuple",data:=.seq #[.int i tk,x] }:=by rw [<-hsz];exact de _ rfl
 have Xd:∀b o,b≠e->b≠it->hp.get? b=some o->(h₃.push { cls:=.type "tuple",data:=.seq #[.int i tk,x] }).get? b=some o:=λb o n1 n2 hb=>bZ _ (k₃.extBut b o n1 (k₂.extBut b o n1 (N_.extBut b o n2 hb)));have OC:(h₃.push { cls:=.type "tuple",data:=.seq #[.int i tk,x] }).IsTupleIter it l (i+1):=TR.at λo q=>bZ _ (k₃.extBut it o (fY pR) (k₂.extBut it o (fY pR) q));generalize h₃.push { cls:=.type "tuple",data:=.seq #[.int i tk,x] }=h₄ at Qi WV Xd OC ⊢;rw [hsz];show wpAny _ _ (Builtin.SmallTypes.ownedTupleIsFree (.ref e) >>= λv=>_) _ _ ⟨h₄,g,d,tk+1,os⟩;refine aA (by
  unfold Builtin.SmallTypes.ownedTupleIsFree;refine aA (iC Qi rfl (x:=.none) (by rfl) (bj (by
   simp only [if_true];refine aA (wpAny_rule (aA (iC Qi rfl (x:=old) (by rfl) (aA (qi Qi (by simp) λh₅ f₅ hs₅=>?_)))));have he₅:IsEnum h₅ e it ((i:Int)+1) x:=f₅;have k₅:Heap.SameBut e h₄ h₅:=hs₅;show wpAny _ _ (Builtin.SmallTypes.ownedTupleHandOut (.ref e) (.ref hp.objs.size) >>= λv=>_) _ _ ⟨h₅,g,d,tk+1,os⟩;refine aA (by
    unfold Builtin.SmallTypes.ownedTupleHandOut;refine aA (qi he₅ (by simp) λh₆ f₆ hs₆=>?_);have he₆:IsEnumOut h₆ e it ((i:Int)+1) x hp.objs.size:=f₆;have k₆:Heap.SameBut e h₅ h₆:=hs₆;refine qi he₆ (by simp) λh₇ f₇ hs₇=>?_;have he₇:IsEnumOut h₇ e it ((i:Int)+1) x hp.objs.size:=f₇;have k₇:Heap.SameBut e h₆ h₇:=hs₇;have up:∀b o,b≠e->h₄.get? b=some o->h₇.get? b=some o:=λb o n q=>k₇.extBut b o n (k₆.extBut b o n (k₅.extBut b o n q));exact aA (wpAny_letGo (bj ⟨_,rfl,bj (hQ h₇ he₇ (OC.at λo q=>up it o (fY pR) q) (up _ _ (jo Xp) WV) λb o n1 n2 q=>up b o n1 (Xd b o n1 n2 q))⟩)))))))
def qO {it l:Addr}{i:Nat}{items:Array Value}{Q:Value->Shared->Prop}(hh:A.handled=none)(hit:s.heap.IsTupleIter it l i)(hl:s.heap.IsTuple l items)(hx:items[i]?=none)
  (hE:∀h' e,Heap.ExtBut it s.heap h'->(∃o,h'.get? e=some o/\o.cls=.type "StopIteration")->E (.ref e) { s with heap:=h' }):wpAny (model prog w) A (Builtin.SmallTypes.nextOf (.ref it)) Q E s:=by
 obtain⟨o,ho,hc,hd⟩:=id hit;obtain⟨ol,Tx,_,nl,Qj⟩:=hl;unfold Builtin.SmallTypes.nextOf;refine aA (uF (name:=Str.ofString "__next__") hit.typeIs uJ (wpAny_call_entry uJ hit.typeIs F.entry_tuple_iterator_next ?_ (F.args_tuple_iterator_next_1 _)));show wpAny _ _ (field (.ref it) 0 >>= λv=>_) _ _ s;refine aA (iC ho hd (x:=.ref l) (by rfl) ?_);show wpAny _ _ (if (Value.ref l == .none)=true then _ else _) _ _ s;rw [ay (by exact dJ)];show wpAny _ _ (field (.ref it) 1 >>= λv=>_) _ _ s;refine aA (iC ho hd (x:=.int i 0) (by rfl) ?_);show wpAny _ _ (seqItems? (.ref l) >>= λv=>_) _ _ s;refine aA (p6 Tx Qj ?_);simp only [kK,hx];refine aA (wpAny_rule (aA (wpAny_setField ho hd (by simp) (aA ?_))));simp only [newExc,newTuple];refine aA (qe ?_ (by size_fits));refine aA (m:=firstArgMember _ _) (wpAny_of_eq (a:=Value.none) (by first | rfl | (simp only [firstArgMember];rfl)) ?_)
 refine qe ?_ (by size_fits);simp only [raiseNew];refine aA (wpAny_handled ?_)
 first | rw [show A.in1.handled=none from hh] | rw [hh]
 refine aA (bj (wpAny_throw (hE _ _ (((Heap.SameBut.update ..).extBut.push _).push _) ⟨_,de _ rfl,rfl⟩)))
def Cm {e it l:Addr}{i:Nat}{items:Array Value}{old:Value}{Q:Option Value->Shared->Prop}(hh:A.handled=none)(he:IsEnum s.heap e it i old)(hit:s.heap.IsTupleIter it l i)(hl:s.heap.IsTuple l items)(hx:items[i]?=none)
  (hQ:∀h',Heap.ExtBut it s.heap h'->Q none { s with heap:=h' }):wpAny (model prog w) A (pyNext (.ref e)) Q E s:=by
 have hT:s.TypeIs (.ref e) "enumerate" := ⟨_,he,rfl⟩;unfold pyNext;refine aA (wpAny_attempt (uF (name:=Str.ofString "__next__") hT uA (wpAny_call_entry uA hT F.entry_enumerate_next ?_ (F.args_enumerate_next_1 _))));show wpAny _ _ (field (.ref e) 2 >>= λv=>_) _ _ _;refine aA (iC he rfl (x:=.ref it) (by rfl) (aA (qO hh hit hl hx λh' x HF SY=>?_)));obtain⟨o,ho,hc⟩:=SY;exact aA (wpAny_isInstance (T := "StopIteration") (b:=true) ⟨o,ho,hc⟩ isSubtype_stop (bj (hQ _ HF)))
end
open PySem.AutoSeq1 (wpAny_loadPart')
def wX (l:Addr)(items:Array Value) (n:Nat)(vV:Option Addr)(sl:Array (Option Value)) :
  Meets (Builtin.«enumerate.__new__» ⟨[.type "enumerate",.ref l],[]⟩) (λ_ R s=>s.heap.get? l=some { cls:=.type "tuple",dict:=vV,data:=.seq items n,slots:=sl } /\
   R (.ok (.ret (.ref (s.heap.push { cls:=.type "tuple_iterator",data:=.fields #[.ref l,.int 0 0] }).objs.size)))
    { s with heap:=(s.heap.push { cls:=.type "tuple_iterator",data:=.fields #[.ref l,.int 0 0] }).push { cls:=.type "enumerate",data:=.fields #[.none,.bool false,.ref s.heap.objs.size,rawInt 0,.none,.none] } }) :=
 .of_wp λprog w A R s h=>by
  obtain⟨hp,g,d,tk,os⟩:=s;obtain⟨hl,h⟩:=h;have Oa:=sub_enumerate;have hT:Heap.IsTuple (Shared.heap ⟨hp,g,d,tk,os⟩) l items:=⟨_,hl,rfl,n,rfl⟩
  wp_walk using oU hl
  refine wpAny_stack_any λst=>bj ?_;split
  .rename_i c _ _ _ _ _
   cases (c == Value.type "enumerate")
   .wp_walk using oU hl,ur hT;exact⟨_,rfl,h⟩
   wp_walk using oU hl,ur hT;exact⟨_,rfl,h⟩
  wp_walk using oU hl,ur hT;exact⟨_,rfl,h⟩
section
variable {prog:Program}{w:World}{A:Around}{E:Value->Shared->Prop}{s:Shared}
def zY {l:Addr}{items:Array Value}{Q:Value->Shared->Prop}(hL:s.heap.IsTuple l items)
  (h:∀h',IsEnum h' (s.heap.objs.size+1) s.heap.objs.size 0 .none->h'.IsTupleIter s.heap.objs.size l 0->(∀b o,s.heap.get? b=some o->h'.get? b=some o)->Q (.ref (s.heap.objs.size+1)) { s with heap:=h' }) :
  wpAny (model prog w) A (call (.type "enumerate") [.ref l]) Q E s:=by
 obtain⟨⟨c,vV,dt,sl⟩,hl,hc,n,hd⟩:=hL;replace hc:c=.type "tuple" := hc;replace hd:dt=.seq items n:=hd;subst hc hd;refine callType_new F.called_enumerate nofun (F.typeCall_enumerate_1 _) (F.newCall_enumerate_1 _) (λobj=>F.args_object_init_2 obj _) F.entry_enumerate_new (wX l items n vV sl) ⟨hl,?_⟩;have hz:(s.heap.push { cls:=.type "tuple_iterator",data:=.fields #[.ref l,.int 0 0] }).objs.size=s.heap.objs.size+1:=jN ..;show _/\_;rw [hz];have he:IsEnum ((s.heap.push { cls:=.type "tuple_iterator",data:=.fields #[.ref l,.int 0 0] }).push { cls:=.type "enumerate",data:=.fields #[.none,.bool false,.ref s.heap.objs.size,rawInt 0,.none,.none] }) (s.heap.objs.size+1) s.heap.objs.size 0 .none:=by
  have:=de (s.heap.push { cls:=.type "tuple_iterator",data:=.fields #[.ref l,.int 0 0] }) (o:={ cls:=.type "enumerate",data:=.fields #[.none,.bool false,.ref s.heap.objs.size,rawInt 0,.none,.none] }) rfl;rw [hz] at this;exact this
 exact⟨⟨_,he,rfl⟩,h _ he ⟨_,bZ _ (de _ rfl),rfl,rfl⟩ λb o x=>bZ _ (bZ _ x)⟩
end
def rS (K:aY)(a:Addr):It :=
 ⟨λi H=>∃xs x,ba K H a xs/\xs[i]?=some x,λi H x H'=>∃t y,x=.ref t/\H t=none/\H'=upd H t (.tup [.int (i:Int),y])/\∀xs,ba K H a xs->xs[i]?=some y,λi H=>∃xs,ba K H a xs/\xs.length<=i⟩
def yj {P:Program}{w:World}{K:aY}{elts:List Expr}{k:Nat}{tpos:Pos}(a e it:Addr)(HE:e≠it) :
  Turn P w K (.Tuple elts k tpos) (rS K a) [e,it] e (λi h=>(∃old,IsEnum h e it i old)/\h.IsTupleIter it a i) where
 mem:=by simp
 obj:=λi h st b hb=>by
  obtain⟨⟨old,he⟩,o,e1,c,d⟩:=st;rcases aW.mp hb with rfl | hb
  .exact⟨_,he,λv z=>by cases z⟩
  obtain rfl:b=it:=by simpa using hb
  exact⟨o,e1,λv z=>by rw [d] at z;cases z⟩
 keep:=λi h h' st k=>⟨⟨st.1.choose,k e (by simp) _ st.1.choose_spec⟩,st.2.at λo q=>k it (by simp) o q⟩
 item:=by
  intro X hP hw hK hc i ah s σ H E I hf st hg;subst hP hw hK;obtain⟨xs,x,hq,hx⟩:=hg;obtain⟨aJ,rv,p,hz⟩:=I.tuple hq;obtain⟨u,hu,ru⟩:=rv.get hx;obtain⟨⟨old,he⟩,hit⟩:=st;refine zT he hit (show s.heap.IsTuple a aJ.toArray from p) (x:=u) (by simpa using hu) HE λh1 ho ET hT hk=>?_;refine⟨_,rfl,yb ho λh2 OF sb=>?_⟩;have ne:s.heap.objs.size≠e:=jo (bc he);have kk:∀b o,b≠e->b≠it->s.heap.get? b=some o->h2.get? b=some o:=λb o n1 n2 q=>(sb.2 b n1).trans (hk b o n1 n2 q);have T2:h2.get? s.heap.objs.size=some { cls:=.type "tuple",data:=.seq #[.int i s.toks,u] }:=(sb.2 _ ne).trans hT;have fe:=hf e (by simp);have fi:=hf it (by simp);have fT:H s.heap.objs.size=none:=I.bU.fresh (aL _);have tr:∀b v,H b=some v->b≠e/\b≠it:=λb v q=>⟨λz=>(by rw [z,fe.1] at q;cases q),λz=>(by rw [z,fi.1] at q;cases q)⟩;have nc:∀b,b∉[e,it]->b≠e/\b≠it:=λb z=>⟨λq=>z (by simp [q]),λq=>z (by simp [q])⟩;have lt:∀b o,s.heap.get? b=some o->b≠s.heap.objs.size:=λb o q=>bT (bc q);have I2:Inv X ah σ (upd H s.heap.objs.size (.tup [.int (i:Int),x])) { s with heap:=h2,toks:=s.toks+1 }:=by
   refine I.call (g':=s.gens) (t':=s.toks+1) (d':=s.drawn) (ch:=[e,it]) ⟨λb o q _ _ c=>kk b o (nc b c).1 (nc b c).2 q,λb o q _ _ c=>⟨o.slots,kk b o (nc b c).1 (nc b c).2 q⟩,
    λb o q n _=>by rw [ai (lt b o q)];exact n,λb o q c=>⟨o,kk b o (nc b c).1 (nc b c).2 q⟩,λb ys q=>by rw [ai (aq q fT)];exact q,λb o v q=>by rw [ai (aq q fT)];exact q,
    λb ps q=>⟨#[],by rw [ai (aq q fT),q];simp⟩⟩ (λb v q=>?_) I.bare (λb hb=>?_)
   .by_cases hb:b=s.heap.objs.size
    .subst hb;rw [ab] at q;cases q;exact⟨by show 2<=sizeLine;decide,[.int i s.toks,u],.cons ⟨_,rfl⟩ (.cons ru .nil),_,T2,rfl,_,rfl⟩
    rw [ai hb] at q;refine(I.bU b v q).g7 (λc o iz z=>?_) (λc q'=>by rw [ai (aq q' fT)];exact q') λc ys q'=>by rw [ai (aq q' fT)];exact q'
    rcases iz with rfl | iz
    .exact kk c o (tr c _ q).1 (tr c _ q).2 z
    exact kk c o (tr c _ iz).1 (tr c _ iz).2 z
   rcases aW.mp hb with rfl | hb
   .exact⟨fe.2.2.2.1,fe.2.1,fe.2.2.2.2.1,fe.2.2.2.2.2⟩
   obtain rfl:b=it:=by simpa using hb
   exact⟨fi.2.2.2.1,fi.2.1,fi.2.2.2.2.1,fi.2.2.2.2.2⟩
  refine⟨.ref s.heap.objs.size,_,I2,rfl,⟨_,x,rfl,fT,rfl,λys hy=>by rw [I.sQ hy hq];exact hx⟩,⟨⟨_,OF⟩,ET.at λo q=>(sb.2 it HE.symm).trans q⟩,λb hb=>?_⟩;have AY:H b=none/\∃o,s.heap.get? b=some o:=by
   rcases aW.mp hb with rfl | hb
   .exact⟨fe.1,_,he⟩
   obtain rfl:b=it:=by simpa using hb
   obtain⟨o,q,_⟩:=hit;exact⟨fi.1,o,q⟩
  obtain⟨n,o,q⟩:=AY;rw [ai (lt b o q)];exact n
 done:=by
  intro X hP hw hK hc i ah s σ H E I hf st hg;subst hP hw hK;obtain⟨xs,hq,hx⟩:=hg;obtain⟨aJ,rv,p,hz⟩:=I.tuple hq;obtain⟨⟨old,he⟩,hit⟩:=st;obtain⟨f0,f1,f2,f3,f4,f5⟩:=hf it (by simp);have hl:=rv.length;exact Cm (I.ok.hd hc) he hit (show s.heap.IsTuple a aJ.toArray from p) (by simp;omega) λh' eb=>⟨rfl,I.turned (t':=s.toks) (λb o hb e=>eb b o hb e) f0 f1 f3 f4 f5⟩
 self:=λ_ _ _ _ _ st h=>nO st.1.choose_spec h
def KD (K:aY)(ta:TA):TI:=λσ H R=>ta σ H λvs H1=>QQ vs (ba K H1) λa=>R (rS K a) H1
def mJ {X:Cx}{elts:List Expr}{k:Nat}{tpos:Pos}{l:Expr}{ta:TA}{p pos:Pos}(hg:Gl X "enumerate")(hm:X.mg "enumerate"=none)(ha:PA X [l] ta)(hs:starEach [l] X.env=[(false,eval l X.env)]:=by rfl) :
  PI X (.Tuple elts k tpos) (.Call (.Name "enumerate" p) [l] [] pos) (KD X.K ta):=by
 intro ah s σ H R I h;refine Call_ (ib I hg hm oK (v8 (cS (ha pos ah s σ H _ I h) λus s1 bh=>?_) hs rfl));obtain⟨vs,H1,I1,r1,q1⟩:=bh;obtain⟨a,xs,e,hq,q⟩:=q1;subst e;obtain⟨u,rfl,rx⟩:=r1.one;cases rx;obtain⟨aJ,rv,pl,hz⟩:=I1.tuple hq;refine zY (show s1.heap.IsTuple a aJ.toArray from pl) λh1 he hit hk=>nO he ?_;refine⟨s1.heap.objs.size+1,[s1.heap.objs.size+1,s1.heap.objs.size],_,_,H1,rfl,I1.kept (t':=s1.toks) λb o e=>hk b o e,yj a _ _ (jo (md _)),⟨⟨_,he⟩,hit⟩,λb hb=>?_,q⟩;rcases aW.mp hb with rfl | hb
 .exact I1.ky (jJ _) (I1.bU.fresh (jJ _))
 obtain rfl:b=s1.heap.objs.size:=by simpa using hb
 exact I1.ky (aL _) (I1.bU.fresh (aL _))
open PySem PySem.Spec PyProof.Rows PySem.W
def jz (c':Addr)(qual:Str):HO:=.ext λh=>h.CodeRec (.ref c') qual
def om (f:Addr)(o:Obj):HO:=.ext λh=>h.get? f=some o
def xD {P:Program}{w:World}{H:Hp}{h:Heap}{c':Addr}{qual:Str}(hr:h.CodeRec (.ref c') qual):cC P w H h c' (jz c' qual):=by
 obtain⟨c2,oc,vs,t,e,xT,hd,hv⟩:=id hr;cases e;exact⟨hr,⟨oc,xT⟩,λh1 h2 ⟨c3,Z3,Zh,t3,e3,TB,gY,LX⟩ k=>by cases e3;exact⟨_,Z3,Zh,t3,rfl,k _ TB,gY,LX⟩⟩
def pN {P:Program}{w:World}{H:Hp}{h:Heap}{f:Addr}{o:Obj}(e:h.get? f=some o):cC P w H h f (om f o):=⟨e,⟨o,e⟩,λ_ _ q k=>k _ q⟩
def Tab (T:Addr)(pos:Pos)(qual:Str)(H:Hp):Prop :=
 ∃ps,H T=some (.rW ps)/\TriplesOk ps.toList/\(codeAmong pos ps.toList=none\/∃c',codeAmong pos ps.toList=some (.ref c')/\H c'=some (jz c' qual))
def fK (T:Addr)(H H':Hp):Prop:=∀b o,b≠T->H b=some o->H' b=some o
def rV (mg:Str->Option Value)(base:Heap):Prop :=
 ∃bm o,mg "__builtins__"=some (.ref bm)/\bm≠builtinsNs/\bm≠mainGlobals/\base.get? bm=some o/\o.cls=.type "module" /\ o.dict=some builtinsNs/\o.data=.plain
theorem i9 {a b:Int}{ta tb:Tok}{c:Value}:∀l:List Value,TriplesOk l->TriplesOk (l++[.int a ta,.int b tb,c])
 | [],_=>trivial
 | [x],h=>by cases x <;> exact h.elim
 | [x,y],h=>by cases x <;> cases y <;> exact h.elim
 | x::y::z::r,h=>by
  cases x with
  | int i ti =>
   cases y with
   | int j tj=>exact i9 r h
   | _=>exact h.elim
  | _=>exact h.elim
section
variable {X:Cx}{params:Arguments}{body:Expr}{scope:Scope}{pos:Pos}{c T:Addr}
abbrev lK (X:Cx)(params:Arguments)(body:Expr)(scope:Scope)(c':Addr)(fU:Value):Obj:=kla_obj "<lambda>" (X.env.qual ++ "<lambda>") params body scope [] ((X.mg "__name__").getD .none) c' fU
def Rj (X:Cx)(params:Arguments)(body:Expr)(scope:Scope)(pos:Pos)(T:Addr):TE:=λσ H Q=>Tab T pos (X.env.qual ++ "<lambda>") H /\
 ∀f c' fU H',fK T H H'->Tab T pos (X.env.qual ++ "<lambda>") H'->H f=none->H' f=some (om f (lK X params body scope c' fU))->H' c'=some (jz c' (X.env.qual ++ "<lambda>"))->Q (.ref f) H'
def DO (qZ:X.env.code=.ref c)(hC:codeHdIn X.K c T=true)(hB:rV X.mg X.base)(mW:∀y∈scope.names,y.2≠.free)(EW:defaultsOf params X.env=([],[]):=by rfl):PE X (.Lambda params body scope pos) (Rj X params body scope pos T):=by
 intro ah s σ H Q I h;obtain⟨⟨ps,hT,ht,EX⟩,q⟩:=h;refine kla_eval EW ?_;have K3:s.heap.get? T=some (tabObj ps):=(show cC X.prog X.w H s.heap T (.rW ps) from I.bU T _ hT);have hg:=I.mod.glob.keeps I.bk;have C:=codeHd_of_K I.sC hC;obtain⟨bm,ob,b1,b2,b3,b4,b5,b6,b7⟩:=hB;have Vz:=I.bk _ _ b4;have Sf:bm≠T:=λz=>by
  have:=(I.bs _ _ b4).2;rw [z,hT] at this;cases this
 have R_:mainGlobals≠T:=λz=>by
  obtain⟨o,es,ep,e,d,_⟩:=hg;rw [z,K3] at e;cases e;cases d
 have OQ:s.heap.BuiltinsAt X.mg T:=⟨bm,ob,b1,b2,b3,Sf,Vz,b5,b6,b7⟩;have FK:∀b v,H b=some v->b < s.heap.objs.size:=λb v e=>I.bU.lt e;rcases EX with Ov | ⟨c',hf,iz⟩
 .refine kla_makeFunction (closureFor_none mW) I.ok.glob hg qZ C K3 ht Ov R_ OQ λc' fU h' tk hx KW gT EM N8=>?_;have hcr:∃oc,h'.get? c'=some oc:=by
   obtain⟨c2,oc,vs,t,e,xT,_⟩:=EM;cases e;exact⟨oc,xT⟩
  have qY:h'.objs.size > s.heap.objs.size:=oR KW gT;have keep:∀b o,b≠T->s.heap.get? b=some o->(h'.push (lK X params body scope c' fU)).get? b=some o:=λb o n e=>bZ _ (hx b o n e)
  let H':Hp:=upd (upd (upd H T (.rW (ps++#[rawInt pos.line,rawInt pos.col,.ref c']))) c' (jz c' (X.env.qual ++ "<lambda>"))) h'.objs.size (om h'.objs.size (lK X params body scope c' fU))
  have zo:∀b v,H b=some v->b≠c'/\b≠h'.objs.size:=λb v e=>⟨bT (fP (FK b v e) KW),bT (kZ (FK b v e) qY)⟩;have Se:c'≠h'.objs.size:=bT gT;have NG:=zo T _ hT;have eT:H' T=some (.rW (ps++#[rawInt pos.line,rawInt pos.col,.ref c'])):=by
   show upd (upd (upd H T _) c' _) h'.objs.size _ T=_;rw [ai NG.2,ai NG.1,ab]
  have ec:H' c'=some (jz c' (X.env.qual ++ "<lambda>")):=by
   show upd (upd (upd H T _) c' _) h'.objs.size _ c'=_;rw [ai Se,ab]
  have ef:H' h'.objs.size=some (om h'.objs.size (lK X params body scope c' fU)):=ab;have eo:∀b,b≠T->b≠c'->b≠h'.objs.size->H' b=H b:=λb n1 n2 n3=>by
   show upd (upd (upd H T _) c' _) h'.objs.size _ b=_;rw [ai n3,ai n2,ai n1]
  have sT:fK T H H':=λb o n e=>by rw [eo b n (zo b o e).1 (zo b o e).2];exact e
  have I2:Inv X ah σ H' { s with heap:=h'.push (lK X params body scope c' fU),toks:=tk }:=by
   refine I.call (g':=s.gens) (t':=tk) (d':=s.drawn) (ch:=[]) ⟨λb o e n _ _=>keep b o (λz=>by rw [z,hT] at n;cases n) e,λb o e n _ _=>⟨o.slots,keep b o (λz=>by rw [z,hT] at n;cases n) e⟩,λb o e n _=>?_,λb o e _=>?_,λb xs e=>?_,λb o u e=>?_,λb RR e=>?_⟩ (λb v e=>?_) I.bare (λb hb=>nomatch hb)
   .have lb:=bc e;rw [eo b (λz=>by rw [z,hT] at n;cases n) (bT (fP lb KW)) (bT (kZ lb qY))];exact n
   .by_cases z:b=T
    .exact⟨_,by rw [z];exact bZ _ N8⟩
    exact⟨o,keep b o z e⟩
   .exact sT b _ (λz=>by rw [z,hT] at e;cases e) e
   .exact sT b _ (λz=>by rw [z,hT] at e;cases e) e
   .by_cases z:b=T
    .subst z;rw [hT] at e;cases e;exact⟨_,eT⟩
    exact⟨#[],by rw [Array.append_empty];exact sT b _ z e⟩
   by_cases z1:b=h'.objs.size
   .subst z1;rw [ef] at e;cases e;exact pN (de _ rfl)
   by_cases z2:b=c'
   .subst z2;rw [ec] at e;cases e;refine xD ?_;obtain⟨c2,oc,vs,t,e',xT,hd,hv⟩:=EM;cases e';exact⟨_,oc,vs,t,rfl,bZ _ xT,hd,hv⟩
   by_cases z3:b=T
   .subst z3;rw [eT] at e;cases e;exact bZ _ N8
   rw [eo b z3 z2 z1] at e;refine(I.bU b v e).g7 (λd o Ca e'=>?_) (λd e'=>sT d _ (λz=>by rw [z,hT] at e';cases e') e') λd ys e'=>sT d _ (λz=>by rw [z,hT] at e';cases e') e';rcases Ca with rfl | Ca
   .exact keep d o z3 e'
   exact keep d o (λz=>by rw [z,hT] at Ca;cases Ca) e'
  have fresh:H h'.objs.size=none:=I.bU.fresh (i5 qY);exact⟨.ref h'.objs.size,H',I2,rfl,q _ c' fU H' sT ⟨_,eT,by rw [qm];exact i9 _ ht,.inr ⟨c',by rw [qm];exact codeAmong_snoc _ ht Ov,ec⟩⟩ fresh ef ec⟩
 refine kla_makeFunctionHit (closureFor_none mW) I.ok.glob hg qZ C K3 ht hf OQ λfU h' tk hk hsz=>?_;have keep:∀b o,s.heap.get? b=some o->(h'.push (lK X params body scope c' fU)).get? b=some o:=λb o e=>bZ _ (hk b o e);have fresh:H h'.objs.size=none:=I.bU.fresh hsz;refine⟨.ref h'.objs.size,_,I.laid (a:=h'.objs.size) (o:=om h'.objs.size (lK X params body scope c' fU)) (t':=tk) keep hsz (pN (de _ rfl)),rfl,?_⟩;refine q _ c' fU _ (λb o _ e=>by rw [ai (aq e fresh)];exact e) ⟨ps,by rw [ai (aq hT fresh)];exact hT,ht,.inr ⟨c',hf,by rw [ai (aq iz fresh)];exact iz⟩⟩ fresh ab (by rw [ai (aq iz fresh)];exact iz)
end
section
variable {P:Program}{w:World}{K:Frag}{mg:Str->Option Value}{base:Heap}{f c':Addr}{q:Str}{params:Arguments}{body:Expr}{scope:Scope}{pm fU:Value}{N ps:List Str}{k:Nat}{te:TE}
def Hv (S:aK N ps scope)(mX:∀us:List Value,us.length=ps.length->bindArgs (kla_fn "<lambda>" q params body scope [] pm (.ref c') fU) ⟨us,[]⟩=pure (ps.zip us))
  (iW:∀(A:Around)(outer:List Env)(s:Shared)(H:Hp),PE (oG fu P w K mg base N q scope f (.ref c') A outer s H λ_ _ _=>False) body te)
  (A:Around)(outer:List Env)(s:Shared)(H:Hp)(us:List Value)(vs:List V)(Q:VK)(hr:eP (k+1) A)(e0:pH P w K mg base A outer s H)(hf:H f=some (om f (kla_obj "<lambda>" q params body scope [] pm c' fU)))
  (hc:H c'=some (jz c' q))(rv:aT vs us)(hl:vs.length=ps.length)(h:te (start N vs) H Q):codeAny (model P w) A (.call (.ref f) ⟨us,[]⟩) (CR fu outer P w H s Q λ_ _ _=>False) s:=by
 obtain⟨ef,_⟩:=e0.bU f _ hf;obtain⟨ec,_⟩:=e0.bU c' _ hc;have lu:us.length=ps.length:=by rw [<-rv.length];exact hl
 have lim:s.heap.NoLimit:=e0.mod.nolimit.keeps λb o e=>(e0.bs b o e).1;have iU:∀y∈ps.zip us,scope.names.lookup y.1=some .local\/(scope.names.lookup y.1=some .cell/\((cellsFrom (s.heap.objs.size+1) scope.names []).lookup y.1).isSome=true):=λ⟨n,v⟩ hy=>by
  rcases S.par n (List.of_mem_zip hy).1 with z | z
  .exact .inl z
  exact .inr ⟨z,cellsFrom_some _ _ _ (.inl z)⟩
 refine kla_callFunE hr.depth ef rfl S.co S.gen rfl ec ?_;rw [mX us lu];refine bj (wpAny_newFunctionEnv_cells S.kind iU λenv he s1 x=>?_);subst he;refine⟨lim.keeps x.toInCall.keep,kla_codeExpr ?_⟩;have I:Inv (oG fu P w K mg base N q scope f (.ref c') A outer s H λ_ _ _=>False) [] (start N vs) H s1:=tQ S hr.hd e0 hl rv x;refine cW (iW A outer s H [] s1 (start N vs) H _ I h) (λv s' bh=>?_) λe s' z=>z;obtain⟨y,H',J,r,z⟩:=bh;exact⟨y,H',J.os,J.bare,J.base,J.bU,r,z⟩
end
section
variable {X:Cx}{i:Nat}{x:Str}{e:Expr}{es:List Expr}{t:TA}{p pos:Pos}{q:Str}{params:Arguments}{body:Expr}{scope:Scope}{N ps:List Str}{k:Nat}{te:TE}
def C5 (i:Nat)(q:Str)(params:Arguments)(body:Expr)(scope:Scope) (N ps:List Str)(t:TA)(te:TE):TE:=λσ H Q=>∃f pm c' fU,σ[i]?=some (some (.ref f)) /\
 t σ H λvs H1=>H1 f=some (om f (kla_obj "<lambda>" q params body scope [] pm c' fU))/\H1 c'=some (jz c' q)/\vs.length=ps.length/\te (start N vs) H1 Q
def yV (hN:X.N[i]?=some x)(hx:X.env.scope.names.lookup x=some .local)(S:aK N ps scope)(hr:eP (k+1) X.A)
  (mX:∀(pm fU:Value)(c':Addr)(us:List Value),us.length=ps.length->bindArgs (kla_fn "<lambda>" q params body scope [] pm (.ref c') fU) ⟨us,[]⟩=pure (ps.zip us))
  (iW:∀(f c':Addr)(A:Around)(outer:List Env)(s:Shared)(H:Hp),PE (oG fu X.prog X.w X.K X.mg X.base N q scope f (.ref c') A outer s H λ_ _ _=>False) body te)(ha:PA X (e::es) t)
  (B_:(x == ("__debug__":Str))=false:=by decide)(he:starEach (e::es) X.env=(false,eval e X.env)::starEach es X.env:=by rfl)(pQ:(backTo pos (starEach es X.env)).any (·.1)=false:=by rfl) :
  PE X (.Call (.Name x p) (e::es) [] pos) (C5 i q params body scope N ps t te):=by
 intro ah s σ H Q I h;obtain⟨f,pm,c',fU,hσ,h⟩:=h;obtain⟨m,hn,hl⟩:=I.loc;obtain⟨u,ru,lk⟩:=hl i x (.ref f) hN hσ (.inl hx);cases (show u=Value.ref f from ru);have hm:m x=some (.ref f):=by
  rcases lk with l | ⟨l,_⟩
  .exact l.2
  have l':X.env.scope.names.lookup x=some .cell\/X.env.scope.names.lookup x=some .free:=l;rw [hx] at l';rcases l' with l' | l' <;> cases l'
 refine me (wpAny_Name (uy I.ok.kind hx hn hm ?_) B_);refine callWith_def (o:=kla_obj "<lambda>" q params body scope [] pm c' fU) rfl (cS (ha pos ah s σ H _ I h) λus s1 bh=>?_) he;obtain⟨vs,H1,I1,r,z1,z2,z3,z4⟩:=bh;obtain⟨ef,_⟩:=I1.bU f _ z1;refine⟨ef,jH (jK (Hv (k:=k) S (λus hl=>mX pm fU c' us hl) (iW f c') X.A X.stack s1 H1 us vs Q hr I1.Ll z1 z2 r z3 z4) λr' s' z=>?_)⟩;cases r' with
 | error e=>exact z.elim
 | ok fl =>
  cases fl with
  | ret u=>exact I1.after z
  | next=>exact z.elim
  | brk=>exact z.elim
  | cont=>exact z.elim
end
def Fz (ts:List Addr)(H:Hp):Prop:=∀b,H b=none\/(∃o xs,H b=some (.jD o (.lst xs)))\/(b∈ts/\H b=some (.rW #[]))
def B3 {P:Program}{w:World}{K:Frag}{mg mb:Str->Option Value}{CX:xZ}{k:Nat}{fa a:Addr}{fd:FuncData}{x:Str}{sp:Sp}{s₁:Shared}{vs:List Value}{ns:List Int}{ts:List Addr}
  (KX:K.In s₁.heap)(vC:s₁.heap.Ns mainGlobals mg)(hb:s₁.heap.Ns builtinsNs mb)(K2:∀x:Str,x ≠ "__name__" -> mb x=bootBuiltins x)(KR:s₁.heap.NoLimit)
  (hbm:∃bm ob,mg "__builtins__"=some (.ref bm)/\bm≠builtinsNs/\s₁.heap.get? bm=some ob/\ob.cls=.type "module" /\ ob.dict=some builtinsNs/\ob.data=.plain)(hg:s₁.gens=#[])
  (KJ:∀T∈ts,s₁.heap.get? T=some (tabObj #[])/\K.lookup T=none/\∃c,codeHdIn K c T=true)
  (ha:s₁.heap.get? a=some { cls:=.type "list",data:=.seq vs.toArray })(hi:IntsAre vs ns)(hl:ns.length<=sizeLine)(hr:eP k callerA)
  (F:∀base:Heap,K.In base->base.Ns mainGlobals mg->rV mg base->bS P w K mg base CX k fa fd [x] sp)(mX:∀(s:Shared)(u:Value),BindsTo s fd ⟨[u],[]⟩ [(x,u)])
  (xS:∀H:Hp,Fz ts H->(∀T∈ts,H T=some (.rW #[]))->aD K H a (ns.map V.int)->sp [.ref a] H (λv _=>v=.bl true) λ_ _ _=>False)
  (K9:∀H e s',CX [] H s₁ (λ_ _ _=>False) e s'->False) :
  codeAny (model P w) callerA (.call (.ref fa) ⟨[.ref a],[]⟩) (λr s'=>r=.ok (.ret (.bool true))/\OldK s₁.heap s'.heap/\s'.os=s₁.os/\AllBare s'.gens) s₁:=by
 have rv:=nY hi;have Kv:=hi.length;have core:∀H:Hp,Fz ts H->(∀T∈ts,H T=some (.rW #[]))->aD K H a (ns.map V.int)->kX P w H s₁.heap->(∀b,H b≠none->b=a\/b∈ts)->(H a≠none->K.lookup a=none) ->
   codeAny (model P w) callerA (.call (.ref fa) ⟨[.ref a],[]⟩) (λr s'=>r=.ok (.ret (.bool true))/\OldK s₁.heap s'.heap/\s'.os=s₁.os/\AllBare s'.gens) s₁:=by
  intro H hO hT hS bU hA hK;have kr:∀{b:Addr}{o:Obj},s₁.heap.get? b=some o->H b=none->(lP s₁.heap H).get? b=some o:=λe n=>w_ e n;have off:∀{b:Addr}{o:Obj},s₁.heap.get? b=some o->(∀aJ n,o.data≠.seq aJ n)->(∀fs,o.data≠.fields fs)->H b=none:=λ{b o} e d1 d2=>by
   cases q:H b with
   | none=>rfl
   | some u =>
    rcases hA b (by rw [q];simp) with e' | e'
    .subst e';rw [ha] at e;cases e;exact(d1 _ _ rfl).elim
    rw [(KJ b e').1] at e;cases e;exact(d2 _ rfl).elim
  have Hm:∀{b:Addr}{m:Str->Option Value},s₁.heap.Ns b m->(lP s₁.heap H).Ns b m:=λ{b m} ⟨o,es,ep,e,d,r⟩=>⟨o,es,ep,kr e (off e (λ_ _ z=>by rw [d] at z;cases z) λ_ z=>by rw [d] at z;cases z),d,r⟩;have OK:K.In (lP s₁.heap H):=λb o e=>kr (KX b o e) (by
   cases q:H b with
   | none=>rfl
   | some u =>
    rcases hA b (by rw [q];simp) with e' | e'
    .subst e';rw [hK (by rw [q];simp)] at e;cases e
    rw [(KJ b e').2.1] at e;cases e)
  have hM:Mod K mg (lP s₁.heap H):=⟨OK,Hm vC,⟨mb,Hm hb,K2⟩,let ⟨mc,h1,h2⟩:=KR;⟨mc,Hm h1,h2⟩⟩;have OP:rV mg (lP s₁.heap H):=by
   obtain⟨bm,ob,b1,b2,b3,b4,b5,b6⟩:=hbm;refine⟨bm,ob,b1,b2,λz=>?_,kr b3 (off b3 (λ_ _ z=>by rw [b6] at z;cases z) λ_ z=>by rw [b6] at z;cases z),b4,b5,b6⟩;obtain⟨o,es,ep,e,d,_⟩:=vC;rw [<-z,b3] at e;cases e;rw [b6] at d;cases d
  have e0:pH P w K mg (lP s₁.heap H) callerA [] s₁ H:=⟨rfl,hM,λb o e=>AO e,Nat.le_of_eq (tT _ _),trivial,λb hb=>absurd (show b∈([]:List Addr) from hb) (by simp),bU,.of_eq hg⟩;refine jK ((F _ OK (Hm vC) OP).run callerA [] s₁ H ⟨[.ref a],[]⟩ [.ref a] [.ref a] _ _ hr e0 (mX s₁ (.ref a)) (.cons rfl .nil) (xS H hO hT hS)) λr s' h=>?_;cases r with
  | error e=>exact(K9 H e s' h).elim
  | ok fl =>
   cases fl with
   | next=>exact False.elim h
   | brk=>exact False.elim h
   | cont=>exact False.elim h
   | ret u =>
    obtain⟨v,H',os,bare,un,HA,r',q⟩:=h;have q':v=.bl true:=q;subst q';obtain rfl:u=Value.bool true:=r';have each:∀b o,s₁.heap.get? b=some o->asItWas s₁.heap s'.heap b o/\∃o',s'.heap.get? b=some o':=λb o e=>by
     cases q:H b with
     | none =>
      have z:=un.keep b o e q (by intro z;exact absurd (show b∈([]:List Addr) from z) (by simp)) (by simp);exact⟨.inl z,o,z⟩
     | some u =>
      rcases hO b with z | ⟨ob,xs,z⟩ | ⟨AY,z⟩
      .rw [q] at z;cases z
      .have z2:=un.lR b ob _ z;obtain⟨e1,_⟩:=bU b _ z;obtain⟨e2,_⟩:=HA b _ z2;rw [e] at e1;cases e1;exact⟨.inl e2,_,e2⟩
      obtain⟨more,z2⟩:=un.mn b _ z;have e2:s'.heap.get? b=some (tabObj (#[]++more)):=HA b _ z2;rw [(KJ b AY).1] at e;cases e;obtain⟨c,hc⟩:=(KJ b AY).2.2;obtain⟨oc,Zi,file,tf,flags,tg,inF,text,tt,d1,d2,d3,d4,_⟩:=codeHd_of_K KX hc;exact⟨.inr (.inl ⟨⟨c,oc,Zi,d1,d2,d3,d4⟩,rfl,#[],more,rfl,e2⟩),_,e2⟩
    exact⟨rfl,⟨λb o e=>(each b o e).1,λb o e=>(each b o e).2⟩,os,bare⟩
 have na:a∉ts:=λz=>by
  have:=(KJ a z).1;rw [ha] at this;cases this
 cases hk:K.lookup a with
 | some o =>
  have e:=KX a o hk;rw [ha] at e;cases e;refine core (λb=>if b∈ts then some (.rW #[]) else none) (λb=>?_) (λT h=>az h) (.inr ⟨_,vs.toArray,_,hk,rfl,rfl,rfl,by rw [bO,Kv];exact hl,by simpa using rv⟩) (λb u z=>?_) (λb z=>?_) λz=>absurd (ay na) z
  .by_cases h:b∈ts
   .exact .inr (.inr ⟨h,az h⟩)
   exact .inl (ay h)
  .by_cases h:b∈ts
   .have z':=(az h).symm.trans z;cases z';exact(KJ b h).1
   have z':=(ay h).symm.trans z;cases z'
  by_cases h:b∈ts
  .exact .inr h
  exact absurd (ay h) z
 | none =>
  refine core (λb=>if b=a then some (.jD { cls:=.type "list",data:=.seq vs.toArray } (.lst (ns.map V.int))) else if b∈ts then some (.rW #[]) else none) (λb=>?_) (λT h=>?_) (.inl (.inr ⟨{ cls:=.type "list",data:=.seq vs.toArray },az rfl⟩)) (λb u z=>?_) (λb z=>?_) λ_=>hk
  .by_cases hb:b=a
   .exact .inr (.inl ⟨_,_,az hb⟩)
   by_cases h:b∈ts
   .exact .inr (.inr ⟨h,(ay hb).trans (az h)⟩)
   exact .inl ((ay hb).trans (ay h))
  .exact(ay (λz:T=a=>na (z ▸ h))).trans (az h)
  .by_cases hb:b=a
   .have z':=(az hb).symm.trans z;cases z';subst hb;exact⟨ha,by rw [av];exact hl,vs,_,rv,ha⟩
   by_cases h:b∈ts
   .have z':=((ay hb).trans (az h)).symm.trans z;cases z';exact(KJ b h).1
   have z':=((ay hb).trans (ay h)).symm.trans z;cases z'
  by_cases hb:b=a
  .exact .inl hb
  by_cases h:b∈ts
  .exact .inr h
  exact absurd ((ay hb).trans (ay h)) z
def C1 {l:OpenLaw}{n k:Nat}{q:Program}{loose:List Str}{XP:(Str->Option Value)->Heap->Prop}{YP:World->Heap->Prop}{d:DefRec}{K:Params->Frag}{CX:World->xZ}{sp:World->Sp}{x:Str}{ts:List Addr}
  (hn:l.most=some n)(IU:n<=sizeLine)(KZ:d.params.defaults=[])(hr:eP k callerA)
  (hY:∀(w:World)(h:Heap),YP w h->(K w.params).In h/\∀T∈ts,h.get? T=some (tabObj #[]))
  (hK:∀w:World,∀T∈ts,(K w.params).lookup T=none/\∃c,codeHdIn (K w.params) c T=true)
  (F:∀(w:World)(mg:Str->Option Value)(fa:Addr)(h:Heap),(K w.params).In h->h.Ns mainGlobals mg->mg d.name=some (.ref fa) ->
   ∃fd:FuncData,(∀(s:Shared)(u:Value),BindsTo s fd ⟨[u],[]⟩ [(x,u)]) /\
    ∀base:Heap,(K w.params).In base->base.Ns mainGlobals mg->rV mg base->bS l.prog w (K w.params) mg base (CX w) k fa fd [x] (sp w))
  (xS:∀(w:World)(H:Hp)(a:Addr)(ns:List Int),ns.length<=n->Fz ts H->(∀T∈ts,H T=some (.rW #[]))->aD (K w.params) H a (ns.map V.int)->sp w [.ref a] H (λv _=>v=.bl true) λ_ _ _=>False)
  (K9:∀(w:World)(H:Hp)(s:Shared)(e:Value)(s':Shared),CX w [] H s (λ_ _ _=>False) e s'->False) :
  WalkO q loose XP YP l.row.toRowW d [] (λf vs=>PySem.call f vs):=by
 refine Gd.pb hn KZ λw s₀ s₁ mg mb fa o pm cd doc a vs ns G Y ho hd vF KQ EO hints bM hg=>?_;obtain⟨KX,TX⟩:=hY w _ Y;obtain⟨fd,hb,hF⟩:=F w mg fa _ KX G.T.g KQ;exact B3 KX G.T.g G.T.b G.T.builtins G.T.nolimit G.T.bmain hg (λT hT=>⟨TX T hT,hK w T hT⟩) EO hints (dI bM IU) hr hF hb (λH hO hT hS=>xS w H a ns bM hO hT hS) λH e s'=>K9 w H s₁ e s'
def a_ {X:Cx}{scope:Scope}{js:List (Nat×Str)}(h:(js.all λp=>X.N[p.1]? == some p.2 && X.env.scope.names.lookup p.2 == some .cell && scope.names.lookup p.2 == some .free)=true)
  (h2:(scope.names.all λy=>y.2 != .free || X.env.scope.names.lookup y.1 == some .cell)=true):Ih X scope js:=by
 refine⟨λp hp=>?_,λy hy=>?_⟩
 .have:=gL.mp h p hp;simp only [nP,beq_iff_eq] at this;exact⟨this.1.1,this.1.2,this.2⟩
 have:=gL.mp h2 _ hy;simpa using this
def sD {σ:St}{H:Hp}{A B:Hp->Prop}(h:A H):iM σ H λb H3=>if b=true then A H3 else B H3:=by
 show if true=true then A H else B H;exact ow h
def goN {i:Nat}{v:V}{σ:St}{H:Hp}{Q:St->Hp->Prop}(h:Q (σ.set i (some v)) H):eJ i v σ H Q:=h
def jR (x y:Str):(x++y).length=x.length+y.length:=by
 show (x.cps++y.cps).size=_;rw [Array.size_append];rfl
def rB (ns:List Int)(lo hi:Option Int):∃tM:List Int,dq (ns.map V.int) lo hi=tM.map V.int/\(∀n∈tM,n∈ns)/\tM.length<=ns.length :=
 ⟨(ns.drop (HT.jw (ns.map V.int).length 0 lo)).take (HT.jw (ns.map V.int).length (ns.map V.int).length hi - HT.jw (ns.map V.int).length 0 lo),by unfold dq;rw [<-jL,<-nJ],λn hn=>pY (gC hn),by rw [cX,fj];omega⟩
def j3 {X:Cx}(K:aY)(hK:X.K=K:=by rfl):Ic X (Nr K):=by
 subst hK;exact aP
def je {X:Cx}{es:List Expr}{k:Nat}{t:Jj}{n:Nat}{pos:Pos}(K:aY)(hc:X.calm=true)(h:Pp X es t)(hK:X.K=K:=by rfl)
  (hn:(assignEach es X.env).length=n:=by rfl)(sf:(assignEach es X.env).findIdx? (·.1)=none:=by rfl):PG X (.Tuple es k pos) (Cd K n t):=by
 subst hK;exact eU hc h hn sf
def AU {n k:Nat}(h:k < n):r_ n (k:Int)=some k:=by
 unfold r_;rw [az ∅,az ∅];simp
def HU {ns:List Int}{k:Nat}(h:k < ns.length):ik (ns.map V.int) (k:Int)=some (.int ns[k]):=bE (by rw [aZ,dw h];rfl)
end L2
section
variable {P:PySem.Program}{w:PySem.World}{K:aY}{mg:PySem.Str->Option PySem.Value}{base:PySem.Heap}{f:PySem.Addr}{fd:PySem.FuncData}
namespace gu
open PySem L2
def top (i:Nat):Stmt:=PySem.Challenge.pw_wright_k15_grammars_read.main.body.getD i (.Pass ⟨0,0,0,0⟩)
abbrev yG:Stmt:=top 11
abbrev yx:Stmt:=top 12
abbrev qH:Stmt:=top 16
abbrev u_:Stmt:=top 17
abbrev yI:Stmt:=top 18
abbrev Dx:Stmt:=top 20
abbrev yz:Stmt:=top 21
abbrev JK:Stmt:=top 22
abbrev qE:Stmt:=top 24
abbrev vb:Stmt:=top 25
abbrev mD:Stmt:=top 26
abbrev u7:Stmt:=top 29
abbrev yy:Stmt:=top 30
abbrev JM:Stmt:=top 31
abbrev wz:Stmt:=top 38
abbrev Dw:Stmt:=top 13
abbrev JL:Stmt:=top 14
abbrev mE:Stmt:=top 33
abbrev n_:Stmt:=top 34
abbrev qG:Stmt:=top 35
abbrev ZH:Stmt:=top 36
structure Txt (mg:Str->Option Value):Prop where
 len:mg "len"=none
 FR:mg "range"=none
 P9:mg "isinstance"=none
 tup:mg "tuple"=none
 lst:mg "list"=none
 vV:mg "dict"=none
 all:mg "all"=none
 any:mg "any"=none
 str:mg "str"=none
 int:mg "int"=none
 boo:mg "bool"=none
 F6:mg "enumerate"=none
 sum:mg "sum"=none
 max:mg "max"=none
 min:mg "min"=none
section
def boot_all:bootBuiltins "all"=some (.builtin "all"):=by decide +kernel
def fI:bootBuiltins "list"=some (.type "list"):=by decide +kernel
def Fj:bootBuiltins "str"=some (.type "str"):=by decide +kernel
def fJ:bootBuiltins "dict"=some (.type "dict"):=by decide +kernel
def yS (zs:List Str):∀v∈zs.map V.str,rP v:=λv hv=>by
 obtain⟨z,_,rfl⟩:=cM.mp hv;exact .inl rfl
end
end gu
namespace L2
open PySem
def aR {K:aY}{H:Hp}{D a:Addr}{xs ys:List V}{o:HO}(hD:H D=some (.lst ys))(h:ba K H a xs):ba K (upd H D o) a xs:=by
 rcases h with (h | ⟨u,h⟩) | h
 .exact .inl (.inl (by rw [ai (λz=>by rw [z,hD] at h;cases h)];exact h))
 .exact .inl (.inr ⟨u,by rw [ai (λz=>by rw [z,hD] at h;cases h)];exact h⟩)
 exact .inr h
def vP (kvs:List (aN×V))(k:aN):(kvs.any λkv=>decide (kv.1=k))=true↔k∈kvs.map (·.1):=by
 rw [nQ,cM];constructor
 .rintro⟨x,h1,h2⟩;exact⟨x,h1,dF h2⟩
 rintro⟨x,h1,h2⟩;exact⟨x,h1,fO h2⟩
def yQ {kvs:List (aN×V)}{k:aN}{v:V}(h:k∈kvs.map (·.1)):(bP kvs k v).map (·.1)=kvs.map (·.1):=by
 unfold bP;rw [az ((vP kvs k).mpr h),gZ];refine uB λx hx=>?_;show (if x.1=k then (x.1,v) else x).1=x.1
 split <;> rfl
def ir {kvs:List (aN×V)}{k:aN}{v:V}(h:¬k∈kvs.map (·.1)):(bP kvs k v).map (·.1)=kvs.map (·.1)++[k]:=by
 unfold bP;rw [ay (λz=>h ((vP kvs k).mp z)),aQ];rfl
def eI (kvs:List (aN×V))(k:aN):(bu kvs k).isSome=true↔k∈kvs.map (·.1):=by
 rw [<-iL];exact vP kvs k
theorem cQ {α β γ:Type}{F:α->β->Prop}{G:α->γ->Prop}{φ:β->γ}:∀{xs:List α}{ys:List β},Paired F xs ys->(∀a b,F a b->G a (φ b))->Paired G xs (ys.map φ)
 | _,_,.nil,_=>.nil
 | _,_,.cons h t,k=>.cons (k _ _ h) (cQ t k)
def cV {z:Str}{l:List Str}:(Sum.inr z:aN)∈l.map Sum.inr↔z∈l:=by
 rw [cM];constructor
 .rintro⟨x,h1,h2⟩;rw [<-kY h2];exact h1
 intro h;exact⟨z,h,rfl⟩
end L2
namespace M11
abbrev aB:=PySem.Str×List PySem.Str
def gR (a:List PySem.Str)(h:PySem.Str):List PySem.Str:=if h∈a then a else a++[h]
def vJ (bF hs:List PySem.Str):List PySem.Str:=hs.foldl gR bF
def addW (cR a:List PySem.Str)(p:PySem.Str):List PySem.Str:=if p∈cR then a else gR a p
def jO (cR bF ps:List PySem.Str):List PySem.Str:=ps.foldl (addW cR) bF
def LV (aa:List aB)(name:PySem.Str) (k:Nat):Bool:=decide ((aa[k]?.map (·.1))=some name)
def nums (aa:List aB)(name:PySem.Str) (i:Nat):List Int:=((List.range i).filter (LV aa name)).map λk:Nat=>(k:Int)
def BN (aa:List aB)(name:PySem.Str) (i:Nat):nums aa name (i+1)=nums aa name i++(if LV aa name i=true then [(i:Int)] else []):=by
 unfold nums;rw [List.range_succ,kM,aQ]
 congr 1
 by_cases h:LV aa name i=true
 .rw [az h];simp [h]
 rw [ay h];simp [h]
def wN (aa:List aB)(name:PySem.Str) (i:Nat):(nums aa name i).length<=i:=by
 unfold nums;rw [av];have:=jG (LV aa name) (List.range i);rw [nV] at this;exact this
def xI (a:List PySem.Str)(h:PySem.Str):(gR a h).length<=a.length+1:=by
 unfold gR;split <;> simp
theorem iA:∀(hs bF:List PySem.Str),(vJ bF hs).length<=bF.length+hs.length
 | [],bF=>by simp [vJ]
 | h::r,bF=>by
  have:=iA r (gR bF h);have:=xI bF h;show (vJ (gR bF h) r).length<=_;rw [bV];omega
def Fl (cR a:List PySem.Str)(p:PySem.Str):(addW cR a p).length<=a.length+1:=by
 unfold addW;split
 .omega
 exact xI a p
theorem uM (cR:List PySem.Str):∀(ps bF:List PySem.Str),(jO cR bF ps).length<=bF.length+ps.length
 | [],bF=>by simp [jO]
 | p::r,bF=>by
  have:=uM cR r (addW cR bF p);have:=Fl cR bF p;show (jO cR (addW cR bF p) r).length<=_;rw [bV];omega
end M11
namespace gu
open PySem L2 M11
def jZ {bF:List (aN×V)}{as:List Str}(e:bF.map (·.1)=as.map Sum.inr)(h:Str){v:V}:(bP bF (Sum.inr h) v).map (·.1)=(gR as h).map Sum.inr:=by
 unfold gR;by_cases q:h∈as
 .rw [az q,yQ (by rw [e];exact cV.mpr q),e]
 rw [ay q,ir (by rw [e];exact λz=>q (cV.mp z)),e,aQ];rfl
theorem mU:∀(hs:List Str)(bF:List (aN×V)) (as:List Str),bF.map (·.1)=as.map Sum.inr->(cT (hs.map λh=>((Sum.inr h:aN),V.bl true)) bF).map (·.1)=(vJ as hs).map Sum.inr
 | [],bF,as,e=>e
 | h::r,bF,as,e=>by
  refine mU r (bP bF (Sum.inr h) (.bl true)) (gR as h) ?_;exact jZ e h
def keys_str {kvs:List (aN×V)}{zs:List Str}(e:kvs.map (·.1)=zs.map Sum.inr):(kvs.map λp=>kV p.1)=zs.map V.str:=by
 have e2:(kvs.map λp=>kV p.1)=(kvs.map (·.1)).map kV:=by rw [gZ];rfl
 rw [e2,e,gZ];rfl
section
def kT (K:aY)(H:Hp)(r:Addr)(ru:aB):Prop:=∃p,ba K H r [.str ru.1,.ref p]/\ba K H p (ru.2.map V.str)
def aS (K:aY)(H:Hp)(rs:List Addr)(aa:List aB):Prop:=Paired (λr ru=>kT K H r ru) rs aa
def aS.keep {H H':Hp}{rs:List Addr}{aa:List aB}(h:aS K H rs aa)(k:∀a xs,ba K H a xs->ba K H' a xs):aS K H' rs aa:=Paired.gS h λr ru ⟨p,a,b⟩=>⟨p,k _ _ a,k _ _ b⟩
def aS.same {H H':Hp}{rs:List Addr}{aa:List aB}(h:aS K H rs aa)(s:aC H H'):aS K H' rs aa:=h.keep λ_ _ z=>s.tup z
def aS.get {H:Hp}{rs:List Addr}{aa:List aB}(h:aS K H rs aa){i:Nat}{r:Addr}(e:rs[i]?=some r):∃ru,aa[i]?=some ru/\kT K H r ru:=by
 have l:=bK h;have li:=(bx.mp e).1;have e2:aa[i]?=some (aa[i]'∅):=dw ∅;obtain⟨x,e3,e4⟩:=Paired.at_ h i _ e2;rw [e] at e3;cases e3;exact⟨_,e2,e4⟩
def rE {H:Hp}{R D:Addr}{rs:List Addr}{aa:List aB}{σ:St}{Qp:Hp->Prop}(hR:aD K H R (rs.map V.ref))(cK:aS K H rs aa)(bM:aa.length<=1000)(hD:H D=none)
  (q:∀ts H2,aC H H2->H2 D=some (.lst (ts.map V.ref))->Paired (λt h=>ba K H2 t [.str h,.bl true]) ts (aa.map (·.1))->Qp H2) :
  ∃W:Nat->Nat->List V->St->Hp->Prop,(∃m,W 0 m [] (eM ["head","parts"] [] σ) (upd H D (.lst []))) /\
 ∀i m ys σ' H,W i m ys σ' H->((kW K R).stop i H/\Qp H)\/((kW K R).go i H/\∃m',m' < m/\∀x H',(kW K R).mi i H x H'->Cd K 2 (j4 (eJ 0) (j4 (eJ 1) E5)) x σ' H' λσ2 H2=>iM σ2 H2 λb H3 =>
  if b=true then sk (fZ (gF 0) (fZ (tC (.bl true)) pq)) σ2 H3 λy H4=>H4 D=some (.lst ys)/\ys.length < sizeLine/\W (i+1) m' (ys++[y]) σ2 (upd H4 D (.lst (ys++[y]))) else W (i+1) m' ys σ2 H3):=by
 have ll:=bK cK;refine bq (xs:=rs.map V.ref) (λi ys σ2 H2=>∃ts:List Addr,ys=ts.map V.ref/\ts.length=i/\Paired (λt h=>ba K H2 t [.str h,.bl true]) ts ((aa.take i).map (·.1))/\(∃y0 y1,σ2=[y0,y1])/\aC H H2/\H2 D=some (.lst ys))
  ⟨[],rfl,rfl,.nil,⟨none,none,rfl⟩,ae hD _,ab⟩ (λi ys σ2 H2 _ h=>?_) (λi x ys σ2 H2 ex h=>?_) (λys σ2 H2 h=>?_)
 .obtain⟨_,_,_,_,_,sm,_⟩:=h;exact sm.seq hR
 .obtain⟨ts,rfl,ht,hp,⟨y0,y1,rfl⟩,sm,hd⟩:=h;rw [aZ] at ex;obtain⟨r,er,rfl⟩:=b_.mp ex;obtain⟨ru,e1,p,v1,v2⟩:=cK.get er;have li:=(bx.mp e1).1;refine⟨r,_,rfl,sm.tup v1,rfl,_,_,rfl,_,_,rfl,rfl,?_⟩;refine sD ?_;refine⟨_,rfl,lV,λt ij=>⟨?_,bo (by rw [av];omega),ts++[t],?_,?_,?_,⟨_,_,rfl⟩,?_,ab⟩⟩
  .rw [ai (aq hd ij)];exact hd
  .rw [aQ];rfl
  .rw [bW,ht];rfl
  .rw [cY,e1,aQ];have gY:upd H2 t (.tup [.str ru.1,.bl true]) D=some (.lst (ts.map V.ref)):=by rw [ai (aq hd ij)];exact hd
   exact fN (Paired.gS hp λt' h' z=>aR gY ((ae ij _).tup z)) (aR gY (ba.of ab))
  intro b o hb;rw [ai (λz=>by rw [z,hD] at hb;cases hb)];exact ae ij _ _ _ (sm b o hb)
 obtain⟨ts,rfl,ht,hp,_,sm,hd⟩:=h;rw [av,ll,dB] at hp;exact q ts H2 sm hd hp
def j8 (K:aY):Sp:=λvs H Q _=>∃(R:Addr)(rs:List Addr)(aa:List aB),vs=[.ref R]/\aD K H R (rs.map V.ref)/\aS K H rs aa/\aa.length<=1000 /\
 ∀D H',H D=none->aC H H'->H' D=some (.lst ((vJ [] (aa.map (·.1))).map V.str))->Q (.ref D) H'
def Gy:aK ["rules"] ["rules"] (ax yG):=iI rfl rfl rfl rfl nofun
def Ef (F:ig K "heads_of" "heads_of" yG f fd)(T:Txt mg):bS P w K mg base fu 1 f fd ["rules"] (j8 K):=by
 refine F.ok Gy (λvs H Q E h=>?_) (λeB A outer s H vs Q E hr h=>?_)
 .obtain⟨R,rs,aa,rfl,_⟩:=h;rfl
 obtain⟨R,rs,aa,rfl,hR,cK,bM,q⟩:=h;refine⟨_,ar (bf (a8 (lS rfl) rfl T.lst fI (af (a8 (dY rfl) rfl T.vV fJ (af
  (bL ["head","parts"] [] rfl (a9 (pv 0)) (a_ rfl rfl) nofun rfl nofun
   (λ_ _ _ _ _=>je (n:=2) K rfl (aF (au (i:=0) (show (["head","parts"]:List Str).Nodup by decide +kernel) rfl (bJ rfl)) (aF (au (i:=1) (show (["head","parts"]:List Str).Nodup by decide +kernel) rfl (bJ rfl)) cy))) (λ_ _ _ _ _=>cb)
   (λ_ _ _ _ _=>bY (af (pv 0) (af eV aj)))) aj)) aj))),?_⟩
 dsimp only [oH];refine⟨_,rfl,R,rfl,⟨_,hR⟩,λD hD=>rE hR cK bM hD λts H2 sm hd hp=>?_⟩;have kp:Paired (λt (kv:aN×V)=>ba K H2 t [kV kv.1,kv.2]) ts ((aa.map (·.1)).map λh=>((Sum.inr h:aN),V.bl true)):=cQ hp λ_ _ z=>z;refine⟨D,ts,_,rfl,hd,kp,λd hd2=>?_⟩;refine⟨d,_,rfl,ab,λD2 ic=>?_⟩;rw [keys_str (mU (aa.map (·.1)) [] [] rfl)];have nd:D2≠d:=λz=>by rw [z,ab] at ic;cases ic
 exact q D2 _ (sm.free (by rw [ai nd] at ic;exact ic)) (sm.trans ((ae hd2 _).trans (ae ic _))) ab
theorem iX:∀(aa:List aB) (n:Nat),aa.length<=n->(∀ru∈aa,ru.2.length<=8)->(aa.flatMap (·.2)).length<=8 * n
 | [],n,_,_=>by simp
 | ru::r,n,hl,h=>by
  rw [bV] at hl;have:=iX r (n - 1) ∅ λx hx=>h x (cJ _ hx);have:=h ru bG;rw [List.flatMap_cons,bW];omega
def hd (aa:List aB):List Str:=vJ [] (aa.map (·.1))
def An (K:aY):Sp:=λvs H Q _=>∃(R:Addr)(rs:List Addr)(aa:List aB),vs=[.ref R]/\aD K H R (rs.map V.ref)/\aS K H rs aa/\aa.length<=1000/\(∀ru∈aa,ru.2.length<=8) /\
 ∀D H',H D=none->aC H H'->H' D=some (.lst ((jO (hd aa) [] (aa.flatMap (·.2))).map V.str))->Q (.ref D) H'
def j9:aK ["rules","heads","words","head","parts","part"] ["rules"] (ax yx):=iI rfl rfl rfl rfl nofun
def DW (F:ig K "words_in" "words_in" yx f fd)(T:Txt mg):bS P w K mg base fu 1 f fd ["rules"] (An K):=by
 refine F.ok j9 (λvs H Q E h=>?_) (λeB A outer s H vs Q E hr h=>?_)
 .obtain⟨R,rs,aa,rfl,_⟩:=h;rfl
 obtain⟨R,rs,aa,rfl,hR,cK,bM,h8,q⟩:=h;have hu:=gp hr;refine⟨_,ak (aE (i:=1) j9.nd rfl (bJ rfl) (a8 (dY rfl) rfl T.vV fJ (af
  (bL ["head","parts"] [] rfl (a9 (pv 0)) (a_ rfl rfl) nofun rfl nofun
   (λ_ _ _ _ _=>je (n:=2) K rfl (aF (au (i:=0) (show (["head","parts"]:List Str).Nodup by decide +kernel) rfl (bJ rfl)) (aF (au (i:=1) (show (["head","parts"]:List Str).Nodup by decide +kernel) rfl (bJ rfl)) cy))) (λ_ _ _ _ _=>cb)
   (λ_ _ _ _ _=>bY (af (pv 0) (af eV aj)))) aj)))
  (ak (aE (i:=2) j9.nd rfl (bJ rfl) gi)
  (ak (cw cP rfl (a9 (pv 0)) (eU rfl (aF (au (i:=3) j9.nd rfl (bJ rfl)) (aF (au (i:=4) j9.nd rfl (bJ rfl)) cy)))
   (ar (cw cP rfl (iG (pv 4)) (au (i:=5) j9.nd rfl (bJ rfl))
    (ar (cN (fq (dP hu (pv 5) (pv 1))) (ar (iu hu (pv 2) (pv 5) eV rfl)) bC)))))
  (ar (bf (a8 (lS rfl) rfl T.lst fI (af (pv 2) aj)))))),?_⟩
 nofun
 refine⟨_,rfl,R,rfl,⟨_,hR⟩,λD hD=>rE hR cK bM hD λts H2 sm hd2 hp=>?_⟩;have kp:Paired (λt (kv:aN×V)=>ba K H2 t [kV kv.1,kv.2]) ts ((aa.map (·.1)).map λh=>((Sum.inr h:aN),V.bl true)):=cQ hp λ_ _ z=>z;refine⟨D,ts,_,rfl,hd2,kp,λd hdd=>?_⟩;have II:(cT ((aa.map (·.1)).map λh=>((Sum.inr h:aN),V.bl true)) []).map (·.1)=(hd aa).map Sum.inr:=mU (aa.map (·.1)) [] [] rfl;generalize cT ((aa.map (·.1)).map λh=>((Sum.inr h:aN),V.bl true)) []=kH at II ⊢;have Br:=sm.trans (ae hdd (.dK kH));have gY:upd H2 d (.dK kH) d=some (.dK kH):=ab;generalize upd H2 d (.dK kH)=H3 at Br gY;intro e he;have hde:∀o,upd H3 e o d=some (.dK kH):=λo=>by rw [ai (aq gY he)];exact gY
 have AD:∀o,aC H (upd H3 e o):=λo=>Br.trans (ae he o);have ll:=bK cK
 let z9:z_:=λi σ H5=>∃(kvs:List (aN×V))(y3 y4 y5:Option V),σ=[aG R,aG d,aG e,y3,y4,y5]/\H5=upd H3 e (.dK kvs) /\
  kvs.map (·.1)=(jO (hd aa) [] ((aa.take i).flatMap (·.2))).map Sum.inr
 refine⟨_,rfl,R,rfl,⟨_,(AD _).seq hR⟩,eZ (xs:=rs.map V.ref) z9 ⟨[],none,none,none,rfl,rfl,rfl⟩ ?_ ?_ ?_⟩
 .rintro i σ H5 _ ⟨kvs,y3,y4,y5,rfl,rfl,_⟩;exact(AD _).seq hR
 .rintro i x σ H5 ex ⟨kvs,y3,y4,y5,rfl,rfl,hk⟩
  ac_nf0
  rw [aZ] at ex;obtain⟨r,er,rfl⟩:=b_.mp ex;obtain⟨ru,e1,p,v1,v2⟩:=cK.get er;have li:=(bx.mp e1).1;have Mh:=h8 ru (cv e1);have eT:(aa.take (i+1)).flatMap (·.2)=(aa.take i).flatMap (·.2)++ru.2:=by
   rw [cY,e1,List.flatMap_append];simp
  have lA:((aa.take i).flatMap (·.2)).length<=8 * i:=iX (aa.take i) i (by rw [cX];omega) λru jj=>h8 ru (gC jj);refine⟨r,_,rfl,(AD _).tup v1,rfl,_,_,rfl,_,_,rfl,rfl,?_⟩
  let Ib:z_:=λj σ H6=>∃(kvs:List (aN×V))(y5:Option V),σ=[aG R,aG d,aG e,some (.str ru.1),aG p,y5]/\H6=upd H3 e (.dK kvs) /\
   kvs.map (·.1)=(jO (hd aa) [] ((aa.take i).flatMap (·.2)++ru.2.take j)).map Sum.inr
  refine⟨_,rfl,p,rfl,⟨_,(AD _).tup v2⟩,vG (xs:=ru.2.map V.str) Ib ⟨kvs,_,rfl,rfl,by rw [List.take_zero,fh];exact hk⟩ ?_ ?_ ?_⟩
  .rintro j σ H6 _ ⟨kvs,y5,rfl,rfl,_⟩;exact(AD _).tup v2
  .rintro j x σ H6 Fb ⟨kvs,y5,rfl,rfl,zH⟩
   ac_nf0
   rw [aZ] at Fb;obtain⟨z,ez,rfl⟩:=b_.mp Fb;have lj:=(bx.mp ez).1;have eS:jO (hd aa) [] ((aa.take i).flatMap (·.2)++ru.2.take (j+1))=addW (hd aa) (jO (hd aa) [] ((aa.take i).flatMap (·.2)++ru.2.take j)) z:=by
    rw [cY,ez,<-gA];exact List.foldl_append
   have lk:kvs.length<=8 * i+8:=by
    have h1:kvs.length=(jO (hd aa) [] ((aa.take i).flatMap (·.2)++ru.2.take j)).length:=by
     have:=congrArg List.length zH;rw [av,av] at this;exact this
    have h2:=uM (hd aa) ((aa.take i).flatMap (·.2)++ru.2.take j) [];rw [bW,cX] at h2;simp only [jq] at h2;omega
   have mem:(bu kH (Sum.inr z)).isSome=true↔z∈hd aa:=by rw [eI,II];exact cV
   refine⟨_,rfl,_,rfl,d,_,rfl,cE.k (k:=Sum.inr z) (hde _),_,rfl,?_⟩;refine dA (λc=>?_) (λc=>?_)
   .have nm:z∉hd aa:=λh=>by rw [mem.mpr h] at c;exact absurd c nofun
    refine⟨_,rfl,_,rfl,e,_,rfl,oO.k (k:=Sum.inr z) ab (bo ∅),?_⟩;refine⟨bP kvs (Sum.inr z) (.bl true),_,rfl,by rw [i8],?_⟩;rw [eS];unfold addW;rw [ay nm];exact jZ zH z
   have im:z∈hd aa:=mem.mp (by
    cases h:(bu kH (Sum.inr z)).isSome with
    | true=>rfl
    | false=>exact absurd (by rw [h];rfl) c)
   refine⟨kvs,_,rfl,rfl,?_⟩;rw [eS];unfold addW;rw [az im];exact zH
  rintro σ H6 ⟨kvs,y5,rfl,rfl,zH⟩;rw [av,dB,<-eT] at zH;exact⟨kvs,_,_,_,rfl,rfl,zH⟩
 rintro σ H5 ⟨kvs,y3,y4,y5,rfl,rfl,hk⟩;rw [av,ll,dB] at hk;refine⟨_,rfl,e,_,rfl,ab,λD2 ic=>?_⟩;rw [keys_str hk];exact q D2 _ ((AD _).free ic) ((AD _).trans (ae ic _)) ab
end
end gu
namespace L2
open PySem
section
variable {K:aY}{a D:Addr}{xs:List V}{ts:List Str}{js:List (Nat×Str)}{g:TG}{tif:TT}{te:TE}{R:Hp->Prop}{σ:St}{H:Hp}
def iZ (Pv:Nat->List V->St->Hp->Prop)(h0:Pv 0 [] (eM ts js σ) (upd H D (.lst [])))(hl:∀i ys σ H,i<=xs.length->Pv i ys σ H->ba K H a xs)
  (hs:∀i x ys σ H,xs[i]?=some x->Pv i ys σ H->g x σ H λσ2 H2=>tif σ2 H2 λb H3=>if b=true then te σ2 H3 λy H4=>H4 D=some (.lst ys)/\ys.length < sizeLine/\Pv (i+1) (ys++[y]) σ2 (upd H4 D (.lst (ys++[y]))) else Pv (i+1) ys σ2 H3)
  (hd:∀ys σ H,Pv xs.length ys σ H->R H) :
  ∃W:Nat->Nat->List V->St->Hp->Prop,(∃m,W 0 m [] (eM ts js σ) (upd H D (.lst []))) /\
 ∀i m ys σ' H,W i m ys σ' H->((rR K a).stop i H/\R H)\/((rR K a).go i H/\∃m',m' < m/\∀x H',(rR K a).mi i H x H'->g x σ' H' λσ2 H2=>tif σ2 H2 λb H3 =>
  if b=true then te σ2 H3 λy H4=>H4 D=some (.lst ys)/\ys.length < sizeLine/\W (i+1) m' (ys++[y]) σ2 (upd H4 D (.lst (ys++[y]))) else W (i+1) m' ys σ2 H3):=by
 refine⟨λi m ys σ H=>m=xs.length - i/\i<=xs.length/\Pv i ys σ H,⟨xs.length,by simp,dD _,h0⟩,?_⟩;rintro i m ys σ' H ⟨rfl,hi,p⟩;have q:=hl i ys σ' H hi p;by_cases gT:i < xs.length
 .refine .inr ⟨⟨xs,xs[i],q,by simp [gT]⟩,xs.length - (i+1),∅,λx H' y=>?_⟩;obtain⟨e,y⟩:=y;subst e;have z:=hs i x ys σ' _ (y xs q) p;have h1:(i+1<=xs.length)=True:=eq_true gT;simp only [h1,true_and];exact z
 have e:i=xs.length:=by omega
 subst e;exact .inl ⟨⟨xs,q,aL _⟩,hd ys σ' H p⟩
def xC (Pv:Nat->List V->St->Hp->Prop)(h0:Pv 0 [] (eM ts js σ) (upd H D (.lst [])))(hl:∀i ys σ H,i<=xs.length->Pv i ys σ H->ba K H a xs)
  (hs:∀i x ys σ H t,xs[i]?=some x->Pv i ys σ H->H t=none->g (.ref t) σ (upd H t (.tup [.int (i:Int),x])) λσ2 H2=>tif σ2 H2 λb H3=>if b=true then te σ2 H3 λy H4=>H4 D=some (.lst ys)/\ys.length < sizeLine/\Pv (i+1) (ys++[y]) σ2 (upd H4 D (.lst (ys++[y]))) else Pv (i+1) ys σ2 H3)
  (hd:∀ys σ H,Pv xs.length ys σ H->R H) :
  ∃W:Nat->Nat->List V->St->Hp->Prop,(∃m,W 0 m [] (eM ts js σ) (upd H D (.lst []))) /\
 ∀i m ys σ' H,W i m ys σ' H->((rS K a).stop i H/\R H)\/((rS K a).go i H/\∃m',m' < m/\∀x H',(rS K a).mi i H x H'->g x σ' H' λσ2 H2=>tif σ2 H2 λb H3 =>
  if b=true then te σ2 H3 λy H4=>H4 D=some (.lst ys)/\ys.length < sizeLine/\W (i+1) m' (ys++[y]) σ2 (upd H4 D (.lst (ys++[y]))) else W (i+1) m' ys σ2 H3):=by
 refine⟨λi m ys σ H=>m=xs.length - i/\i<=xs.length/\Pv i ys σ H,⟨xs.length,by simp,dD _,h0⟩,?_⟩;rintro i m ys σ' H ⟨rfl,hi,p⟩;have q:=hl i ys σ' H hi p;by_cases gT:i < xs.length
 .refine .inr ⟨⟨xs,xs[i],q,by simp [gT]⟩,xs.length - (i+1),∅,λx H' y=>?_⟩;obtain⟨t,y0,rfl,ht,rfl,y⟩:=y;have z:=hs i y0 ys σ' _ t (y xs q) p ht;have h1:(i+1<=xs.length)=True:=eq_true gT;simp only [h1,true_and];exact z
 have e:i=xs.length:=by omega
 subst e;exact .inl ⟨⟨xs,q,aL _⟩,hd ys σ' H p⟩
end
def j5 {K:aY}{a:Addr}{xs:List V}{g:TG}{tb:TS}{D:Ends}{σ:St}{H:Hp}(Pv:Nat->St->Hp->Prop)(h0:Pv 0 σ H)(hl:∀i σ H,i<=xs.length->Pv i σ H->aD K H a xs)
  (hs:∀i x σ H t,xs[i]?=some x->Pv i σ H->H t=none->g (.ref t) σ (upd H t (.tup [.int (i:Int),x])) λσ2 H2=>tb { D with nx:=Pv (i+1),ct:=Pv (i+1),bk:=D.nx } σ2 H2)(hd:∀σ H,Pv xs.length σ H->D.nx σ H) :
  ∃W:Nat->Nat->St->Hp->Prop,(∃m,W 0 m σ H)/\∀i m σ H,W i m σ H ->
   ((Pt K a).stop i H/\D.nx σ H)\/((Pt K a).go i H/\∃N:St->Hp->Prop,(∀σ' H',N σ' H'->∃m',m' < m/\W (i+1) m' σ' H')/\∀x H',(Pt K a).mi i H x H'->g x σ H' λσ2 H2=>tb { D with nx:=N,ct:=N,bk:=D.nx } σ2 H2):=by
 refine⟨λi m σ H=>m=xs.length - i/\i<=xs.length/\Pv i σ H,⟨xs.length,by simp,dD _,h0⟩,?_⟩;rintro i m σ H ⟨rfl,hi,p⟩;have q:=hl i σ H hi p;by_cases gT:i < xs.length
 .refine .inr ⟨⟨xs,xs[i],q,by simp [gT]⟩,Pv (i+1),λσ' H' p'=>⟨xs.length - (i+1),∅,rfl,gT,p'⟩,λx H' y=>?_⟩;obtain⟨t,y0,rfl,ht,rfl,y⟩:=y;exact hs i y0 σ _ t (y xs q) p ht
 have e:i=xs.length:=by omega
 subst e;exact .inl ⟨⟨xs,q,aL _⟩,hd σ H p⟩
def oA {K:aY}{a:Addr}{xs:List V}{g:TG}{tb:TS}{D:Ends}{σ:St}{H:Hp}(Pv:Nat->St->Hp->Prop)(h0:Pv 0 σ H)(hl:∀i σ H,i<=xs.length->Pv i σ H->ba K H a xs)
  (hs:∀i x σ H t,xs[i]?=some x->Pv i σ H->H t=none->g (.ref t) σ (upd H t (.tup [.int (i:Int),x])) λσ2 H2=>tb { D with nx:=Pv (i+1),ct:=Pv (i+1),bk:=D.nx } σ2 H2)(hd:∀σ H,Pv xs.length σ H->D.nx σ H) :
  ∃W:Nat->Nat->St->Hp->Prop,(∃m,W 0 m σ H)/\∀i m σ H,W i m σ H ->
   ((rS K a).stop i H/\D.nx σ H)\/((rS K a).go i H/\∃N:St->Hp->Prop,(∀σ' H',N σ' H'->∃m',m' < m/\W (i+1) m' σ' H')/\∀x H',(rS K a).mi i H x H'->g x σ H' λσ2 H2=>tb { D with nx:=N,ct:=N,bk:=D.nx } σ2 H2):=by
 refine⟨λi m σ H=>m=xs.length - i/\i<=xs.length/\Pv i σ H,⟨xs.length,by simp,dD _,h0⟩,?_⟩;rintro i m σ H ⟨rfl,hi,p⟩;have q:=hl i σ H hi p;by_cases gT:i < xs.length
 .refine .inr ⟨⟨xs,xs[i],q,by simp [gT]⟩,Pv (i+1),λσ' H' p'=>⟨xs.length - (i+1),∅,rfl,gT,p'⟩,λx H' y=>?_⟩;obtain⟨t,y0,rfl,ht,rfl,y⟩:=y;exact hs i y0 σ _ t (y xs q) p ht
 have e:i=xs.length:=by omega
 subst e;exact .inl ⟨⟨xs,q,aL _⟩,hd σ H p⟩
section
variable {prog:Program}{w:World}{K:Type} [DecidableEq K] {knd:KeyKind prog w K}{A:Around}{E:Value->Shared->Prop}
def sF {s:Shared}{d l:Addr}{items:Array Value}{n:Nat}{kvs more:List (K×Value)}{Q:Value->Shared->Prop}(hh:A.handled=none)(sh:s.heap.DictOf knd d kvs)(hx:s.heap.get? l=some { cls:=.type "list",data:=.seq items n })
  (hi:items.size=more.length)(hp:∀(m:Nat) kv,more[m]?=some kv->∃u,items[m]?=some u/\lU knd s.heap u kv)(hz:kvs.length+more.length<=sizeLine)
  (h:∀h' t',h'.DictOf knd d (more.foldl (λa p=>stored a p.1 p.2) kvs)->(∀b o,b≠d->s.heap.get? b=some o->h'.get? b=some o)->Q .none { s with heap:=h',toks:=t' }) :
  wpAny (model prog w) A (call (.builtin "dict.update") [.ref d,.ref l]) Q E s:=by
 refine jH (ql yd.plain PySem.F.entry_dict_update (yd.check _ _ _ _ _ _ _ _ sh.typeIs (PySem.F.args_dict_update_2 _ _) ?_));unfold Builtin.«dict.update»;refine aA ?_;unfold Builtin.Dict.selfAndRest;refine aA (wpAny_notOrdered_dict sh.typeIs ?_);show wpAny _ _ (pure (d,[Value.ref l])) _ _ s;refine bj ?_;show wpAny _ _ (Builtin.Dict.updateFrom "dict.update" d (.ref l) [] .none) _ _ s;unfold Builtin.Dict.updateFrom;refine aA (nF (T := "list") ⟨_,hx,rfl⟩ ?_);rw [az yn];refine aA (oq hx hh λh1 t1 k1=>?_);refine aA (wpAny_rule ?_);have l1:=k1 _ _ hx;refine aA (kI ⟨_,l1,rfl,_,rfl⟩ ?_);have k2:∀b o,s.heap.get? b=some o->(h1.push { cls:=.type "list_iterator",data:=.fields #[.ref l,.int 0 0] }).get? b=some o:=λb o q=>bZ _ (k1 _ _ q);refine bj ⟨nH e_ _,Fe (knd:=knd) (A:=A) (l:=l) (items:=items) hh more 0 _ kvs _ _ (by rw [hi,nI]) ?_ ⟨_,de _ rfl,rfl,rfl⟩ ⟨_,k2 _ _ hx,rfl,n,rfl⟩ (λm kv e=>?_) hz λh' t' hd k3=>?_⟩
 .obtain⟨o,es,ep,q,r⟩:=sh;exact⟨o,es,ep,k2 _ _ q,r⟩
 .obtain⟨u,e1,e2⟩:=hp m kv e;exact⟨u,by rw [nI];exact e1,e2.keep λb o _ q=>k2 b o q⟩
 exact h h' t' hd λb o n q=>k3 b o n (bT (bc (k1 _ _ q))) (k2 b o q)
end
section
variable {X:Cx}{o e:Expr}{apos fE:Pos}{td ty:TE}
def M8 (K:aY)(td ty:TE):TE:=λσ H Q=>td σ H λx H1=>∃a,x=.ref a/\QV H1 a/\ty σ H1 λy H2=>∃l ts kvs more,y=.ref l/\H2 a=some (.dK kvs)/\H2 l=some (.lst (ts.map V.ref)) /\
 Paired (λt kv=>ba K H2 t [kV kv.1,kv.2]) ts more/\kvs.length+more.length<=sizeLine/\Q .d5 (upd H2 a (.dK (cT more kvs)))
def G9 (hc:X.calm=true)(ho:PE X o td)(he:PE X e ty)(m:M1 X o "update" apos e fE):PE X (.Call (.Attribute o "update" apos) [e] [] fE) (M8 X.K td ty):=by
 intro ah s σ H Q I h;refine wpAny_Call_method m.base m.Qv m.line ya yd PySem.F.type_dict_update (cS (ho ah s σ H _ I h) λu s1 bh=>?_);obtain⟨x,H1,I1,rx,a,ex,d,q1⟩:=bh;subst ex;obtain rfl:u=Value.ref a:=rx;obtain⟨t1,t2,_⟩:=zB I1 d;refine⟨t1,t2,?_⟩;rw [m.trees];refine uD rfl (uw (nS (cS (he ah s1 σ H1 _ I1 q1) λiv s2 bh=>?_)));obtain⟨y,H2,I2,ry,l,ts,kvs,more,ey,ea,el,p,hz,q2⟩:=bh;refine Calls.spliced_nil ?_;subst ey;cases (show iv=Value.ref l from ry);obtain⟨z,WW,vs,rel,dd⟩:=xn I2.bU ea;obtain⟨z2,aJ,n,rv,hl⟩:=(show cC X.prog X.w H2 s2.heap l (.lst _) from I2.bU l _ el);obtain⟨ms,r1,r2⟩:=pairs_at I2 p rv;have l1:=bK r2;have l2:=r1.length;have l3:=bK p;refine sF (I2.ok.hd hc) dd hl (by simpa using l1) (λm kv em=>?_) (by rw [<-rel.length,<-l2];exact hz) λh' t' hd kk=>?_
 .obtain⟨u,e1,e2⟩:=Paired.at_ r2 m kv em;exact⟨u,by simpa using e1,e2⟩
 have hn:(cT more kvs).length<=sizeLine:=dI (rj more kvs) hz;have he:∃q,h'.get? a=some q:=let ⟨q,_,_,hq,_⟩:=hd;⟨q,hq⟩;exact⟨.d5,_,I2.write (x:=a) (e:=a) (by rw [ea];exact True.intro) (.inl rfl) (λb q hb z=>kk b q hb z) he (rq hn WW (rh r1 rel) hd),rfl,q2⟩
def ue {X:Cx}:eK X (.builtin "len") (λxs H Q=>∃a kvs,xs=[.ref a]/\H a=some (.dK kvs)/\Q (.int kvs.length) H):=by
 intro ah s σ H xs us Q I r h;obtain⟨a,kvs,rfl,e,q⟩:=h;obtain⟨u,rfl,rx⟩:=vals1 r;cases (show u=Value.ref a from rx);exact O8 I (.inl e) λt s' I'=>⟨.int _,H,I',⟨_,rfl⟩,q⟩
end
theorem wY:∀{us:List Value}{ns:List Int},PyProof.Rows.IntsAre us ns->∀ys:List (Int×Tok),us=ys.map (λp=>Value.int p.1 p.2)->ys.map (·.1)=ns
 | _,_,.nil,ys,e=>by
  cases ys with
  | nil=>rfl
  | cons _ _=>cases e
 | _,_,.cons n t h,ys,e=>by
  cases ys with
  | nil=>cases e
  | cons y r =>
   rw [br] at e;injection e with e1 e2;injection e1 with e3 e4;rw [br,wY h r e2,e3]
def ua {X:Cx}(hc:X.calm=true):eK X (.builtin "sum") (λxs H Q=>∃a ns,xs=[.ref a]/\aD X.K H a (List.map V.int ns)/\Q (.int ns.sum) H):=by
 intro ah s σ H xs us Q I r h;obtain⟨a,ns,rfl,hq,q⟩:=h;obtain⟨u,rfl,rx⟩:=vals1 r;cases rx;obtain⟨aJ,rv,pl,hz⟩:=I.list hq;have hi:=intsAre_of rv;have pB:AllInts aJ.toArray:=hi.allInts;obtain⟨xs,e⟩:=pB.items;have hl:=pl.isList;rw [e] at hl;refine sum_intListG (I.ok.hd hc) hl λh' tk t' hk=>⟨.int _,H,I.kept hk,⟨_,rfl⟩,?_⟩;have e5:xs.toList.map (·.1)=ns:=wY hi xs.toList (by
  have:=congrArg Array.toList e;simpa [intItems] using this)
 have e6:preSum (numAt xs) xs.size=ns.sum:=by
  rw [preSum_eq,e5,oV (by rw [<-e5];simp)]
 rw [e6];exact q
open PySem PySem.Spec PyProof.Rows
def Lk (o:Obj):Nat:=match o.data with
 | .dict _ ep=>ep
 | _=>0
def Pu (d:Addr)(o:Obj)(kvs:List (aN×V)):It :=
 ⟨λi H=>H d=some (.jD o (.dK kvs))/\i < kvs.length,λi H x H'=>H'=H/\∃kv,kvs[i]?=some kv/\x=kV kv.1,λi H=>H d=some (.jD o (.dK kvs))/\kvs.length<=i⟩
def zP {X:Cx}{ah:List (Addr×Obj)}{σ:St}{H:Hp}{s:Shared}{d:Addr}{o:Obj}{kvs:List (aN×V)}(I:Inv X ah σ H s)(e:H d=some (.jD o (.dK kvs))) :
  (d == sysModules)=false/\∃vs,KV kvs vs/\s.heap.DictAt (a7 X.prog X.w) d vs (Lk o):=by
 obtain⟨ho,hz,hs,vs,r,o',es,ep,h1,h2,h3,h4⟩:=(show cC X.prog X.w H s.heap d (.jD o (.dK kvs)) from I.bU d _ e);rw [ho] at h1;cases h1;refine⟨hs,vs,r,o,es,ho,h2,?_,h4⟩;unfold Lk;rw [h3]
def Bo {P:Program}{w:World}{K:aY}{tg:Expr}(d it:Addr)(o:Obj)(kvs:List (aN×V)):Turn P w K tg (Pu d o kvs) [it] it (λi h=>h.IsKeyIter it d i kvs.length (Lk o)) where
 mem:=by simp
 obj:=λi h st b hb=>by
  have e:b=it:=by simpa using hb
  subst e;obtain⟨o,e,c,d⟩:=st;exact⟨o,e,λv z=>by rw [d] at z;cases z⟩
 keep:=λi h h' st k=>let ⟨o,e,r⟩:=st;⟨o,k it (by simp) o e,r⟩
 item:=by
  intro X hP hw hK hc i ah s σ H E I hf st hg;subst hP hw hK;obtain⟨hq,hi⟩:=hg;obtain⟨hs,vs,r,da⟩:=zP I hq;have l:=r.length;obtain⟨kv,QA⟩:∃kv,kvs[i]?=some kv:=⟨kvs[i],dw hi⟩;obtain⟨q,eq⟩:∃q,vs[i]?=some q:=⟨vs[i]'∅,dw ∅⟩;have ek:kv.1=q.1:=by
   have:=congrArg (λl:List aN=>l[i]?) r.keys;simp only [aZ,QA,eq] at this;exact g6 this
  obtain⟨f0,f1,f2,f3,f4,f5⟩:=hf it (by simp);rw [l] at st;refine wpAny_pyNext_dict_item (k:=q.1) (v:=q.2) st da eq λkey h' hk vT sb=>?_;have I1:Inv X ah σ H { s with heap:=h' }:=I.turned (t':=s.toks) (λb o hb e=>(sb.2 b hb).trans e) f0 f1 f3 f4 f5;obtain⟨o2,e,c,dd⟩:=id vT;rw [<-l] at vT;exact⟨key,rfl,AZ (s:={ s with heap:=h' }) e c dd nofun ⟨kV kv.1,H,I1,by rw [ek];exact IM hk,⟨rfl,kv,QA,rfl⟩,vT,λb hb=>(hf b hb).1⟩⟩
 done:=by
  intro X hP hw hK hc i ah s σ H E I hf st hg;subst hP hw hK;obtain⟨hq,hi⟩:=hg;obtain⟨hs,vs,r,da⟩:=zP I hq;have l:=r.length;obtain⟨f0,f1,f2,f3,f4,f5⟩:=hf it (by simp);rw [l] at st;exact wpAny_pyNext_dict_end (I.ok.hd hc) st da (List.getElem?_eq_none ∅) λh' eb=>⟨rfl,I.turned (t':=s.toks) (λb o hb e=>eb b o hb e) f0 f1 f3 f4 f5⟩
 self:=λ_ _ _ _ _ st h=>wpAny_pyIter_keyiter st h
def N3 (tl:TE):TI:=λσ H R=>tl σ H λx H1=>∃d kvs,x=.ref d/\H1 d=some (.dK kvs)/\∀o,R (Pu d o kvs) (upd H1 d (.jD o (.dK kvs)))
def AL {X:Cx}{tg l:Expr}{tl:TE}(hl:PE X l tl):PI X tg l (N3 tl):=by
 intro ah s σ H R I h;refine cS (hl ah s σ H _ I h) λv s1 bh=>?_;obtain⟨x,H1,I1,r1,q1⟩:=bh;obtain⟨d,kvs,e,hd,q⟩:=q1;subst e;cases r1;obtain⟨hz,hs,vs,r,o,es,ep,h1,h2⟩:=(show cC X.prog X.w H1 s1.heap d (.dK kvs) from I1.bU d _ hd);have I2:Inv X ah σ (upd H1 d (.jD o (.dK kvs))) { s1 with heap:=s1.heap,toks:=s1.toks }:=I1.write (x:=d) (e:=d) (by rw [hd];exact True.intro) (.inl rfl) (λb u _ e=>e) ⟨o,h1⟩ ⟨h1,hz,hs,vs,r,o,es,ep,h1,h2⟩;have e2:upd H1 d (.jD o (.dK kvs)) d=some (.jD o (.dK kvs)):=ab;obtain⟨_,VX,r2,da⟩:=zP I2 e2;have q2:=q o;generalize upd H1 d (.jD o (.dK kvs))=H2 at I2 e2 q2;refine wpAny_pyIter_dict hs da ?_;refine⟨s1.heap.objs.size,[s1.heap.objs.size],_,_,H2,rfl,I2.kept (t':=s1.toks) λb o e=>bZ _ e,Bo d _ o kvs,⟨_,de _ rfl,rfl,by rw [r2.length];rfl⟩,λb hb=>?_,q2⟩;have e:b=s1.heap.objs.size:=by simpa using hb
 subst e;exact I2.ky (aL _) (I2.bU.fresh (aL _))
section
variable {d D:Addr}{o:Obj}{kvs:List (aN×V)}{ts:List Str}{js:List (Nat×Str)}{g:TG}{tif:TT}{te:TE}{R:Hp->Prop}{σ:St}{H:Hp}
def rG (Pv:Nat->List V->St->Hp->Prop)(h0:Pv 0 [] (eM ts js σ) (upd H D (.lst [])))(hl:∀i ys σ H,i<=kvs.length->Pv i ys σ H->H d=some (.jD o (.dK kvs)))
  (hs:∀i kv ys σ H,kvs[i]?=some kv->Pv i ys σ H->g (kV kv.1) σ H λσ2 H2=>tif σ2 H2 λb H3=>if b=true then te σ2 H3 λy H4=>H4 D=some (.lst ys)/\ys.length < sizeLine/\Pv (i+1) (ys++[y]) σ2 (upd H4 D (.lst (ys++[y]))) else Pv (i+1) ys σ2 H3)
  (hd:∀ys σ H,Pv kvs.length ys σ H->R H) :
  ∃W:Nat->Nat->List V->St->Hp->Prop,(∃m,W 0 m [] (eM ts js σ) (upd H D (.lst []))) /\
 ∀i m ys σ' H,W i m ys σ' H->((Pu d o kvs).stop i H/\R H)\/((Pu d o kvs).go i H/\∃m',m' < m/\∀x H',(Pu d o kvs).mi i H x H'->g x σ' H' λσ2 H2=>tif σ2 H2 λb H3 =>
  if b=true then te σ2 H3 λy H4=>H4 D=some (.lst ys)/\ys.length < sizeLine/\W (i+1) m' (ys++[y]) σ2 (upd H4 D (.lst (ys++[y]))) else W (i+1) m' ys σ2 H3):=by
 refine⟨λi m ys σ H=>m=kvs.length - i/\i<=kvs.length/\Pv i ys σ H,⟨kvs.length,by simp,dD _,h0⟩,?_⟩;rintro i m ys σ' H ⟨rfl,hi,p⟩;have q:=hl i ys σ' H hi p;by_cases gT:i < kvs.length
 .refine .inr ⟨⟨q,gT⟩,kvs.length - (i+1),∅,λx H' y=>?_⟩;obtain⟨e,kv,QA,rfl⟩:=y;subst e;have z:=hs i kv ys σ' _ QA p;have h1:(i+1<=kvs.length)=True:=eq_true gT;simp only [h1,true_and];exact z
 have e:i=kvs.length:=by omega
 subst e;exact .inl ⟨⟨q,aL _⟩,hd ys σ' H p⟩
end
def tX {A:Around}{s:Shared}{l b:Addr}{ys xs:List Int}{aJ eY:List Value}(r:aT (ys.map V.int) aJ)(r2:aT (xs.map V.int) eY)(hl:s.heap.IsList l aJ.toArray)(hb:s.heap.IsList b eY.toArray)(ne:l≠b)(hu:A.units < cLine) :
  SeqAt.EqAt A s (.ref l) (.ref b) (decide (ys=xs)):=by
 have l1:=r.length;have l2:=r2.length;rw [av] at l1 l2;by_cases bM:ys.length=xs.length
 .have h:=SeqAt.RcAt.lists (A:=A) (e:=λj=>decide (ys[j]?=xs[j]?)) hl hb (by simp only [bO];omega) hu λj h1 h2=>?_
  .have e:((List.range aJ.toArray.size).all λj=>decide (ys[j]?=xs[j]?))=decide (ys=xs):=by
    rw [il,gL,decide_eq_true_iff];constructor
    .intro h;refine List.ext_getElem? λj=>?_;by_cases c:j < ys.length
     .exact dF (h j (lZ.mpr (by simp only [bO];omega)))
     rw [List.getElem?_eq_none ∅,List.getElem?_eq_none ∅]
    intro h j _;rw [h];exact fO rfl
   rw [e] at h;exact .of_refs ne h
  have k1:j < aJ.length:=by simpa using h1
  have k2:j < eY.length:=by simpa using h2
  have e1:ys[j]?=some (ys[j]'∅):=dw ∅;have e2:xs[j]?=some (xs[j]'∅):=dw ∅;obtain⟨u1,f1,q1⟩:=r.get (show (ys.map V.int)[j]?=some (.int (ys[j]'∅)) by rw [aZ,e1];rfl);obtain⟨u2,f2,q2⟩:=r2.get (show (xs.map V.int)[j]?=some (.int (xs[j]'∅)) by rw [aZ,e2];rfl);have g1:aJ.toArray[j]=u1:=by
   have:=(bx.mp f1).2;simpa using this
  have g2:eY.toArray[j]=u2:=by
   have:=(bx.mp f2).2;simpa using this
  rw [g1,g2,e1,e2];obtain⟨t1,rfl⟩:=q1;obtain⟨t2,rfl⟩:=q2;have:=SeqAt.EqAt.int_int (A:=A.in1) (s:=s) (ys[j]'∅) t1 (xs[j]'∅) t2;have e3:(ys[j]'∅ == xs[j]'∅)=decide (some (ys[j]'∅)=some (xs[j]'∅)):=by
   rw [il,beq_iff_eq,decide_eq_true_iff,Option.some.injEq]
  rw [e3] at this;exact this
 have h:=SeqAt.RcAt.lists_lengths (A:=A) hl hb (by simp only [bO,bne_iff_ne];omega) hu;rw [gy (λz=>bM (by rw [z]))];exact .of_refs ne h
def BA {X:Cx}(hu:X.A.units+1 < cLine):kU X (compareOp .In) (λx y H Q=>∃t a l1 l2 xs ys zs,x=.ref a/\y=.ref t/\ba X.K H t [.ref l1,.ref l2]/\aD X.K H a (List.map V.int xs)/\aD X.K H l1 (List.map V.int ys)/\aD X.K H l2 (List.map V.int zs)/\l1≠a/\l2≠a /\
  Q (.bl (decide (ys=xs) || decide (zs=xs))) H):=by
 intro ah s σ H x y v u Q I rx ry h;obtain⟨t,a,l1,l2,xs,ys,zs,rfl,rfl,ht,ha,h1,h2,n1,n2,q⟩:=h;cases rx;cases ry;obtain⟨aJ,r,pl,hz⟩:=I.tuple ht;obtain⟨u1,u2,rfl,q1,q2⟩:=vals2 r;cases (show u1=Value.ref l1 from q1);cases (show u2=Value.ref l2 from q2);obtain⟨xa,ra,pa,za⟩:=I.list ha;obtain⟨x1,r1,p1,z1⟩:=I.list h1;obtain⟨x2,r2,p2,z2⟩:=I.list h2;have e1:=tX (A:=X.A.in1) (s:=s) r1 ra p1.isList pa.isList n1 hu;have e2:=tX (A:=X.A.in1) (s:=s) r2 ra p2.isList pa.isList n2 hu;refine SeqAt.in_tupleAt (λy=>if y == .ref l1 then decide (ys=xs) else decide (zs=xs)) (show s.heap.IsTuple t #[.ref l1,.ref l2] from pl) (λy hy=>?_) ?_
 .have Qa:y=.ref l1\/y=.ref l2:=by simpa using hy
  by_cases c:y=.ref l1
  .subst c;rw [az (pX _)];exact e1
  rcases Qa with z | z
  .exact absurd z c
  subst z;rw [ay (λq=>c (eq_of_beq q))];exact e2
 refine⟨.bl (decide (ys=xs) || decide (zs=xs)),H,I,?_,q⟩
 show Value.bool _=Value.bool _
 congr 1
 by_cases c:l2=l1
 .subst c;have e3:=I.iS h1 h2;have e4:ys=zs:=by
   have:=congrArg (List.map λv:V=>match v with | .int n=>n | _=>0) e3
   simpa [gZ,Function.comp_def] using this
  subst e4;simp
 simp [c]
def f_ {X:Cx}{elt iter tg:Expr}{iy:Nat}{y:Str}{py Nh:Pos}{ifs:List Expr}{scope:Scope}{pos:Pos}{wi:TI}{g:TG}{tif:TT}{te:TE}(ts:List Str)(js:List (Nat×Str))(hN:X.N.Nodup)(hiy:X.N[iy]?=some y)(hy:X.env.scope.names.lookup y=some .local)(hc:X.calm=true)(hi:PI X tg iter wi)
  (cp:Ih X scope js)(iV:∀y∈scope.names,y.2≠.cell)(iU:scope.kind=.function)
  (zG:∀y∈scope.names,y.2=.local->scope.names.lookup y.1=some .local)
  (hg:∀cl C s1 H1 fp,PG (rA X scope cl C s1 H1 (ts++js.map (·.2)) fp) tg g)
  (TV:∀cl C s1 H1 fp,CC (rA X scope cl C s1 H1 (ts++js.map (·.2)) fp) ifs tif)(he:∀cl C s1 H1 fp,PE (rA X scope cl C s1 H1 (ts++js.map (·.2)) fp) elt te)
  (hsw:swapsWith (.ListComp elt [⟨tg,iter,ifs,0⟩] scope pos) (some (.Name y py)) Nh.line X.env=pure true:=by rfl)(hs:∀x,foldedSetIterable iter X.env x=pure x:=by intro _;rfl) :
  PS X (.Assign [.Name y py] (.ListComp elt [⟨tg,iter,ifs,0⟩] scope pos) Nh) (JC (C7 wi ts js g tif te) (eJ iy)):=by
 intro ah s σ H DD I h;rw [exec_Assign_Name_used _ _ _ _ hsw];refine aA (wpAny_standAt (aA ?_));show wpAny _ _ (do let _ <-comprehension (.ListComp elt [⟨tg,iter,ifs,0⟩] scope pos) scope X.env _ (newList []) false (eval iter X.env) (some (assign (.Name y py) X.env))) _ _ s;obtain⟨cl,ny⟩:=vK (env:=X.env) (scope:=scope) λy hy=>I.ok.has y (.inl (cp.all y hy));refine aA (cW (wpAny_comprehension_free (use:=some (assign (.Name y py) X.env)) (Q:=λ_ s'=>SP X ah DD .next s') rfl hs ny.eq iU zG (cS (hi ah s σ H _ I h) λv s1 h1=>cS h1 λP8 s2 h2=>?_)) (λ_ s' hq=>bj (bj hq)) λ_ _ e=>e);obtain⟨it,fp,tn,J,H2,e,I2,T,FN,f2,h2⟩:=h2;subst e;obtain⟨W,⟨m0,w0⟩,turn⟩:=h2 s2.heap.objs.size I2.fresh;have EV:∀b∈fp,b < s2.heap.objs.size:=λb hb=>by obtain⟨o,e,_⟩:=T.obj _ _ FN b hb;exact bc e
 refine qe (wpAny_newFunctionEnv iV (by intro y hy;simp at hy) (λh₁ zE vB=>?_) iU);dsimp only at zE vB ⊢;generalize K7:s2.heap.push { cls:=.type "list",dict:=none,data:=.seq ([]:List Value).toArray }=G2 at zE vB ⊢;have E2:G2.objs.size=s2.heap.objs.size+1:=by rw [<-K7,jN]
 have Up:s2.heap.objs.size≠G2.objs.size:=by rw [E2];exact bT (md _)
 have old:∀b o,s2.heap.get? b=some o->h₁.get? b=some o:=λb o e =>
  vB.extBut b o (by rw [E2];exact bT (uv (bc e))) (bZ _ (K7 ▸ bZ _ e))
 have Cc:h₁.get? s2.heap.objs.size=some { cls:=.type "list",data:=.seq ([]:List Value).toArray 0 }:=vB.extBut _ _ Up (bZ _ (K7 ▸ de _ rfl));generalize mY:rA X scope cl G2.objs.size s2 H2 (ts++js.map (·.2)) fp=X2;have I4:Inv X2 [] (eM ts js σ) (upd H2 s2.heap.objs.size (.lst [])) { s2 with heap:=h₁,toks:=s2.toks+([]:List (Str×Value)).length }:=by
  rw [<-mY];exact tR I2 f2 EV iU iV cp ny (by rw [E2];exact md _) rfl rfl old zE Cc
 have x1:X2.prog=X.prog:=by rw [<-mY];rfl
 have x2:X2.w=X.w:=by rw [<-mY];rfl
 have x3:X2.K=X.K:=by rw [<-mY];rfl
 have x4:X2.calm=true:=by rw [<-mY];exact hc
 have x5:X2.A=X.A:=by rw [<-mY];rfl
 have x6:X2.env=compEnvC scope cl G2.objs.size X.env:=by rw [<-mY];rfl
 have x7:X2.xe=λ_ _=>False:=by rw [<-mY];rfl
 have TZ:PG X2 tg g:=by rw [<-mY];exact hg _ _ _ _ _
 have KS:CC X2 ifs tif:=by rw [<-mY];exact TV _ _ _ _ _
 have HF:PE X2 elt te:=by rw [<-mY];exact he _ _ _ _ _
 have Nf:tn 0 h₁:=T.keep _ _ _ FN λb _ o e=>old b o e;have qy:∀{H':Hp}{jx:List (Addr×Obj)},(∀b∈fp,H' b=none)->(∀p∈jx,p.1∉fp)->∀b∈fp,rT X2 jx H' b:=λ{H' jx} hn hp b hb=>by
  have o4:=I4.ok;subst mY;exact⟨hn b hb,(o4.Mo b hb).1,o4.Ck b hb,.inl hb,(o4.Mo b hb).2,λp lX=>by
   have o8:p∈([]:List (Addr×Obj))++jx:=lX;rw [oP] at o8;intro z;exact hp p o8 (by rw [z];exact hb)⟩
 have fin:∀{s':Shared}{σ':St}{H':Hp},Inv X2 [] σ' H' s'->DD.nx (σ.set iy (some (.ref s2.heap.objs.size))) H' ->
   compPost (model X.prog X.w) X.A X.xe (some (assign (.Name y py) X.env)) (λ_ s'=>SP X ah DD .next s') (.ref s2.heap.objs.size) G2.objs.size (.ok .next) s':=λ{s' σ' H'} J' q=>by
  subst mY;obtain⟨m',IV,_⟩:=J'.loc;have I5:Inv X ah σ H' s':=I2.Jf (s':=s') J'.os J'.base J'.bU J'.bare λb hb=>by
   obtain⟨_,f1,_,f3,f4,f5⟩:=f2 b hb;exact⟨f3,f1,f4,f5⟩
  obtain⟨f0,f1,_,f3,f4,f5⟩:=I2.ky (H':=H') (b:=G2.objs.size) (by rw [E2];exact jJ _) J'.free;show wpAny _ _ (assign (.Name y py) X.env (.ref s2.heap.objs.size)) _ _ s';refine wpAny_assign_Name (sV I5 hN hiy (.inl hy) (v:=.ref s2.heap.objs.size) rfl (λNp I6 bh=>?_) (.inr hy));obtain⟨a,sb,ha⟩:=bh;have nCa:G2.objs.size≠a:=by
   rcases ha with ha | ha
   .rw [ha];exact f1
   exact(f4 _ _ ha).symm
  refine⟨m',IV.sameBut sb nCa,λh' LZ=>?_⟩;exact⟨_,H',I6.turned (t':=Np.toks) (λb o hb e=>(LZ.2 b hb).trans e) f0 f1 f3 f4 f5,q⟩
 have loop:∀s₃:Shared,s₃={ s2 with heap:=h₁,toks:=s2.toks+([]:List (Str×Value)).length } ->
   codeAny (model X.prog X.w) X.A (.compLoop (.ListComp elt [⟨tg,iter,ifs,0⟩] scope pos) 0 (.ref it) (.ref s2.heap.objs.size) (compEnvC scope cl G2.objs.size X.env))
    (compPost (model X.prog X.w) X.A X.xe (some (assign (.Name y py) X.env)) (λ_ s'=>SP X ah DD .next s') (.ref s2.heap.objs.size) G2.objs.size) s₃:=by
  rintro s₃ rfl;subst mY;refine o_ (λn s'=>∃i ys σ' H',Inv (rA X scope cl G2.objs.size s2 H2 (ts++js.map (·.2)) fp) [] σ' H' s'/\tn i s'.heap/\(∀b∈fp,H' b=none)/\W i n ys σ' H') ?_ m0
   ⟨0,[],_,_,I4,Nf,λb hb=>by rw [ai (bT (EV b hb))];exact(f2 b hb).1,w0⟩
  rintro n s' ⟨i,ys,σ0,H',J',vT,OT,w'⟩;rcases turn i n ys σ0 H' w' with ⟨stop,q⟩ | ⟨go,m',hm,step⟩
  .refine cW (T.done (rA X scope cl G2.objs.size s2 H2 (ts++js.map (·.2)) fp) rfl rfl rfl hc i [] s' _ H' (λ_ _=>False) J' (qy OT (by simp)) vT stop) (λr s4 ⟨hr,J4⟩=>?_) λ_ _ z=>z;subst hr;exact fin J4 q
  refine cW (T.item (rA X scope cl G2.objs.size s2 H2 (ts++js.map (·.2)) fp) rfl rfl rfl hc i [] s' _ H' (λ_ _=>False) J' (qy OT (by simp)) vT go) (λr s4 ⟨u,hr,h4⟩=>?_) λ_ _ z=>z;subst hr;refine cW h4 (λ_ s5 bh=>?_) λ_ _ z=>z;obtain⟨xv,H5,J5,r5,y5,yp,OS⟩:=bh;have VM:=J5.pinned (qy OS (by simp)) (T.obj _ _ yp);have back:∀{s7:Shared}{σ7:St}{H7:Hp},Inv (rA X scope cl G2.objs.size s2 H2 (ts++js.map (·.2)) fp) ([]++og fp s5.heap) σ7 H7 s7->Inv (rA X scope cl G2.objs.size s2 H2 (ts++js.map (·.2)) fp) [] σ7 H7 s7/\tn (i+1) s7.heap/\∀b∈fp,H7 b=none:=λ{s7 σ7 H7} J7=>by
   refine⟨J7.jP,T.keep _ _ _ yp λb hb o e=>(J7.pin (b,o) (fX _ (fX _ (gH hb e)))).1,λb hb=>?_⟩;obtain⟨o,e,d⟩:=T.obj _ _ yp b hb;exact(J7.pin (b,o) (fX _ (fX _ (gH hb e)))).2.1
  show wpAny _ _ (assign tg (rA X scope cl G2.objs.size s2 H2 (ts++js.map (·.2)) fp).env u) _ _ s5;refine cW (TZ _ s5 _ H5 xv u _ VM r5 (step xv H5 y5)) (λ_ s6 bh=>?_) λ_ _ z=>z;obtain⟨σ6,H6,J6,q6⟩:=bh;refine cW (KS _ s6 _ H6 _ J6 q6) (λb s7 bh=>?_) λ_ _ z=>z;obtain⟨H7,J7,q7⟩:=bh;cases b with
  | false =>
   rw [ay dJ] at q7 ⊢;obtain⟨J8,Rr,Uz⟩:=back J7;exact⟨m',hm,i+1,ys,σ6,H7,J8,Rr,Uz,q7⟩
  | true =>
   rw [az rfl] at q7 ⊢;refine cW (HF _ s7 _ H7 _ J7 q7) (λyv s8 bh=>?_) λ_ _ z=>z;obtain⟨y,H8,J8,r8,Mf,LW,w8⟩:=bh;refine cW (bX (X:=rA X scope cl G2.objs.size s2 H2 (ts++js.map (·.2)) fp) _ s8 _ H8 (.ref s2.heap.objs.size) [y] (.ref s2.heap.objs.size) [yv] (λv H'=>W (i+1) m' (ys++[y]) σ6 H') J8 rfl (.cons r8 .nil) ⟨s2.heap.objs.size,ys,y,rfl,rfl,Mf,LW,w8⟩)
    (λ_ s9 ⟨_,H9,J9,_,w9⟩=>?_) λ_ _ z=>z
   obtain⟨VN,JE,Ld⟩:=back J9;exact⟨m',hm,i+1,ys++[y],σ6,H9,VN,JE,Ld,w9⟩
 exact codeAny_compStart_list (loop _ rfl) (T.self _ _ _ _ _ Nf (loop _ rfl))
section
variable {prog:Program}{w:World}{A:Around}{E:Value->Shared->Prop}{s:Shared}
def xH (a b c:Value):argsOk "min" ⟨[a],[("key",b),("default",c)]⟩:=by unfold argsOk;kernel_rfl
def sG {l:Addr}{kf dv:Value}{Q:Value->Shared->Prop}(hh:A.handled=none)(hl:s.heap.IsList l #[])(h:∀h' tk,(∀b o,s.heap.get? b=some o->h'.get? b=some o)->Q dv { s with heap:=h',toks:=tk }) :
  wpAny (model prog w) A (call (.builtin "min") [.ref l] [("key",kf),("default",dv)]) Q E s:=by
 have ER:(toString "min" ++ toString ".loop":String) = "min.loop" := by decide
 refine jH (ql F.plain_min F.entry_min ?_);have core:wpAny (model prog w) A.in1 (Builtin.«min» ⟨[.ref l],[("key",kf),("default",dv)]⟩) (λfin s'=>match fin with
   | .done f=>(match (Except.ok f:Result) with | .ok (.ret v)=>Q v s' | .ok _=>False | .error e=>E e s')
   | .again c'=>c'.quiet=true/\codeAny (model prog w) A c' (λr s'=>match r with | .ok (.ret v)=>Q v s' | .ok _=>False | .error e=>E e s') s') E s:=by
  show wpAny _ A.in1 (Builtin.Builtins.bindParams "min" ["key","default"] 0 ⟨[],[("key",kf),("default",dv)]⟩ >>= _) _ _ s;refine aA (wpAny_of_eq (show Builtin.Builtins.bindParams "min" ["key","default"] 0 ⟨[],[("key",kf),("default",dv)]⟩=pure [some kf,some dv] from rfl) ?_);refine aA (bj ?_);refine aA (kI hl ?_);refine aA (qe ?_);rw [ER];obtain⟨ol,h1,h2⟩:=id hl;generalize hG:s.heap.push { cls:=.type "list_iterator",data:=.fields #[.ref l,.int 0 0] }=G;have k1:∀b o,s.heap.get? b=some o->G.get? b=some o:=λb o e=>by rw [<-hG];exact bZ _ e
  have hi:G.get? s.heap.objs.size=some { cls:=.type "list_iterator",data:=.fields #[.ref l,.int 0 0] }:=by rw [<-hG];exact de _ rfl
  refine bj ⟨nH F.plain_min_loop _,nK F.entry_min_loop ?_⟩;rw [qk F.plain_min_loop _];show wpAny _ A.in1 (seqItems? (.ref G.objs.size) >>= _) _ _ _;refine aA (p6 (de _ rfl) rfl ?_);show wpAny _ A.in1 (tryCatch (pyNext (.ref s.heap.objs.size)) _ >>= _) _ _ _;refine aA (wpAny_tryCatch (uC (show A.in1.handled=none from hh) ⟨_,bZ _ hi,rfl,rfl⟩ ⟨ol,bZ _ (k1 _ _ h1),h2⟩ (by simp) λh' eb=>?_));refine aA (wpAny_rule (bj ?_));exact h h' _ λb o e=>eb b o (bT (bc e)) (bZ _ (k1 b o e))
 simp only [checkBuiltinCall,F.kind_min];cases Th:Manifest.signature? "min" with
 | none=>exact bj core
 | some sig =>
  have ha':Bind.checkArgs "min" sig ⟨[.ref l],[("key",kf),("default",dv)]⟩=pure ():=by have:=xH (.ref l) kf dv;simpa only [argsOk,Th] using this
  simp only [ha'];exact bj core
end
def M0 (K:aY)(t:TA)(td:TE):TE:=λσ H Q=>t σ H λvs H1=>td σ H1 λdv H2=>∃a,vs=[.ref a]/\aD K H2 a []/\Q dv H2
def G7 {X:Cx}{p pos lp SF EF:Pos}{e e2:Expr}{t:TA}{td:TE}(hc:X.calm=true)(hg:Gl X "min")(hm:X.mg "min"=none)(TY:Gl X "len")(hm2:X.mg "len"=none)(ha:PA X [e] t)(hd:PE X e2 td)
  (he:backTo pos (starEach [e] X.env)=(false,eval e X.env)::backTo pos (starEach [] X.env):=by rfl)(hp:(backTo pos (starEach [e] X.env)).any (·.1)=false:=by rfl) :
  PE X (.Call (.Name "min" p) [e] [⟨some "key",.Name "len" lp,SF⟩,⟨some "default",e2,EF⟩] pos) (M0 X.K t td):=by
 intro ah s σ H Q I h;refine me (ib I hg hm boot_min ?_);refine callWith_kw (cS (ha pos ah s σ H _ I h) λus s1 bh=>?_) he hp rfl rfl;obtain⟨vs,H1,I1,r1,q1⟩:=bh;refine kws_cons (ib I1 TY hm2 fw (kws_cons (cS (hd ah s1 σ H1 _ I1 q1) λu2 s2 bh=>?_)));obtain⟨dv,H2,I2,r2,a,ev,hs,q⟩:=bh;refine kws_nil ?_;subst ev;obtain⟨u,rfl,rx⟩:=vals1 r1;cases (show u=Value.ref a from rx);obtain⟨aJ,rv,pl,hz⟩:=I2.list hs;cases rv;exact sG (I2.ok.hd hc) pl.isList λh' tk kk=>⟨dv,H2,I2.kept (t':=tk) kk,r2,q⟩
def wu (z:Str)(lo hi:Option Int):Str:=if ((slicePicked z (lo.map λi=>(i,0)) (hi.map λi=>(i,0)) none).length == z.length)=true then z else ⟨((slicePicked z (lo.map λi=>(i,0)) (hi.map λi=>(i,0)) none).filterMap (z.cps[·]?)).toArray⟩
def Dn (z:Str)(lo hi:Option Int):(wu z lo hi).length<=z.length:=by
 unfold wu
 split
 .exact aL _
 show (List.toArray _).size<=_;rw [bO];exact dI (uK _ _) (show (slicePicked z _ _ none).length<=z.length from by unfold slicePicked;exact sliceIndices_le _ _ _)
def RN:V->Option Int->Option Int->Hp->VK->Prop:=λx lo hi H Q=>∃z:Str,x=.str z/\z.length<=sizeLine/\Q (.str (wu z lo hi)) H
def pK {X:Cx}{ah:List (Addr×Obj)}{s:Shared}{σ:St}{H:Hp}{Q:VK}{z:Str}{t:Tok}(I:Inv X ah σ H s)(hz:z.length<=sizeLine)(l u:Option (Int×Tok))(q:Q (.str (wu z (l.map (·.1)) (u.map (·.1)))) H) :
  (sliceMade z t l u none).post (EP X ah σ Q) s:=by
 have e:slicePicked z ((l.map (·.1)).map λi=>(i,(0:Tok))) ((u.map (·.1)).map λi=>(i,(0:Tok))) none=slicePicked z l u none:=by
  cases l <;> cases u <;> rfl
 unfold wu at q;rw [e] at q;unfold sliceMade;by_cases c:((slicePicked z l u none).length == z.length)=true
 .rw [az c] at q;rw [az (by rw [c];rfl)];exact⟨.str z,H,I,⟨_,rfl⟩,q⟩
 rw [ay c] at q;rw [ay (by rw [kJ.mpr c];decide)];have le:((slicePicked z l u none).filterMap (z.cps[·]?)).length<=z.length:=dI (uK _ _) (show (slicePicked z l u none).length<=z.length from by unfold slicePicked;exact sliceIndices_le _ _ _);refine⟨?_,.str _,H,I.tok _,⟨_,rfl⟩,q⟩;show (List.toArray _).size<=sizeLine;rw [bO];exact dI le hz
def AE {X:Cx}:LF X RN:=by
 intro ah s σ H x v vl vu lo hi sl Q I rx hs pl pu h;obtain⟨z,rfl,hz,q⟩:=h;obtain⟨t,rfl⟩:=rx;refine⟨"str",_,F.slot_str_getitem.lookup,typeIs_str s z t,?_⟩;cases pl with
 | none =>
  cases pu with
  | none=>exact uG (l:=none) (u:=none) (st:=none) hs rfl (pK I hz none none q)
  | int j tu=>exact uG (l:=none) (u:=some (j,tu)) (st:=none) hs rfl (pK I hz none (some (j,tu)) q)
 | int i ti =>
  cases pu with
  | none=>exact uG (l:=some (i,ti)) (u:=none) (st:=none) hs rfl (pK I hz (some (i,ti)) none q)
  | int j tu=>exact uG (l:=some (i,ti)) (u:=some (j,tu)) (st:=none) hs rfl (pK I hz (some (i,ti)) (some (j,tu)) q)
theorem mr:∀(tk:Nat) (ts:List Str),aT (ts.map V.str) (strsFrom tk ts)
 | _,[]=>.nil
 | tk,z::ts=>.cons ⟨tk,rfl⟩ (mr (tk+1) ts)
def JW:V->List V->Hp->VK->Prop:=λx vs H Q=>∃z y:Str,x=.str z/\vs=[.str y]/\y.length≠0/\z.length+2<=sizeLine/\∀l,H l=none->Q (.ref l) (upd H l (.lst ((Txt.split z y).map V.str)))
def qP {X:Cx}:FC X "str.split" JW:=by
 intro ah s σ H x vs v us Q I rx rv h;obtain⟨z,y,rfl,rfl,hy,hz,q⟩:=h;obtain⟨t,rfl⟩:=rx;obtain⟨u,rfl,ru⟩:=rv.one;obtain⟨tu,rfl⟩:=ru;have hle:=split_le z y;have hsz:z.length<=sizeLine:=by omega
 have Qa:(y.length == 0)=false:=by simpa using hy
 have fin:∀(aJ:List Value) (tk:Nat),aT ((Txt.split z y).map V.str) aJ ->
   wants (EP X ah σ Q) X.xe (.ok (.ret (.ref s.heap.objs.size))) { s with toks:=tk,heap:=s.heap.push { cls:=.type "list",data:=.seq aJ.toArray } }:=λaJ tk r =>
  ⟨.ref s.heap.objs.size,_,I.laid (t':=tk) (λb o e=>bZ _ e) (aL _) (show cC X.prog X.w _ _ _ (.lst _) from ⟨by rw [av];omega,aJ,_,r,de _ rfl⟩),rfl,q _ (I.bU.fresh (aL _))⟩
 cases h1:(decide (z.length < y.length) || decide (Builtin.Str.strKind z < Builtin.Str.strKind y))
 .cases hf:(Builtin.Str.occurrences z y 0 z.length (z.length+1)).isEmpty
  .have e:Txt.split z y=Builtin.Str.partsBetween z (Builtin.Str.occurrences z y 0 z.length (z.length+1)) y.length:=by
    unfold Txt.split;rw [ay (by rw [h1];decide),ay (by rw [hf];decide)]
   refine call_meets F.slot_str_split (typeIs_str _ _ _) F.entry_str_split (F.args_str_split_2 _ _) (meets_str_split_sep z y t tu h1 Qa hf hsz (by rw [<-e];omega)) ?_;rw [<-e];exact fin _ _ (mr _ _)
  have e:Txt.split z y=[z]:=by
   unfold Txt.split;rw [ay (by rw [h1];decide),az hf]
  exact call_meets F.slot_str_split (typeIs_str _ _ _) F.entry_str_split (F.args_str_split_2 _ _) (meets_str_split_not_found z y t tu h1 Qa hf)
   (fin [.str z t] s.toks (by rw [e];exact .cons ⟨t,rfl⟩ .nil))
 have e:Txt.split z y=[z]:=by
  unfold Txt.split;rw [az h1]
 exact call_meets F.slot_str_split (typeIs_str _ _ _) F.entry_str_split (F.args_str_split_2 _ _) (meets_str_split_cannot_occur z y t tu h1)
  (fin [.str z t] s.toks (by rw [e];exact .cons ⟨t,rfl⟩ .nil))
def sg (z:Str):List Nat:=z.cps.toList
def JF {a b:Str}(h:sg a=sg b):a=b:=Str.ext' (Array.toList_inj.mp h)
def sp (c:Nat):List Nat->List (List Nat)
 | []=>[[]]
 | a::r=>if a=c then []::sp c r else (a::(sp c r).headD [])::(sp c r).tail
def Am (c:Nat):∀l,∃h t,sp c l=h::t
 | []=>⟨_,_,rfl⟩
 | a::r=>by
  unfold sp
  split
  .exact⟨_,_,rfl⟩
  exact⟨_,_,rfl⟩
theorem pI {c:Nat}:∀{l:List Nat},c∉l->sp c l=[l]
 | [],_=>rfl
 | a::r,h=>by
  have h1:¬a=c:=λe=>h (e ▸ bG);have h2:sp c r=[r]:=pI λe=>h (cJ _ e);unfold sp;rw [ay h1,h2];rfl
theorem yr (c:Nat):∀(a b:List Nat),sp c (a++c::b)=sp c a++sp c b
 | [],b=>by
  show sp c (c::b)=[[]]++sp c b;rw [sp,az rfl];rfl
 | x::a,b=>by
  show sp c (x::(a++c::b))=sp c (x::a)++sp c b;rw [sp,sp,yr c a b]
  split
  .rfl
  obtain⟨h,t,e⟩:=Am c a;rw [e];rfl
def jn (c:Nat):List (List Nat)->List Nat
 | []=>[]
 | [x]=>x
 | x::y::r=>x++c::jn c (y::r)
theorem Dd {c:Nat}:∀{ps:List (List Nat)},ps≠[]->(∀p∈ps,c∉p)->sp c (jn c ps)=ps
 | [],h,_=>absurd rfl h
 | [x],_,h=>pI (h x bG)
 | x::y::r,_,h=>by
  show sp c (x++c::jn c (y::r))=_;rw [yr,pI (h x bG),Dd (by simp) λp hp=>h p (cJ _ hp)];rfl
def df (a b:Str):sg (a++b)=sg a++sg b:=qm
theorem uX (c:Nat):∀ts:List Str,sg (Str.join ⟨#[c]⟩ ts)=jn c (ts.map sg)
 | []=>rfl
 | [x]=>rfl
 | x::y::r=>by
  show sg (x++⟨#[c]⟩++Str.join ⟨#[c]⟩ (y::r))=sg x++c::jn c ((y::r).map sg);rw [df,df,uX c (y::r),gA];rfl
def wx (c:Nat) (ts:List Str):sg (Txt.join ⟨#[c]⟩ ts)=jn c (ts.map sg):=by
 rw [<-uX];exact congrArg sg (kN _ _)
def iN (c:Nat)(z:Str):(Txt.split z ⟨#[c]⟩).map sg=sp c (sg z):=by
 have h1:=StrLaws.join_split z ⟨#[c]⟩;have h2:=StrLaws.split_free z c;have h3:=split_pos z ⟨#[c]⟩;have h4:sg z=jn c ((Txt.split z ⟨#[c]⟩).map sg):=by rw [<-uX,h1]
 rw [h4,Dd]
 .intro e;rw [List.map_eq_nil_iff] at e;rw [e] at h3;exact absurd h3 nofun
 intro p hp;obtain⟨q,hq,rfl⟩:=cM.mp hp;exact h2 q hq
def wd (l:List Nat):List (List Nat):=(sp 32 l).filter (·≠[])
def i7 (a b:List Nat):wd (a++32::b)=wd a++wd b:=by
 unfold wd;rw [yr,kM]
def lg {l:List Nat}(h:32∉l)(hn:l≠[]):wd l=[l]:=by
 unfold wd;rw [pI h];simp [hn]
def C0:wd []=[]:=rfl
def yf (k:Nat)(b:List Nat):wd (List.replicate k 32++b)=wd b:=by
 induction k with
 | zero=>rfl
 | succ k ih =>
  show wd ([]++32::(List.replicate k 32++b))=_;rw [i7,ih];rfl
def Gj (k:Nat)(b:List Nat):wd (b++List.replicate k 32)=wd b:=by
 cases k with
 | zero=>rw [List.replicate_zero,fh]
 | succ k =>
  show wd (b++32::List.replicate k 32)=_;have:=yf k [];rw [fh] at this;rw [i7,this,C0,fh]
def Cu {X:Cx}(hc:X.calm=true):eK X (.builtin "any") (λxs H Q=>∃(a:Addr)(bs:List Bool),xs=[.ref a]/\aD X.K H a (bs.map V.bl)/\Q (.bl (bs.any id)) H):=by
 intro ah s σ H xs us Q I r h;obtain⟨a,bs,rfl,hq,q⟩:=h;obtain⟨u,rfl,rx⟩:=vals1 r;cases (show u=Value.ref a from rx);obtain⟨aJ,rv,pl,hz⟩:=I.list hq;obtain⟨o,h1,h2,m,h3⟩:=id pl.isList;have la:a < s.heap.objs.size:=bc h1;have ln:=rv.length;rw [av] at ln;have SK:∀(i:Nat) v,aJ.toArray[i]?=some v->v=.bool (bs.getD i true):=λi v e=>by
  have e':aJ[i]?=some v:=by simpa using e
  obtain⟨x,e2,e3⟩:=Paired.at_ rv i v e';rw [aZ] at e2;obtain⟨b,e4,rfl⟩:=b_.mp e2;rw [oX,e4];exact e3
 refine call_any_walk (kI pl.isList ?_);refine⟨s.heap.objs.size,_,_,_,_,_,λi=>bs.getD i true,rfl,Walks.list (A:=X.A.in1) (show X.A.in1.handled=none from I.ok.hd hc) s.heap.objs.size a (bT la) aJ.toArray,⟨⟨_,de _ rfl,rfl,rfl⟩,⟨o,bZ _ h1,h2,m,h3⟩⟩,?_,λh' tk kk=>?_⟩
 .intro i v s1 Q1 E1 hP Uj;rw [SK i v hP];exact oQ Uj
 have e:((List.range aJ.toArray.size).any λi=>bs.getD i true)=bs.any id:=by
  rw [bO,<-ln,il,nQ,nQ];constructor
  .rintro⟨i,hi,h⟩;have OD:=lZ.mp hi;rw [oX,dw OD] at h;exact⟨_,pW OD,h⟩
  rintro⟨b,hb,h⟩;obtain⟨i,hi,e⟩:=oS.mp hb;refine⟨i,lZ.mpr hi,?_⟩;rw [oX,dw hi,e];exact h
 rw [e];exact⟨.bl _,H,I.kept (t':=tk) λb o' e'=>kk b o' (by simp;exact bT (bc e')) (bZ _ e'),rfl,q⟩
def GY:V->List V->Hp->VK->Prop:=λx vs H Q=>∃l xs i y,x=.ref l/\vs=[.int ((i:Nat):Int),y]/\H l=some (.lst xs)/\i<=xs.length/\xs.length < 1000000/\Q .d5 (upd H l (.lst (xs.take i++y::xs.drop i)))
def BR {X:Cx}:FC X "list.insert" GY:=by
 intro ah s σ H x vs v us Q I rx rv h;obtain⟨l,xs,i,y,rfl,rfl,hH,hi,hz,q⟩:=h;cases rx;obtain⟨x,hx⟩:∃x:Int,x=((i:Nat):Int):=⟨_,rfl⟩;rw [<-hx] at rv;obtain⟨u1,u2,rfl,r1,r2⟩:=vals2 rv;obtain⟨t,rfl⟩:=r1;obtain⟨z,aJ,n,r,hl,e⟩:=I.BZ hH;have ln:=r.length;have h0:Builtin.List.listFitsIndex x=true:=by
  unfold Builtin.List.listFitsIndex;rw [nP,decide_eq_true_iff,decide_eq_true_iff];omega
 have h1:¬(!Builtin.List.listFitsIndex x)=true:=by rw [h0];exact dJ
 have hsz:aJ.toArray.size<=sizeLine:=by rw [bO,<-ln];exact z
 refine call_meets F.slot_list_insert ⟨_,e,rfl⟩ F.entry_list_insert (F.args_list_insert_3 _ _ _) (AutoListH.list_insert_list_int_val_1 l aJ.toArray n x t u2 h1 hsz) ⟨e,?_⟩;refine⟨.d5,_,I.Kq (lO:=aJ.take i++u2::aJ.drop i) hH e ?_ (aT.append (aT.take i r) (.cons r2 (aT.drop i r))) ?_,rfl,q⟩
 .have k0:(if x < 0 then (x+((aJ.toArray.size:Nat):Int)).toNat else min x.toNat aJ.toArray.size)=i:=by
   rw [ay ∅,hx,kK,bO];omega
  show ((aJ.toArray.extract 0 (if x < 0 then (x+((aJ.toArray.size:Nat):Int)).toNat else min x.toNat aJ.toArray.size)).push u2++aJ.toArray.extract (if x < 0 then (x+((aJ.toArray.size:Nat):Int)).toNat else min x.toNat aJ.toArray.size))=_;rw [k0];apply Array.ext';simp;exact oV (by simp)
 rw [bW,bV,cX,fj];exact fits ∅
def DG (K:aY):V->List V->Hp->VK->Prop:=λx vs H Q=>∃a zs z j,x=.ref a/\vs=[.str z]/\aD K H a (List.map V.str zs)/\zs[j]?=some z/\(∀m,m < j->zs[m]?≠some z)/\Q (.int ((j:Nat):Int)) H
def Ex {X:Cx}:FC X "list.index" (DG X.K):=by
 intro ah s σ H x vs v us Q I rx rv h;obtain⟨a,zs,z,j,rfl,rfl,hq,ej,hn,q⟩:=h;cases rx;obtain⟨u,rfl,ru⟩:=rv.one;obtain⟨t,rfl⟩:=ru;obtain⟨aJ,r,pl,hz⟩:=I.list hq;obtain⟨⟨cls,dd,data,sl⟩,ho,hc,n,hd⟩:=id pl.isList;simp only at hc hd;subst hc hd;have ln:=r.length;rw [av] at ln;have lj:=(bx.mp ej).1;have at_:∀m (hm:m < aJ.toArray.size),∃y,zs[m]?=some y/\RelV (.str y) aJ.toArray[m]:=λm hm=>by
  have hm':m < aJ.length:=by simpa using hm
  obtain⟨y,ey⟩:∃y,zs[m]?=some y:=⟨zs[m]'∅,dw ∅⟩;obtain⟨u,eu,ru⟩:=r.get (show (zs.map V.str)[m]?=some (.str y) by rw [aZ,ey];rfl);refine⟨y,ey,?_⟩;have:=(bx.mp eu).2;have g:aJ.toArray[m]=u:=by simpa using this
  rw [g];exact ru
 have eqs:∀m (hm:m < aJ.toArray.size) y,zs[m]?=some y->xl (.str z) aJ.toArray[m]=decide (y=z):=λm hm y ey=>by
  obtain⟨y',X1,ZI⟩:=at_ m hm;rw [ey] at X1;cases X1;rw [zR ZI rfl];show (y == z)=decide (y=z);rw [il,beq_iff_eq,decide_eq_true_iff]
 have hj:j < aJ.toArray.size:=by rw [bO];omega
 refine call_meets F.slot_list_index ⟨_,ho,rfl⟩ F.entry_list_index (F.args_list_index_2 _ _) (SeqAt.list_indexAt a aJ.toArray n dd sl (.str z t) (xl (.str z)) j hj (by rw [sizeLine_eq] at hz;rw [av] at hz;omega) (by rw [eqs j hj z ej];exact fO rfl) (λm hm gT=>?_)) ⟨ho,λu hu=>?_,?_⟩
 .obtain⟨y,ey,_⟩:=at_ m hm;rw [eqs m hm y ey];exact gy λh=>hn m gT (by rw [ey,h])
 .exact iR (x:=.str z) ⟨t,rfl⟩ rfl r (by rw [List.all_map];exact gL.mpr λ_ _=>rfl) u (by simpa using hu)
 exact⟨.int _,H,I.tok _,⟨_,rfl⟩,q⟩
def uc {X:Cx}(K:aY)(hK:X.K=K:=by rfl):eK X (.builtin "len") (λxs H Q=>Ft xs (λp ys=>aD K H p ys\/ba K H p ys) λys=>Q (.int ys.length) H):=by
 subst hK;exact bD
def yZ {X:Cx}(K:aY)(hK:X.K=K:=by rfl):kU X (compareOp .In) (PY K false):=by
 subst hK;exact oi
def BU {X:Cx}(K:aY)(hK:X.K=K:=by rfl):FC X "list.index" (DG K):=by
 subst hK;exact Ex
def DS {X:Cx}{o e:Expr}{es:List Expr}{to:TE}{t:TA}{name:Str}{apos fE:Pos}{T id:String}{r:V->List V->Hp->VK->Prop}(K:aY)(pa:PlainAttrs T)(slot:Slot T name id)(Ta:typeOf (.builtin id)=pure (.type "method_descriptor"))(hm:MC X id r)(ho:PE X o to)(ha:PA X (e::es) t)(hK:X.K=K:=by rfl)
  (EY:attributeBase o name X.env (eval o X.env)=eval o X.env:=by rfl)
  (KY:((backTo fE (starEach (e::es) X.env)).all (λx=>!x.1) && (backToKw fE (keywordEach [] X.env)).all (λx=>x.1.isSome)
   && decide ((e::es).length+([]:List Keyword).length+(if ([]:List Keyword).isEmpty then 0 else 1) < 30))=true:=by rfl)
  (ES:(apos.endLine == fE.line)=true:=by rfl)(hs:starEach (e::es) X.env=(false,eval e X.env)::starEach es X.env:=by rfl)(qX:(backTo fE (starEach es X.env)).any (·.1)=false:=by rfl) :
  PE X (.Call (.Attribute o name apos) (e::es) [] fE) (V4 K T r to t):=by
 subst hK;exact di pa slot Ta hm ho ha EY KY ES hs qX
def tK {X:Cx}(hu:X.A.units < cLine):kU X (compareOp .NotEq) (λx y H Q=>∃a b xs,x=.ref a/\y=.ref b/\aD X.K H a xs/\aD X.K H b []/\Q (.bl (!xs.isEmpty)) H):=by
 intro ah s σ H x y v u Q I rx ry h;obtain⟨a,b,xs,rfl,rfl,ha,hb,q⟩:=h;cases rx;cases ry;obtain⟨aJ,r,pl,hz⟩:=I.list ha;obtain⟨eY,r2,wF,IS⟩:=I.list hb;have e2:eY=[]:=aT.zero r2;subst e2;have bM:=r.length;cases xs with
 | nil =>
  have e:aJ=[]:=aT.zero r;subst e;exact SeqAt.RcNeAt.lists (e:=λ_=>true) pl.isList wF.isList rfl hu (λj h1 _=>absurd h1 (by simp)) X.prog X.w X.xe _ ⟨.bl false,H,I,rfl,q⟩
 | cons y ys =>
  refine SeqAt.RcNeAt.lists_lengths pl.isList wF.isList ?_ hu X.prog X.w X.xe _ ⟨.bl true,H,I,rfl,q⟩;rw [bO,bO,<-bM];simp
def Jl (K:aY)(H:Hp):Nat->V->V->Prop
 | 0,x,y=>x=y/\rP x
 | n+1,x,y=>(x=y/\rP x)\/∃a b xs ys,x=.ref a/\y=.ref b/\((aD K H a xs/\aD K H b ys)\/(ba K H a xs/\ba K H b ys))/\Paired (Jl K H n) xs ys
def Jl.self {K:aY}{H:Hp}{x:V}(h:rP x):∀n,Jl K H n x x
 | 0=>⟨rfl,h⟩
 | _+1=>.inl ⟨rfl,h⟩
def oE {A:Around}{s:Shared}{F:V->V->Prop}{xs ys:List V}{aJ eY:List Value}(r:aT xs aJ)(r2:aT ys eY)(p:Paired F xs ys)(hF:∀x y u v,F x y->RelV x u->RelV y v->SeqAt.EqAt A s u v true) (j:Nat)(h1:j < aJ.toArray.size)(h2:j < eY.toArray.size) :
  SeqAt.EqAt A s aJ.toArray[j] eY.toArray[j] true:=by
 have l1:=r.length;have l2:=r2.length;have k1:j < aJ.length:=by simpa using h1
 have k2:j < eY.length:=by simpa using h2
 have g2:ys[j]?=some (ys[j]'∅):=dw ∅;obtain⟨x,g1,fx⟩:=Paired.at_ p j _ g2;obtain⟨u1,e1,q1⟩:=r.get g1;obtain⟨u2,e2,q2⟩:=r2.get g2;have f1:aJ.toArray[j]=u1:=by
  have:=(bx.mp e1).2;simpa using this
 have f2:eY.toArray[j]=u2:=by
  have:=(bx.mp e2).2;simpa using this
 rw [f1,f2];exact hF _ _ _ _ fx q1 q2
theorem zV {X:Cx}{ah:List (Addr×Obj)}{σ:St}{H:Hp}{s:Shared}(I:Inv X ah σ H s):∀(n:Nat)(A:Around)(x y:V)(u v:Value),Jl X.K H n x y->RelV x u->RelV y v->A.units+n < cLine->SeqAt.EqAt A s u v true
 | 0,A,x,y,u,v,⟨e,h⟩,ru,rv,_=>by subst e;exact rm h ru rv
 | n+1,A,x,y,u,v,.inl ⟨e,h⟩,ru,rv,_=>by subst e;exact rm h ru rv
 | n+1,A,x,y,u,v,.inr ⟨a,b,xs,ys,ex,ey,hs,p⟩,ru,rv,hu=>by
  subst ex;subst ey;cases (show u=Value.ref a from ru);cases (show v=Value.ref b from rv);by_cases e:a=b
  .subst e;exact .same _
  refine .of_refs e ?_;have lp:=bK p;rcases hs with ⟨ha,hb⟩ | ⟨ha,hb⟩
  .obtain⟨aJ,r,pl,_⟩:=I.list ha;obtain⟨eY,r2,wF,_⟩:=I.list hb;have l1:=r.length;have l2:=r2.length;have q:=SeqAt.RcAt.lists (A:=A) (s:=s) (e:=λ_=>true) pl.isList wF.isList (by simp only [bO];omega) ∅ (λj h1 h2=>oE r r2 p (λx y u v d r1 r2=>zV I n A.in1 x y u v d r1 r2 (by rw [Around.in1_units];omega)) j h1 h2);have e:((List.range aJ.toArray.size).all λ_=>true)=true:=by simp
   rw [e] at q;exact q
  obtain⟨aJ,r,pl,_⟩:=I.tuple ha;obtain⟨eY,r2,wF,_⟩:=I.tuple hb;have l1:=r.length;have l2:=r2.length;have q:=SeqAt.RcAt.tuples (A:=A) (s:=s) (e:=λ_=>true) pl wF ∅ (λj h1 h2=>oE r r2 p (λx y u v d r1 r2=>zV I n A.in1 x y u v d r1 r2 (by rw [Around.in1_units];omega)) j h1 h2);have e1:((List.range (min aJ.toArray.size eY.toArray.size)).all (λ_=>true) && aJ.toArray.size == eY.toArray.size)=true:=by
   have:aJ.toArray.size=eY.toArray.size:=by simp only [bO];omega
   rw [this];simp
  rw [e1] at q;exact q
def Nt (K:aY)(b:Bool) (n:Nat):V->V->Hp->VK->Prop:=λx y H Q=>∃p q xs ys,x=.ref p/\y=.ref q/\aD K H p xs/\aD K H q ys/\Paired (Jl K H n) xs ys/\Q (.bl b) H
def yX {X:Cx}(n:Nat)(hu:X.A.units+(n+1) < cLine):kU X (compareOp .NotEq) (Nt X.K false n):=by
 intro ah s σ H x y v u Q I rx ry h;obtain⟨a,b,xs,ys,rfl,rfl,ha,hb,p,q⟩:=h;cases rx;cases ry;obtain⟨aJ,r,pl,hz⟩:=I.list ha;obtain⟨eY,r2,wF,IS⟩:=I.list hb;have l1:=r.length;have l2:=r2.length;have lp:=bK p;refine SeqAt.RcNeAt.lists (e:=λ_=>true) pl.isList wF.isList (by simp only [bO];omega) ∅ (λj h1 h2=>oE r r2 p (λx y u v d r1 r2=>zV I n X.A.in1 x y u v d r1 r2 (by rw [Around.in1_units];omega)) j h1 h2) X.prog X.w X.xe _ ?_;have e:(!(List.range aJ.toArray.size).all λ_=>true)=false:=by simp
 rw [e];exact⟨.bl false,H,I,rfl,q⟩
theorem lt_trans:∀a b c:List Nat,ltCps b a=false->ltCps c b=false->ltCps c a=false
 | [],b,[],_,_=>ltCps.eq_1
 | [],b,_::_,_,_=>ltCps.eq_3 _ _
 | x::r,[],c,h,_=>by rw [ltCps.eq_2] at h;cases h
 | x::r,y::t,[],_,k=>by rw [ltCps.eq_2] at k;cases k
 | x::r,y::t,z::u,h,k=>by
  rw [ltCps.eq_4,Bool.or_eq_false_iff,decide_eq_false_iff_not] at h k ⊢;refine⟨∅,?_⟩;by_cases e:z=x
  .have e1:y=x:=by omega
   subst e;subst e1;have h2:=h.2;have k2:=k.2;rw [pX,p8] at h2 k2 ⊢;exact lt_trans r t u h2 k2
  rw [jt.mpr e,Bool.false_and]
def GX:V->List V->Hp->VK->Prop:=λx vs H Q=>∃z y:Str,x=.str z/\vs=[.str y]/\Q (.bl (Txt.startswith z y)) H
def BP {X:Cx}:FC X "str.startswith" GX:=by
 intro ah s σ H x vs v us Q I rx rv h;obtain⟨z,y,rfl,rfl,q⟩:=h;obtain⟨t,rfl⟩:=rx;obtain⟨u,rfl,ru⟩:=rv.one;obtain⟨tu,rfl⟩:=ru;exact SC.startswith ⟨.bl _,H,I,rfl,q⟩
def sW (z:Str) (c:Nat):Txt.startswith z ⟨#[c]⟩=((sg z).head? == some c):=by
 obtain⟨⟨l⟩⟩:=z;unfold Txt.startswith Builtin.Str.subAt sg Str.length;cases l with
 | nil=>rfl
 | cons a l=>simp [il]
def GV:V->List V->Hp->VK->Prop:=λx vs H Q=>∃z y:Str,x=.str z/\vs=[.str y]/\z.length<=sizeLine/\Q (.str (Txt.rstripChars z y)) H
def BQ {X:Cx}:FC X "str.rstrip" GV:=by
 intro ah s σ H x vs v us Q I rx rv h;obtain⟨z,y,rfl,rfl,hz,q⟩:=h;obtain⟨t,rfl⟩:=rx;obtain⟨u,rfl,ru⟩:=rv.one;obtain⟨tu,rfl⟩:=ru;exact SC.rstripChars (λt' k=>⟨.str _,H,I.tok _,⟨_,rfl⟩,q⟩) hz
def mF {z y:Str}{b:Nat}(h:Txt.rstripChars z y=⟨#[b]⟩):(sg z).head?=some b:=by
 obtain⟨j,hj,e⟩:=rstripChars_is_prefix z y;rw [e] at h;have h2:sg (Builtin.Str.strSub z 0 j)=[b]:=by rw [h];rfl
 unfold sg at h2 ⊢;rw [StrLaws.strSub_toList,List.drop_zero,Nat.sub_zero] at h2;cases e3:z.cps.toList with
 | nil=>rw [e3] at h2;simp at h2
 | cons a l =>
  rw [e3] at h2;cases j with
  | zero=>simp at h2
  | succ j =>
   rw [List.take_succ_cons] at h2;injection h2 with h3 _;rw [h3];rfl
def jA (n:Nat):Str:=⟨(List.replicate n 32).toArray⟩
def lB (n:Nat):sg (jA n)=List.replicate n 32:=by unfold sg jA;rw [List.toList_toArray]
def vj {X:Cx}:kU X (binaryOp .Mult) (λa b H Q=>∃n,a=.str ⟨#[32]⟩/\b=.int ((n:Nat):Int)/\n<=3/\Q (.str (jA n)) H):=by
 intro ah s σ H a b v u Q I ra rb h;obtain⟨n,rfl,rfl,hn,q⟩:=h;obtain⟨t,rfl⟩:=ra;obtain⟨t2,rfl⟩:=rb
 match n,hn,q with
 | 0,_,q=>exact PySem.P.mul_str_none nofun nofun ⟨.str (jA 0),H,I.tok _,⟨_,rfl⟩,q⟩
 | 1,_,q =>
  refine PySem.P.mul_str nofun (λ_ h=>by simp at h) (λ_ h=>by simp at h) ?_;rw [ay nofun,az (by rfl)];exact⟨.str (jA 1),H,I,⟨_,rfl⟩,q⟩
 | 2,_,q =>
  refine PySem.P.mul_str nofun (λ_ _=>by decide) (λ_ _=>by decide) ?_;rw [ay nofun,ay nofun];exact⟨nofun,⟨.str (jA 2),H,I.tok _,⟨s.toks,rfl⟩,q⟩⟩
 | 3,_,q =>
  refine PySem.P.mul_str nofun (λ_ _=>by decide) (λ_ _=>by decide) ?_;rw [ay nofun,ay nofun];exact⟨nofun,⟨.str (jA 3),H,I.tok _,⟨s.toks,rfl⟩,q⟩⟩
theorem v_ (k:Nat):∀ts:List Str,wd (sg (Str.join (jA (k+1)) ts))=(ts.map λt=>wd (sg t)).flatten
 | []=>rfl
 | [x]=>by simp [Str.join]
 | x::y::r=>by
  show wd (sg (x++jA (k+1)++Str.join (jA (k+1)) (y::r)))=wd (sg x)++((y::r).map λt=>wd (sg t)).flatten;rw [df,df,lB,<-v_ k (y::r),gA];show wd (sg x++32::(List.replicate k 32++_))=_;rw [i7,yf]
def CZ {ps:List (List Nat)}(h:∀p∈ps,32∉p):(ps.map wd).flatten=ps.filter (·≠[]):=by
 induction ps with
 | nil=>rfl
 | cons p ps ih =>
  rw [br,List.flatten_cons,ih λq hq=>h q (cJ _ hq)];by_cases hp:p=[]
  .subst hp;simp [C0]
  rw [lg (h p bG) hp];simp [hp]
def Gi (k:Nat)(z:Str):wd (sg (Txt.join (jA (k+1)) (Txt.split z ⟨#[32]⟩)))=wd (sg z):=by
 have e:Txt.join (jA (k+1)) (Txt.split z ⟨#[32]⟩)=Str.join (jA (k+1)) (Txt.split z ⟨#[32]⟩):=kN _ _;rw [e,v_];have h2:=StrLaws.split_free z 32;have e2:((Txt.split z ⟨#[32]⟩).map λt=>wd (sg t))=((Txt.split z ⟨#[32]⟩).map sg).map wd:=by rw [gZ];rfl
 rw [e2,CZ λp hp=>by
  obtain⟨q,hq,rfl⟩:=cM.mp hp;exact h2 q hq]
 rw [iN];rfl
def JX (K:aY):V->List V->Hp->VK->Prop:=λx vs H Q=>∃z a ts,x=.str z/\vs=[.ref a]/\ba K H a (ts.map V.str)/\(ts.map (·.length)).sum+ts.length * z.length<=16777216/\Q (.str (Txt.join z ts)) H
def wU {X:Cx}:FC X "str.join" (JX X.K):=by
 intro ah s σ H x vs v us Q I rx rv h;obtain⟨z,a,ts,rfl,rfl,hq,hz,q⟩:=h;obtain⟨t,rfl⟩:=rx;obtain⟨u,rfl,ru⟩:=rv.one;cases (show u=Value.ref a from ru);obtain⟨aJ,r,pl,_⟩:=I.tuple hq;exact join_tuple pl (by simpa using uR r) hz λt' k=>⟨.str _,H,I.tok _,⟨_,rfl⟩,q⟩
end L2
namespace gu
open PySem L2 M11
abbrev va:Stmt:=top 46
abbrev yK:Stmt:=top 47
section
def BX:List Str:=["*","+","?"]
def NH:Str:=Txt.join "" BX
def eE (z:Str):Bool:=decide ((z.length:Int)<=14) && !zC (.str (Txt.rstripChars z NH)) [.str ":",.str "|"]
def qB:Sp:=λvs H Q _=>∃z:Str,vs=[.str z]/\z.length<=sizeLine/\∀H',aC H H'->Q (.bl (eE z)) H'
def Ds:aK ["word"] ["word"] (ax va):=iI rfl rfl rfl rfl nofun
def BJ {tm:Tok}{am:Addr}(F:ig K "is_part" "is_part" va f fd)(T:Txt mg)(hM:mg "MOST_SIGNS"=some (.int 14 tm))(hK:mg "MARKS"=some (.ref am))(hS:∀H,ba K H am (BX.map V.str)):bS P w K mg base fu 1 f fd ["word"] qB:=by
 refine F.ok Ds (λvs H Q E h=>?_) (λeB A outer s H vs Q E hr h=>?_)
 .obtain⟨z,rfl,_⟩:=h;rfl
 obtain⟨z,rfl,hz,q⟩:=h;refine⟨_,ar (bf (qK (jf Nw (aV nq rfl T.len fw (af (pv 0) aj)) (mM (v:=.int 14) rfl hM ⟨tm,rfl⟩) (cf _))
  (vh (jf mO (di ju PySem.F.slot_str_rstrip PySem.F.type_str_rstrip BQ (pv 0) (af (di ju pZ p5 wU aU (af (mM (v:=.ref am) rfl hK rfl) aj)) aj)) (bY (af aU (af aU aj))) rfl)))),?_⟩
 dsimp only [oH];refine⟨_,rfl,z,rfl,hz,_,_,rfl,rfl,_,rfl,?_⟩;refine dA (λc=>?_) (λc=>?_)
 .refine⟨_,rfl,rfl,rfl,"",am,BX,rfl,rfl,hS H,nofun,z,NH,rfl,rfl,hz,nofun,λp hp=>⟨p,_,rfl,.inr (ba.of ab),rfl,rfl,?_⟩⟩;have e:eE z=!zC (.str (Txt.rstripChars z NH)) [.str ":",.str "|"]:=by unfold eE;rw [c];rfl
  have h:=q _ (ae hp (.tup [.str ":",.str "|"]));rw [e] at h;exact h
 have e:eE z=false:=by unfold eE;rw [kJ.mpr c];rfl
 have h:=q H λ_ _ h=>h;rw [e] at h;exact h
def tP {z:Str}(h:z.length<=14)(h1:(sg z).head?≠some 58)(h2:(sg z).head?≠some 124):eE z=true:=by
 unfold eE;rw [fO ∅,p8,Bool.not_eq_true'];unfold zC;rw [List.any_eq_false];intro y hy e;rcases aW.mp hy with rfl | hy
 .exact h1 (mF (eq_of_beq (show ((":":Str) == Txt.rstripChars z NH)=true from e)).symm)
 rw [bH.mp hy] at e;exact h2 (mF (eq_of_beq (show (("|":Str) == Txt.rstripChars z NH)=true from e)).symm)
def again (z:Str):Bool:=decide ((1:Int) < (z.length:Int)) && ((sg z).getLast? == some 42 || (sg z).getLast? == some 43 || (sg z).getLast? == some 63)
def uU:Sp:=λvs H Q _=>∃z:Str,vs=[.str z]/\z.length<=sizeLine/\Q (.bl (again z)) H
def GI:aK ["part"] ["part"] (ax yK):=iI rfl rfl rfl rfl nofun
def Ek {am:Addr}(F:ig K "comes_again" "comes_again" yK f fd)(T:Txt mg)(hK:mg "MARKS"=some (.ref am))(hS:∀H,ba K H am (BX.map V.str)):bS P w K mg base fu 1 f fd ["part"] uU:=by
 refine F.ok GI (λvs H Q E h=>?_) (λeB A outer s H vs Q E hr h=>?_)
 .obtain⟨z,rfl,_⟩:=h;rfl
 obtain⟨z,rfl,hz,q⟩:=h;refine⟨_,ar (bf (qK (jf wL (aV nq rfl T.len fw (af (pv 0) aj)) ao (cf _))
  (vh (jf oi (aM zy (pv 0) (qJ lh ao) (λ_ _=>rfl)) (mM (v:=.ref am) rfl hK rfl) rfl)))),?_⟩
 dsimp only [oH];refine⟨_,rfl,z,rfl,hz,_,_,rfl,rfl,_,rfl,?_⟩;refine dA (λc=>?_) (λc=>?_)
 .have c':=dF c;obtain⟨x,ex⟩:∃x,(sg z).getLast?=some x:=by
   cases e:(sg z).getLast? with
   | some x=>exact⟨x,rfl⟩
   | none =>
    have e2:z.cps.toList=[]:=List.getLast?_eq_none_iff.mp e;have e3:z.length=0:=by show z.cps.size=0;rw [<-uz,e2];rfl
    omega
  have e0:again z=zC (.str ⟨#[x]⟩) (BX.map V.str):=by
   unfold again;rw [c,ex,p8];show ((some x == some 42) || (some x == some 43) || (some x == some 63))=(((⟨#[42]⟩:Str) == ⟨#[x]⟩) || (((⟨#[43]⟩:Str) == ⟨#[x]⟩) || (((⟨#[63]⟩:Str) == ⟨#[x]⟩) || false)))
   rw [PyProof.Rows.one_beq,PyProof.Rows.one_beq,PyProof.Rows.one_beq,Bool.or_false,Bool.or_assoc,il];simp only [Bool.or_eq_true,beq_iff_eq,Option.some.injEq,decide_eq_true_eq];omega
  rw [e0] at q;refine⟨_,rfl,1,rfl,z,-1,x,rfl,rfl,hz,?_,am,_,rfl,.inr (hS H),rfl,nofun,q⟩;obtain⟨l,el⟩:=List.getLast?_eq_some_iff.mp ex;rw [show z.cps.toList=l++[x] from el];exact nr _ _
 have e:again z=false:=by unfold again;rw [kJ.mpr c];rfl
 rw [e] at q;exact q
end
end gu
namespace L2
open PySem
def rJ {X:Cx}(K:aY)(hK:X.K=K:=by rfl):eK X (.type "tuple") (λxs H Q=>∃p ys,xs=[.ref p]/\((aD K H p ys/\∀l,H l=none->Q (.ref l) (upd H l (.tup ys)))\/(ba K H p ys/\Q (.ref p) H))):=by
 subst hK;exact eC
end L2
namespace gu
open PySem L2 M11
abbrev lC:Stmt:=top 45
section
def cZ (d:List (List Str)) (c:List Str):List Str->Option (List (List Str))
 | []=>some (d++[c])
 | w::ws=>if w=("|":Str) then cZ (d++[c]) [] ws else if eE w=true then cZ d (c++[w]) ws else none
def Fv (R:Addr)(H H':Hp):Prop:=∀b o,b≠R->H b=some o->H' b=some o
def oY (K:aY):Sp:=λvs H Q _=>∃(h:Str)(W R:Addr) (ws:List Str)(rs:List Addr)(aa:List aB),vs=[.str h,.ref W,.ref R]/\aD K H W (ws.map V.str)/\ws.length<=100000/\(∀z∈ws,z.length<=sizeLine) /\
 H R=some (.lst (rs.map V.ref))/\aS K H rs aa/\rs.length<=100000/\(cZ [] [] ws=none->∀H',aC H H'->Q (.bl false) H') /\
 (∀rws,cZ [] [] ws=some rws->∀mH H',mH.length=rws.length->Fv R H H'->H' R=some (.lst ((rs++mH).map V.ref))->aS K H' (rs++mH) (aa++rws.map λp=>(h,p))->Q (.bl true) H')
theorem wI {α β:Type}{F:α->β->Prop}:∀{xs:List α}{ys:List β},Paired F xs ys->∀{i:Nat}{x:α},xs[i]?=some x->∃y,ys[i]?=some y/\F x y
 | _,_,.nil,i,x,e=>by cases i <;> cases e
 | _,_,.cons h t,0,x,e=>by cases e;exact⟨_,rfl,h⟩
 | _,_,.cons h t,i+1,x,e=>wI t e
theorem wJ {α β:Type}{F:α->β->Prop}:∀{xs:List α}{ys:List β}{CF:List α}{MO:List β},Paired F xs ys->Paired F CF MO->Paired F (xs++CF) (ys++MO)
 | _,_,_,_,.nil,h=>h
 | _,_,_,_,.cons h t,h2=>.cons h (wJ t h2)
structure Fx (H:Hp)(A0:Addr) (ws:List Str) (i:Nat)(H2:Hp)(d:List (List Str)) (c:List Str)(kR:List Addr)(ca:Addr):Prop where
 sm:aC H H2
 hA:H2 A0=some (.lst ((kR++[ca]).map V.ref))
 hd:Paired (λa l=>H2 a=some (.lst (List.map V.str l))) kR d
 hc:H2 ca=some (.lst (c.map V.str))
 fr:∀a∈kR++[ca],H a=none/\a≠A0
 fA:H A0=none
 nc:ca∉kR
 ld:d.length<=i
 lc:c.length<=i
 eq:cZ d c (ws.drop i)=cZ [] [] ws
def Fx.same {H H2 H3:Hp}{A0 ca:Addr}{ws:List Str}{i:Nat}{d:List (List Str)}{c:List Str}{kR:List Addr}(v:Fx H A0 ws i H2 d c kR ca)(s:aC H2 H3):Fx H A0 ws i H3 d c kR ca :=
 ⟨v.sm.trans s,s _ _ v.hA,Paired.gS v.hd λ_ _ z=>s _ _ z,s _ _ v.hc,v.fr,v.fA,v.nc,v.ld,v.lc,v.eq⟩
theorem tJ {H2:Hp}:∀{kR:List Addr}{d:List (List Str)},Paired (λa l=>H2 a=some (.lst (List.map V.str l))) kR d->∀a∈kR,H2 a≠none
 | _,_,.cons h t,a,ha=>by
  rcases aW.mp ha with rfl | ha
  .rw [h];exact λz=>by cases z
  exact tJ t a ha
theorem mN {H2:Hp}{p:Addr}{o:HO}:∀{kR:List Addr}{d:List (List Str)},p∉kR->Paired (λa l=>H2 a=some (.lst (List.map V.str l))) kR d->Paired (λa l=>upd H2 p o a=some (.lst (List.map V.str l))) kR d
 | _,_,_,.nil=>.nil
 | _,_,hp,.cons h t=>.cons (by rw [ai λz=>hp (by rw [<-z];exact bG)];exact h) (mN (λz=>hp (cJ _ z)) t)
def Fx.cut {H H2:Hp}{A0 ca p:Addr}{ws:List Str}{i:Nat}{d:List (List Str)}{c:List Str}{kR:List Addr}(v:Fx H A0 ws i H2 d c kR ca)(ex:ws[i]?=some ("|":Str))(hp:H2 p=none) :
  Fx H A0 ws (i+1) (upd (upd H2 p (.lst [])) A0 (.lst ((kR++[ca]).map V.ref++[.ref p]))) (d++[c]) [] (kR++[ca]) p:=by
 have W7:p≠A0:=λz=>by rw [z,v.hA] at hp;cases hp
 have Xl:H p=none:=v.sm.free hp;have Wr:p∉kR++[ca]:=λhm=>by
  rcases aX.mp hm with hm | hm
  .exact tJ v.hd p hm hp
  rw [bH.mp hm,v.hc] at hp;cases hp
 have nA:A0∉kR++[ca]:=λhm=>(v.fr _ hm).2 rfl;obtain⟨hi,e⟩:=bx.mp ex;refine⟨λb o hb=>?_,by rw [ab,aQ (l₁:=kR++[ca])];rfl,?_,?_,?_,v.fA,Wr,by rw [bW];have:=v.ld;simp;omega,dD _,?_⟩
 .rw [ai (aq hb v.fA),ai (aq hb Xl)];exact v.sm b o hb
 .refine mN nA (mN Wr ?_);exact fN v.hd v.hc
 .rw [ai W7,ab];rfl
 .intro a ha;rcases aX.mp ha with ha | ha
  .exact v.fr a ha
  rw [bH.mp ha];exact⟨Xl,W7⟩
 rw [<-v.eq,v7 hi,e];show _=cZ d c (("|":Str)::_);rw [cZ,az rfl]
def Fx.put {H H2:Hp}{A0 ca:Addr}{ws:List Str}{i:Nat}{d:List (List Str)}{c:List Str}{kR:List Addr}{w:Str}(v:Fx H A0 ws i H2 d c kR ca)(ex:ws[i]?=some w)(hw:w≠("|":Str))(hi:eE w=true) :
  Fx H A0 ws (i+1) (upd H2 ca (.lst (c.map V.str++[.str w]))) d (c++[w]) kR ca:=by
 have hf:=v.fr ca (fX _ (bH.mpr rfl));obtain⟨hl,e⟩:=bx.mp ex;refine⟨λb o hb=>?_,by rw [ai hf.2.symm];exact v.hA,mN v.nc v.hd,by rw [ab,aQ];rfl,v.fr,v.fA,v.nc,Nat.le_succ_of_le v.ld,by rw [bW];have:=v.lc;simp;omega,?_⟩
 .rw [ai (aq hb hf.1)];exact v.sm b o hb
 rw [<-v.eq,v7 hl,e];rw [cZ,ay hw,az hi]
def jU:aK ["head","words","rules","rows","word"] ["head","words","rules"] (ax lC):=iI rfl rfl rfl rfl nofun
def vk (F:ig K "read_rules" "read_rules" lC f fd)(T:Txt mg)(GP:aH P w K mg base 1 "is_part" ["word"] qB):bS P w K mg base fu 2 f fd ["head","words","rules"] (oY K):=by
 refine F.ok jU (λvs H Q E h=>?_) (λeB A outer s H vs Q E hr h=>?_)
 .obtain⟨h,W,R,ws,rs,aa,rfl,_⟩:=h;rfl
 obtain⟨h,W,R,ws,rs,aa,rfl,hW,hl,hz,hR,cK,Qc,q0,q1⟩:=h;refine⟨_,ak (aE (i:=3) jU.nd rfl (bJ rfl) (bA (af (bA aj) aj)))
  (ak (cw cP rfl (a9 (pv 1)) (au (i:=4) jU.nd rfl (bJ rfl))
   (ar (cN (bB mQ (pv 4) aU (cf _)) (ar (cx (di fQ gM gN bX (pv 3) (af (bA aj) aj))))
    (ar (cN (fk (bI GP hr rfl (af (pv 4) aj))) (ar (cx (di fQ gM gN bX (aM aP (pv 3) (qJ lh ao) (λ_ _=>rfl)) (af (pv 4) aj))))
     (ar (bf eV)))))))
  (ak (cx (di fQ PySem.F.slot_list_extend PySem.F.type_list_extend BV (pv 2) (af (bL ["parts"] [(0,"head")] rfl (a9 (pv 3)) (a_ rfl rfl) nofun rfl nofun
    (λ_ _ _ _ _=>au (i:=0) (show (["parts","head"]:List Str).Nodup by decide +kernel) rfl (bJ rfl)) (λ_ _ _ _ _=>cb) (λ_ _ _ _ _=>bY (af (pv 1) (af (a8 (rJ K) rfl T.tup oW (af (pv 0) aj)) aj)))) aj)))
  (ar (bf eV)))),?_⟩
 dsimp only [oH];refine⟨sj,λc0 OH=>⟨CT,λA0 Qt=>?_⟩⟩;have nA:A0≠c0:=λz=>by rw [z,ab] at Qt;cases Qt
 have fA:H A0=none:=by rw [ai nA] at Qt;exact Qt
 have v0:Fx H A0 ws 0 (upd (upd H c0 (.lst [])) A0 (.lst [.ref c0])) [] [] [] c0:=by
  refine⟨λb o hb=>by rw [ai (aq hb fA),ai (aq hb OH)];exact hb,ab,.nil,by rw [ai nA.symm,ab];rfl,λa ha=>?_,fA,(λz=>by cases z),aL _,aL _,rfl⟩;rw [bH.mp ha];exact⟨OH,nA.symm⟩
 generalize upd (upd H c0 (.lst [])) A0 (.lst [.ref c0])=H1 at v0;refine⟨_,rfl,W,rfl,⟨_,v0.sm.seq hW⟩,eZ (xs:=ws.map V.str) (λi σ H2=>∃d c kR ca y,σ=[some (.str h),aG W,aG R,aG A0,y]/\Fx H A0 ws i H2 d c kR ca) ⟨_,_,_,_,none,rfl,v0⟩ ?_ ?_ ?_⟩
 .rintro i σ H2 _ ⟨d,c,kR,ca,y,_,v⟩;exact v.sm.seq hW
 .rintro i x σ H2 ex ⟨d,c,kR,ca,y,rfl,v⟩;rw [aZ] at ex;obtain⟨z,ez,rfl⟩:=b_.mp ex;have hi:=(bx.mp ez).1;have ld:=v.ld;have lc:=v.lc;have ll:=bK v.hd;refine goN ?_;refine⟨_,rfl,rfl,_,rfl,?_⟩;refine dA (λe=>?_) (λe=>?_)
  .have e':z=("|":Str):=by
    have:=dF e;injection this
   subst e';refine⟨_,rfl,.inl ⟨rfl,_,aD.of v.hA⟩,sj,λp hp=>⟨A0,(kR++[ca]).map V.ref,_,rfl,rfl,?_,?_,?_⟩⟩
   .rw [ai (aq v.hA hp)];exact v.hA
   .exact bo (by rw [av,bW,ll];simp;omega)
   exact⟨_,_,_,_,_,rfl,v.cut ez hp⟩
  have e':z≠("|":Str):=λhh=>e (fO (congrArg V.str hh));refine⟨_,rfl,z,rfl,hz z (cv ez),λH3 s3=>⟨_,rfl,?_⟩⟩;have v3:=v.same s3;refine dA (λhp=>?_) (λhp=>?_)
  .refine⟨_,rfl,1,rfl,A0,_,_,.ref ca,rfl,rfl,aD.of v3.hA,?_,.inl ⟨rfl,_,aD.of v3.hc⟩,_,rfl,ca,_,_,rfl,rfl,v3.hc,?_,?_⟩
   .rw [aQ];exact nr _ _
   .exact bo (by rw [av];omega)
   exact⟨_,_,_,_,_,rfl,v3.put ez e' hp⟩
  refine q0 ?_ H3 v3.sm;rw [<-v.eq,v7 hi,(bx.mp ez).2,cZ,ay e',ay hp]
 rintro σ H2 ⟨d,c,kR,ca,y,rfl,v⟩;have ld:=v.ld;have ll:=bK v.hd;rw [av] at v ld;have e0:cZ [] [] ws=some (d++[c]):=by rw [<-v.eq,List.drop_length];rfl
 have pr:Paired (λa l=>H2 a=some (.lst (List.map V.str l))) (kR++[ca]) (d++[c]):=fN v.hd v.hc;have lp:=bK pr;have lb:(d++[c]).length<=100001:=by rw [bW];simp;omega
 refine⟨_,rfl,.inl ⟨rfl,_,aD.of (v.sm _ _ hR)⟩,_,rfl,A0,rfl,⟨_,aD.of v.hA⟩,λD hD=>bq (xs:=(kR++[ca]).map V.ref) (λi ys σ2 H3=>∃ts:List Addr,ys=ts.map V.ref/\ts.length=i/\aS K H3 ts (((d++[c]).take i).map λp=>(h,p))/\(∃y0,σ2=[y0,some (.str h)])/\aC H2 H3/\H3 D=some (.lst ys))
  ⟨[],rfl,rfl,.nil,⟨none,rfl⟩,ae hD _,ab⟩ (λi ys σ2 H3 _ h=>?_) (λi x ys σ2 H3 ex h=>?_) (λys σ2 H3 h=>?_)⟩
 .obtain⟨_,_,_,_,_,sm,_⟩:=h;exact sm.seq (aD.of v.hA)
 .obtain⟨ts,rfl,ht,hp,⟨y0,rfl⟩,sm,hd⟩:=h;rw [aZ] at ex;obtain⟨a,ea,rfl⟩:=b_.mp ex;obtain⟨l,el,ha⟩:=wI pr ea;have ha3:=sm _ _ ha;have li:i<=100001:=by have:=(bx.mp el).1;omega
  refine goN (sD ?_);refine⟨_,rfl,_,rfl,a,_,rfl,.inl ⟨aD.of ha3,λp o8=>⟨lV,λt ij=>?_⟩⟩⟩;have Xq:upd H3 p (.tup (l.map V.str)) D=some (.lst (ts.map V.ref)):=by rw [ai (aq hd o8)];exact hd
  have vE:upd (upd H3 p (.tup (l.map V.str))) t (.tup [.str h,.ref p]) D=some (.lst (ts.map V.ref)):=by rw [ai (aq Xq ij)];exact Xq
  have s4:=(ae o8 (.tup (l.map V.str))).trans (ae ij (.tup [.str h,.ref p]));have tp:ba K (upd (upd H3 p (.tup (l.map V.str))) t (.tup [.str h,.ref p])) p (l.map V.str):=(ae ij (.tup [.str h,.ref p])).tup (ba.of ab);refine⟨vE,bo (by rw [av];omega),ts++[t],?_,?_,?_,⟨_,rfl⟩,?_,ab⟩
  .rw [aQ];rfl
  .rw [bW,ht];rfl
  .rw [cY,el,aQ];exact fN ((hp.same s4).keep λ_ _ z=>aR vE z) ⟨p,aR vE (ba.of ab),aR vE tp⟩
  intro b o hb;rw [ai (λz=>by rw [z,hD] at hb;cases hb)];exact s4 _ _ (sm b o hb)
 obtain⟨ts,rfl,ht,hp,_,sm,hd⟩:=h;rw [av,lp] at ht hp;rw [dB] at hp;have Ui:=sm _ _ (v.sm _ _ hR);have sH:=v.sm.trans sm;refine⟨R,D,_,_,rfl,rfl,Ui,hd,fits (by rw [av,av];show rs.length+ts.length<=1000000;omega),?_⟩;refine q1 _ e0 ts _ ht (λb o hb hh=>by rw [ai hb];exact sH _ _ hh) (by rw [ab,aQ]) ?_;exact wJ ((cK.same sH).keep λ_ _ z=>aR Ui z) (hp.keep λ_ _ z=>aR Ui z)
end
end gu
namespace L2
open PySem PySem.Spec PyProof.Rows
section
variable {prog:Program}{w:World}{A:Around}{E:Value->Shared->Prop}{s:Shared}
abbrev Aa (h:Heap)(z:Addr)(f0 f1:Value)(TI TO:Addr):Prop:=h.get? z=some { cls:=.type "zip",data:=.fields #[f0,f1,.bool false,.ref TI,.ref TO] }
end
structure VD (h:Heap)(z TI TO i1 i2 l1 l2:Addr)(xs ys:Array Value) (i:Nat):Prop where
 hz:∃f0 f1,Aa h z f0 f1 TI TO/\(f0=.none\/∃T:Nat,f0=rawInt T)
 hI:IsPair h TI (.ref i1) (.ref i2)
 hO:∃a b,IsPair h TO a b
 h1:h.IsTupleIter i1 l1 i
 h2:h.IsTupleIter i2 l2 i
 t1:h.IsTuple l1 xs
 t2:h.IsTuple l2 ys
def wg {h h':Heap}{l:Addr}{xs:Array Value}(t:h.IsTuple l xs)(k:∀o,h.get? l=some o->h'.get? l=some o):h'.IsTuple l xs:=by
 obtain⟨o,a,b,c⟩:=t;exact⟨o,k o a,b,c⟩
def uq (h:Heap) (N:Nat)(xs ys bF:Array Value):Prop:=∃Ts:List Nat,bF.toList=Ts.map Value.ref/\Ts.Pairwise (· < ·)/\∀(j T:Nat),Ts[j]?=some T->N<=T/\∃x y:Value,IsPair h T x y/\xs[j]?=some x/\ys[j]?=some y
def uq.keep {h h':Heap}{N:Nat}{xs ys bF:Array Value}(a:uq h N xs ys bF)(k:∀(T:Nat) o,N<=T->h.get? T=some o->h'.get? T=some o):uq h' N xs ys bF:=by
 obtain⟨Ts,e1,e2,e3⟩:=a;refine⟨Ts,e1,e2,λj T hj=>?_⟩;obtain⟨l,x,y,p,q⟩:=e3 j T hj;exact⟨l,x,y,k T _ l p,q⟩
def uq.more {h:Heap}{N T0:Nat}{xs ys bF:Array Value}{x y:Value}(a:uq h N xs ys bF)(lt:∀(Ts:List Nat),bF.toList=Ts.map Value.ref->∀T∈Ts,T < T0)(hN:N<=T0)(p:IsPair h T0 x y)(hx:xs[bF.size]?=some x)(hy:ys[bF.size]?=some y):uq h N xs ys (bF.push (.ref T0)):=by
 obtain⟨Ts,e1,e2,e3⟩:=a;have el:Ts.length=bF.size:=by
  have:=congrArg List.length e1;rw [av] at this;rw [<-this];simp
 refine⟨Ts++[T0],by rw [Array.toList_push,e1,aQ];rfl,List.pairwise_append.mpr ⟨e2,by simp,λT hT b hb=>by rw [bH.mp hb];exact lt Ts e1 T hT⟩,λj T hj=>?_⟩;by_cases c:j < Ts.length
 .rw [sN c] at hj;exact e3 j T hj
 rw [sO ∅] at hj;have c2:j - Ts.length=0:=by
  have:=(bx.mp hj).1;simp at this;omega
 rw [c2] at hj;cases hj;have:j=bF.size:=by omega
 rw [this];exact⟨hN,x,y,p,hx,hy⟩
def VD.keep {h h':Heap}{z TI TO i1 i2 l1 l2:Addr}{xs ys:Array Value}{i:Nat}(st:VD h z TI TO i1 i2 l1 l2 xs ys i)(k:∀b o,h.get? b=some o->h'.get? b=some o):VD h' z TI TO i1 i2 l1 l2 xs ys i:=by
 obtain⟨⟨f0,f1,a,b⟩,hI,⟨c,d,hO⟩,h1,h2,t1,t2⟩:=st;exact⟨⟨f0,f1,k _ _ a,b⟩,k _ _ hI,⟨c,d,k _ _ hO⟩,h1.at λo q=>k _ _ q,h2.at λo q=>k _ _ q,wg t1 λo q=>k _ _ q,wg t2 λo q=>k _ _ q⟩
end L2
namespace HT
open PySem PyProof.Rows
section
variable {prog:Program}{w:World}{A:Around}{E:Value->Shared->Prop}{s:Shared}
end
end HT
namespace L2
open PySem PySem.Spec PyProof.Rows
open PySem
section
variable {prog:Program}{w:World}{A:Around}{E:Value->Shared->Prop}{s:Shared}
end
def Inv.Gm {X:Cx}{ah:List (Addr×Obj)}{σ:St}{H:Hp}{s:Shared}{h':Heap}{t':Nat}{fp:List Addr}(I:Inv X ah σ H s)(hf:∀b∈fp,rT X ah H b)(k:∀b o,b∉fp->s.heap.get? b=some o->h'.get? b=some o):Inv X ah σ H { s with heap:=h',toks:=t' }:=by
 have tr:∀b v,H b=some v->b∉fp:=λb v q hb=>by rw [(hf b hb).1] at q;cases q
 refine I.call (g':=s.gens) (t':=t') (d':=s.drawn) (ch:=fp) ⟨λb o q _ _ c=>k b o c q,λb o q _ _ c=>⟨o.slots,k b o c q⟩,λb o q n _=>n,λb o q c=>⟨o,k b o c q⟩,λb ys q=>q,λb o v q=>q,λb ps q=>⟨#[],by rw [q];simp⟩⟩ (λb v q=>?_) I.bare (λb hb=>?_)
 .refine(I.bU b v q).g7 (λc o iz z=>?_) (λc q'=>q') λc ys q'=>q';rcases iz with rfl | iz
  .exact k c o (tr c _ q) z
  exact k c o (tr c _ iz) z
 have f:=hf b hb;exact⟨f.2.2.2.1,f.2.1,f.2.2.2.2.1,f.2.2.2.2.2⟩
def Inv.Gk {X:Cx}{ah:List (Addr×Obj)}{σ:St}{H:Hp}{s:Shared}{h':Heap}{t':Nat}{fp:List Addr}{x y:V}{u v:Value}(I:Inv X ah σ H s)(hf:∀b∈fp,rT X ah H b)(k:∀b o,b∉fp->s.heap.get? b=some o->h'.get? b=some o)
  (T2:IsPair h' s.heap.objs.size u v)(ru:RelV x u)(rv:RelV y v):Inv X ah σ (upd H s.heap.objs.size (.tup [x,y])) { s with heap:=h',toks:=t' }:=by
 have fT:H s.heap.objs.size=none:=I.bU.fresh (aL _);have tr:∀b v,H b=some v->b∉fp:=λb v q hb=>by rw [(hf b hb).1] at q;cases q
 have lt:∀b o,s.heap.get? b=some o->b≠s.heap.objs.size:=λb o q=>bT (bc q);refine I.call (g':=s.gens) (t':=t') (d':=s.drawn) (ch:=fp) ⟨λb o q _ _ c=>k b o c q,λb o q _ _ c=>⟨o.slots,k b o c q⟩,
  λb o q n _=>by rw [ai (lt b o q)];exact n,λb o q c=>⟨o,k b o c q⟩,λb ys q=>by rw [ai (aq q fT)];exact q,λb o v q=>by rw [ai (aq q fT)];exact q,
  λb ps q=>⟨#[],by rw [ai (aq q fT),q];simp⟩⟩ (λb w q=>?_) I.bare (λb hb=>?_)
 .by_cases hb:b=s.heap.objs.size
  .subst hb;rw [ab] at q;cases q;exact⟨by show 2<=sizeLine;decide,[u,v],.cons ru (.cons rv .nil),_,T2,rfl,_,rfl⟩
  rw [ai hb] at q;refine(I.bU b w q).g7 (λc o iz z=>?_) (λc q'=>by rw [ai (aq q' fT)];exact q') λc ys q'=>by rw [ai (aq q' fT)];exact q'
  rcases iz with rfl | iz
  .exact k c o (tr c _ q) z
  exact k c o (tr c _ iz) z
 have f:=hf b hb;exact⟨f.2.2.2.1,f.2.1,f.2.2.2.2.1,f.2.2.2.2.2⟩
structure ZTn (h:Heap)(z TI TO i1 i2 l1 l2:Addr) (i:Nat):Prop where
 hz:∃f0 f1,Aa h z f0 f1 TI TO/\(f0=.none\/∃T:Nat,f0=rawInt T)
 hI:IsPair h TI (.ref i1) (.ref i2)
 hO:∃a b,IsPair h TO a b
 h1:h.IsTupleIter i1 l1 i
 h2:h.IsTupleIter i2 l2 i
end L2
namespace HT
open PySem PySem.Spec PyProof.Rows
section
variable {prog:Program}{w:World}{A:Around}{E:Value->Shared->Prop}{s:Shared}
end
end HT
namespace L2
open PySem PySem.Spec PyProof.Rows
section
variable {prog:Program}{w:World}{A:Around}{E:Value->Shared->Prop}{s:Shared}
end
def HL:List V->List V->Bool
 | [],[]=>true
 | x::xs,y::ys=>xj x y && HL xs ys
 | _,_=>false
theorem oC:∀(xs ys:List V),((List.range (min xs.length ys.length)).all (λj=>xj (xs.getD j .d5) (ys.getD j .d5)) && (xs.length == ys.length))=HL xs ys
 | [],[]=>rfl
 | [],y::ys=>by simp [HL]
 | x::xs,[]=>by simp [HL]
 | x::xs,y::ys=>by
  have ih:=oC xs ys;show _=(xj x y && HL xs ys);rw [<-ih,bV,bV,Nat.succ_min_succ,List.range_succ_eq_map,List.all_cons,List.all_map];simp only [Function.comp_def,List.getD_cons_zero,List.getD_cons_succ,Nat.succ_eq_add_one];rw [Bool.and_assoc]
  congr 2
  simp
def zQ {A:Around}{s:Shared}{xs ys:List V}{aJ eY:List Value}(r:aT xs aJ)(r2:aT ys eY)(fx:xs.all ie=true)(fy:ys.all ie=true) (j:Nat)(h1:j < aJ.toArray.size)(h2:j < eY.toArray.size) :
  SeqAt.EqAt A s aJ.toArray[j] eY.toArray[j] (xj (xs.getD j .d5) (ys.getD j .d5)):=by
 have l1:=r.length;have l2:=r2.length;have k1:j < aJ.length:=by simpa using h1
 have k2:j < eY.length:=by simpa using h2
 have g1:xs[j]?=some (xs[j]'∅):=dw ∅;have g2:ys[j]?=some (ys[j]'∅):=dw ∅;obtain⟨u1,e1,q1⟩:=r.get g1;obtain⟨u2,e2,q2⟩:=r2.get g2;have f1:aJ.toArray[j]=u1:=by
  have:=(bx.mp e1).2;simpa using this
 have f2:eY.toArray[j]=u2:=by
  have:=(bx.mp e2).2;simpa using this
 rw [f1,f2];have d1:xs.getD j .d5=xs[j]'∅:=by rw [oX,g1];rfl
 have d2:ys.getD j .d5=ys[j]'∅:=by rw [oX,g2];rfl
 rw [d1,d2];exact zS q1 q2 (gL.mp fx _ (pW _)) (gL.mp fy _ (pW _))
def kx (l:Addr)(items:Array Value)(T5:(items.size:Int) < 2 ^ 63) :
  Meets (Builtin.«bool.__new__» ⟨[.type "bool",.ref l],[]⟩) (λ_ R s=>s.heap.IsList l items/\R (.ok (.ret (.bool (!items.isEmpty)))) { s with toks:=s.toks+1+1 }) :=
 Meets.of_wp λprog w A R s hs=>by
  obtain⟨hl,hs⟩:=hs;obtain⟨hp,g,d,tk,os⟩:=s;have f1:=F.conv_sub_bool
  repeat (any_goals (first | assumption | (with_reducible refine wpAny_truthy_list hl T5 ?_) | wp_step))
  all_goals first | exact⟨_,rfl,hs⟩ | exact hs | skip
def z0 {X:Cx}:eK X (.type "bool") (λxs H Q=>∃p ys,xs=[.ref p]/\aD X.K H p ys/\Q (.bl (!ys.isEmpty)) H):=by
 intro ah s σ H xs us Q I r h;obtain⟨p,ys,rfl,hq,q⟩:=h;obtain⟨u,rfl,rx⟩:=vals1 r;cases (show u=Value.ref p from rx);obtain⟨aJ,rv,pl,hz⟩:=I.list hq;have l1:=rv.length;have hn:=jX;refine call_bool_1 (kx p aJ.toArray (by simp only [bO];omega)) ⟨pl.isList,rfl,?_⟩;have e:(aJ.toArray.isEmpty)=ys.isEmpty:=by
  cases aJ with
  | nil=>cases ys with
   | nil=>rfl
   | cons _ _=>cases l1
  | cons _ _=>cases ys with
   | nil=>cases l1
   | cons _ _=>rfl
 rw [e];exact⟨.bl _,H,I.tok _,rfl,q⟩
def ZN (K:aY):R2:=λx y H Q=>∃a b xs ys,x=.ref a/\y=.ref b/\aD K H a xs/\aD K H b ys/\xs.all ie=true/\ys.all ie=true/\Q (.bl (HL xs ys)) H
def Hd {X:Cx}(hu:X.A.units < cLine):kU X (compareOp .Eq) (ZN X.K):=by
 intro ah s σ H x y v u Q I rx ry h;obtain⟨a,b,xs,ys,rfl,rfl,ha,hb,fx,fy,q⟩:=h;cases rx;cases ry;obtain⟨aJ,r,pl,hz⟩:=I.list ha;obtain⟨eY,r2,wF,IS⟩:=I.list hb;have l1:=r.length;have l2:=r2.length;by_cases hl:xs.length=ys.length
 .refine SeqAt.eq_listAt (e:=λj=>xj (xs.getD j .d5) (ys.getD j .d5)) pl.isList wF.isList (by simp only [bO];omega) hu (λj h1 h2=>zQ r r2 fx fy j h1 h2) ?_;have e:((List.range aJ.toArray.size).all (λj=>xj (xs.getD j .d5) (ys.getD j .d5)))=HL xs ys:=by
   rw [<-oC,hl,Nat.min_self,pX,Bool.and_true,bO,<-l1,hl]
  rw [e];exact⟨.bl _,H,I,rfl,q⟩
 have e:HL xs ys=false:=by
  rw [<-oC,beq_false_of_ne hl,Bool.and_false]
 rw [e] at q;refine SeqAt.eq_list_lengthsAt pl.isList wF.isList ?_ hu ⟨.bl false,H,I,rfl,q⟩;rw [bO,bO,<-l1,<-l2]
 first | exact hl | exact beq_false_of_ne hl | simpa using hl
end L2
namespace gu
open PySem L2 M11
abbrev qD:Stmt:=top 44
section
def pV (ns:List Str) (k:Nat):dq (ns.map V.str) (some (k:Int)) none=(ns.drop k).map V.str:=by
 have e1:HT.jw (ns.map V.str).length 0 (some (k:Int))=min k ns.length:=by
  unfold HT.jw;rw [av];simp;omega
 have e2:HT.jw (ns.map V.str).length (ns.map V.str).length none=ns.length:=by
  unfold HT.jw;rw [av]
 unfold dq;rw [e1,e2,<-jL];have h3:ns.drop (min k ns.length)=ns.drop k:=by
  by_cases h:k<=ns.length
  .rw [Nat.min_eq_left h]
  rw [Nat.min_eq_right ∅,List.drop_length,List.drop_of_length_le ∅]
 rw [h3,oV];rw [av,fj];omega
def Je:∀ns:List Str,dq (ns.map V.str) (some 1) (some 2)=((ns.drop 1).take 1).map V.str
 | []=>rfl
 | [_]=>rfl
 | a::b::r=>by
  have e1:HT.jw ((a::b::r).map V.str).length 0 (some (1:Int))=1:=by
   unfold HT.jw;rw [av];simp
  have e2:HT.jw ((a::b::r).map V.str).length ((a::b::r).map V.str).length (some (2:Int))=2:=by
   unfold HT.jw;rw [av];simp
  unfold dq;rw [e1,e2];rfl
theorem qL {α β:Type}{F:α->β->Prop}:∀{ys:List β}{y:β}{xs:List α},Paired F xs (ys++[y])->∃zs z,xs=zs++[z]/\Paired F zs ys/\F z y
 | [],y,_,.cons r .nil=>⟨[],_,rfl,.nil,r⟩
 | _::ys,y,_,.cons r t=>by
  obtain⟨zs,z,rfl,h1,h2⟩:=qL (ys:=ys) t;exact⟨_::zs,z,rfl,.cons r h1,h2⟩
def lY (x:Str) (r:List Str):ik ((x::r).map V.str) 0=some (.str x):=bE (j:=0) rfl
def Fv.tup {R:Addr}{H H':Hp}{ys:List V}(e:Fv R H H')(hR:H R=some (.lst ys)){a:Addr}{xs:List V}(h:ba K H a xs):ba K H' a xs:=by
 rcases h with (h | ⟨u,h⟩) | h
 .exact .inl (.inl (e _ _ (λz=>by rw [z,hR] at h;cases h) h))
 .exact .inl (.inr ⟨u,e _ _ (λz=>by rw [z,hR] at h;cases h) h⟩)
 exact .inr h
def ml:List Str:=["left","right","none"]
def Fu (R S:Addr)(H H':Hp):Prop:=∀b o,b≠R->b≠S->H b=some o->H' b=some o
inductive uo (aa dZ:List aB):List Str->List aB->List aB->Prop
 | more (h:Str) (ps:List Str) (rest:List Str)(rws:List (List Str))(e:aa.getLast?=some (h,ps))(er:cZ [] [] rest=some rws):uo aa dZ (("|":Str)::rest) (aa++rws.map λp=>(h,p)) dZ
 | head (h:Str) (rest:List Str)(rws:List (List Str))(hn:h≠("|":Str))(hp:eE h=true)(ha:again h=false)(er:cZ [] [] rest=some rws):uo aa dZ (h::(":":Str)::rest) (aa++rws.map λp=>(h,p)) dZ
 | way (z:Str) (rest:List Str)(hz:z∈ml)(hr:rest≠[])(hc:rest.head?≠some (":":Str))(hp:∀p∈rest,eE p=true):uo aa dZ (z::rest) aa (dZ++[(z,rest)])
def Jq:∀z∈ml,z≠("|":Str):=by decide
def Jr:∀z∈ml,zC (.str z) (ml.map V.str)=true:=by decide
def sY (K:aY):Sp:=λvs H Q _=>∃(W R S:Addr) (ws:List Str)(rs ss:List Addr)(aa dZ ve Gr:List aB),vs=[.ref W,.ref R,.ref S]/\aD K H W (ws.map V.str)/\ws.length<=100000/\(∀z∈ws,z.length<=sizeLine) /\
 H R=some (.lst (rs.map V.ref))/\aS K H rs aa/\rs.length<=100000/\H S=some (.lst (ss.map V.ref))/\aS K H ss dZ/\ss.length<=100000/\R≠S/\uo aa dZ ws ve Gr /\
 (∀PV PN H',Fu R S H H'->H' R=some (.lst (PV.map V.ref))->aS K H' PV ve->H' S=some (.lst (PN.map V.ref))->aS K H' PN Gr->Q (.bl true) H')
def Bt:aK ["words","rules","strengths"] ["words","rules","strengths"] (ax qD):=iI rfl rfl rfl rfl nofun
def zd {aw:Addr}(F:ig K "read_row" "read_row" qD f fd)(T:Txt mg)(hW:mg "WAYS"=some (.ref aw))(hS:∀H,ba K H aw (ml.map V.str))(GP:aH P w K mg base 1 "is_part" ["word"] qB)(GA:aH P w K mg base 1 "comes_again" ["part"] uU)
  (GR:aH P w K mg base 2 "read_rules" ["head","words","rules"] (oY K)):bS P w K mg base fu 3 f fd ["words","rules","strengths"] (sY K):=by
 refine F.ok Bt (λvs H Q E h=>?_) (λeB A outer s H vs Q E hr h=>?_)
 .obtain⟨W,R,S,ws,rs,ss,aa,dZ,ve,Gr,rfl,_⟩:=h;rfl
 obtain⟨W,R,S,ws,rs,ss,aa,dZ,ve,Gr,rfl,zK,hl,hz,hR,cK,Qc,Qq,tS,hss,Kl,ok,q⟩:=h;have hu:=oR (kF _ 64) hr.units;refine⟨_,ak (cN (bB mQ (aM aP (pv 0) ao (λ_ _=>rfl)) aU (cf _))
   (ar (bf (qK (a8 z0 rfl T.boo PyProof.Rows.boot_bool (af (pv 1) aj)) (vh (bI GR hr rfl (af (aM b9 (aM aP (pv 1) (qJ lh ao) (λ_ _=>rfl)) ao (λ_ _=>rfl)) (af (bR cH (pv 0) (bQ ao) cU) (af (pv 1) aj)))))))) bC)
  (ak (cN (bB (Hd hu) (bR cH (pv 0) (bQ ao) (bQ ao)) (bA (af aU aj)) (cf _))
   (ar (bf (qK (bI (GP.mono (by decide:1<=2)) hr rfl (af (aM aP (pv 0) ao (λ_ _=>rfl)) aj)) (qK (J3 (bI (GA.mono (by decide:1<=2)) hr rfl (af (aM aP (pv 0) ao (λ_ _=>rfl)) aj)))
    (vh (bI GR hr rfl (af (aM aP (pv 0) ao (λ_ _=>rfl)) (af (bR cH (pv 0) (bQ ao) cU) (af (pv 1) aj))))))))) bC)
  (ak (cN (PW.pt (jd (bB oi (aM aP (pv 0) ao (λ_ _=>rfl)) (mM (v:=.ref aw) rfl hW rfl) rfl) (jd (bB wL (aV bD rfl T.len fw (af (pv 0) aj)) ao (cf _))
    (jc (fk (aV (oJ rfl) rfl T.all boot_all (af (bL ["word"] [] rfl (a9 (bR cH (pv 0) (bQ ao) cU)) (a_ rfl rfl) nofun rfl nofun
     (λ_ _ _ _ _=>au (i:=0) (show (["word"]:List Str).Nodup by decide +kernel) rfl (bJ rfl)) (λ_ _ _ _ _=>cb) (λ_ _ _ _ _=>bI (GP.mono (by decide:1<=2)) hr rfl (af (pv 0) aj))) aj)))))))
   (ak (cx (di fQ gM gN bX (pv 2) (af (bY (af (aM aP (pv 0) ao (λ_ _=>rfl)) (af (a8 eC rfl T.tup oW (af (bR cH (pv 0) (bQ ao) cU) aj)) aj))) aj)))
   (ar (bf eV))) bC)
  (ar (bf eV)))),?_⟩
 dsimp only [oH];have AX:ws≠[]:=by
  cases ok <;> exact List.cons_ne_nil _ _
 cases ok with
 | more h ps rest rws e er =>
  obtain⟨r0,e0⟩:=List.getLast?_eq_some_iff.mp e;subst e0;have lp:=bK cK;obtain⟨PU,rl,rfl,zD,⟨pa,v1,v2⟩⟩:∃PU rl,rs=PU++[rl]/\aS K H PU r0/\kT K H rl (h,ps):=qL cK;refine⟨_,rfl,W,_,_,_,rfl,rfl,zK,lY _ _,rfl,true,rfl,?_⟩;refine ow ?_;refine⟨_,rfl,R,_,rfl,aD.of hR,true,by rw [aQ];simp,?_⟩;refine ow ?_;refine⟨_,rfl,1,rfl,R,_,_,.ref rl,rfl,rfl,aD.of hR,by rw [aQ];exact nr _ _,rl,_,_,_,rfl,rfl,v1,rfl,_,rfl,1,rfl,W,_,rfl,zK,λp hp=>⟨_,rfl,?_⟩⟩;have s1:=ae hp (.lst (dq (List.map V.str (("|":Str)::rest)) (some 1) none));have L_:upd H p (.lst (dq (List.map V.str (("|":Str)::rest)) (some 1) none)) p=some (.lst (rest.map V.str)):=by
   rw [ab,show ((1:Int))=((1:Nat):Int) from rfl,pV];rfl
  generalize upd H p (.lst (dq (List.map V.str (("|":Str)::rest)) (some 1) none))=H1 at s1 L_;refine⟨h,p,R,rest,PU++[rl],r0++[(h,ps)],rfl,aD.of L_,by simp at hl;omega,λz EJ=>hz z (cJ _ EJ),s1 _ _ hR,cK.same s1,Qc,λe'=>(by rw [er] at e';cases e'),λRH e' mH H' l2 sb xU jC=>?_⟩;rw [er] at e';cases e';exact q _ ss H' (λb o hb _ ho=>sb b o hb (s1 _ _ ho)) xU jC (sb _ _ Kl.symm (s1 _ _ Qq)) ((tS.same s1).keep λ_ _ z=>sb.tup (s1 _ _ hR) z)
 | head h rest rws hn hp ha er =>
  have N5:=hz h bG;refine⟨_,rfl,W,_,_,_,rfl,rfl,zK,lY _ _,rfl,false,by rw [gy (λz=>hn (V.str.inj z))],?_⟩;refine gI ?_;refine⟨_,rfl,1,rfl,2,rfl,W,_,rfl,zK,λp L_=>⟨CT,λp2 o8=>?_⟩⟩;rw [Je] at o8 ⊢;have s1:=ae L_ (.lst (List.map V.str (((h::(":":Str)::rest).drop 1).take 1)));have e1:upd H p (.lst (List.map V.str (((h::(":":Str)::rest).drop 1).take 1))) p=some (.lst [.str ":"]):=ab;generalize upd H p (.lst (List.map V.str (((h::(":":Str)::rest).drop 1).take 1)))=H1 at s1 e1 o8;have s2:=s1.trans (ae o8 (.lst [.str ":"]));have e2:=ae o8 (.lst [.str ":"]) _ _ e1;have e3:upd H1 p2 (.lst [.str ":"]) p2=some (.lst [.str ":"]):=ab;generalize upd H1 p2 (.lst [.str ":"])=H2 at s2 e2 e3;refine⟨p,p2,_,_,rfl,rfl,aD.of e2,aD.of e3,rfl,rfl,true,rfl,?_⟩;refine ow ?_;refine⟨_,rfl,W,_,_,_,rfl,rfl,s2.seq zK,lY _ _,h,rfl,N5,λH3 s3=>?_⟩;have s4:=s2.trans s3;rw [hp];refine⟨_,rfl,?_⟩;refine ow ?_;refine⟨_,rfl,W,_,_,_,rfl,rfl,s4.seq zK,lY _ _,h,rfl,N5,?_⟩;rw [ha];refine⟨_,rfl,_,rfl,?_⟩;refine ow ?_;refine⟨_,rfl,W,_,_,_,rfl,rfl,s4.seq zK,lY _ _,_,rfl,2,rfl,W,_,rfl,s4.seq zK,λp3 Tw=>⟨_,rfl,?_⟩⟩;have s5:=s4.trans (ae Tw (.lst (dq (List.map V.str (h::(":":Str)::rest)) (some 2) none)));have e5:upd H3 p3 (.lst (dq (List.map V.str (h::(":":Str)::rest)) (some 2) none)) p3=some (.lst (rest.map V.str)):=by
   rw [ab,show ((2:Int))=((2:Nat):Int) from rfl,pV];rfl
  generalize upd H3 p3 (.lst (dq (List.map V.str (h::(":":Str)::rest)) (some 2) none))=H5 at s5 e5;refine⟨h,p3,R,rest,rs,aa,rfl,aD.of e5,by simp at hl;omega,λz EJ=>hz z (cJ _ (cJ _ EJ)),s5 _ _ hR,cK.same s5,Qc,λe'=>(by rw [er] at e';cases e'),λRH e' mH H' l2 sb xU jC=>?_⟩;rw [er] at e';cases e';exact q _ ss H' (λb o hb _ ho=>sb b o hb (s5 _ _ ho)) xU jC (sb _ _ Kl.symm (s5 _ _ Qq)) ((tS.same s5).keep λ_ _ z=>sb.tup (s5 _ _ hR) z)
 | way z rest N5 zD hc hp =>
  have lr:(z::rest).length<=100000:=hl;rw [bV] at lr;have l0:0 < rest.length:=List.length_pos_iff.mpr zD;refine⟨_,rfl,W,_,_,_,rfl,rfl,zK,lY _ _,rfl,false,by rw [gy (λe=>Jq z N5 (V.str.inj e))],?_⟩;refine gI ?_;refine⟨_,rfl,1,rfl,2,rfl,W,_,rfl,zK,λp L_=>⟨CT,λp2 o8=>?_⟩⟩;rw [Je] at o8 ⊢;have s1:=ae L_ (.lst (List.map V.str (((z::rest).drop 1).take 1)));have e1:upd H p (.lst (List.map V.str (((z::rest).drop 1).take 1))) p=some (.lst (List.map V.str (rest.take 1))):=ab;generalize upd H p (.lst (List.map V.str (((z::rest).drop 1).take 1)))=H1 at s1 e1 o8;have s2:=s1.trans (ae o8 (.lst [.str ":"]));have e2:=ae o8 (.lst [.str ":"]) _ _ e1;have e3:upd H1 p2 (.lst [.str ":"]) p2=some (.lst [.str ":"]):=ab;generalize upd H1 p2 (.lst [.str ":"])=H2 at s2 e2 e3;have ef:HL (List.map V.str (rest.take 1)) [.str ":"]=false:=by
   cases rest with
   | nil=>rfl
   | cons a r =>
    show ((a == (":":Str)) && true)=false;rw [Bool.and_true,jt];exact λe=>hc (by rw [e];rfl)
  refine⟨p,p2,_,_,rfl,rfl,aD.of e2,aD.of e3,?_,rfl,false,by rw [ef],?_⟩
  .rw [gL];intro x hx;obtain⟨y,_,rfl⟩:=cM.mp hx;rfl
  refine gI ?_;refine⟨_,rfl,W,_,_,_,rfl,rfl,s2.seq zK,lY _ _,aw,_,rfl,.inr (hS _),rfl,nofun,true,by rw [ay nofun,Jr z N5],?_⟩;refine ow ?_;refine⟨_,rfl,W,_,rfl,.inl (s2.seq zK),_,_,rfl,rfl,true,congrArg V.bl (fO (by rw [av,bV];omega)),?_⟩;refine ow ?_;refine⟨_,rfl,1,rfl,W,_,rfl,s2.seq zK,λp3 Tw=>?_⟩;have s3:=s2.trans (ae Tw (.lst (dq (List.map V.str (z::rest)) (some 1) none)));have e4:upd H2 p3 (.lst (dq (List.map V.str (z::rest)) (some 1) none)) p3=some (.lst (rest.map V.str)):=by
   rw [ab,show ((1:Int))=((1:Nat):Int) from rfl,pV];rfl
  generalize upd H2 p3 (.lst (dq (List.map V.str (z::rest)) (some 1) none))=H3 at s3 e4;refine⟨p3,rfl,⟨_,aD.of e4⟩,λD hD=>bq (xs:=rest.map V.str) (λi ys σ2 H4=>ys=(List.replicate i true).map V.bl/\(∃y0,σ2=[y0])/\aC H3 H4/\H4 D=some (.lst ys))
   ⟨rfl,⟨none,rfl⟩,ae hD _,ab⟩ (λi ys σ2 H4 _ h=>h.2.2.1.seq (aD.of e4)) (λi x ys σ2 H4 ex h=>?_) (λys σ2 H4 h=>?_)⟩
  .obtain⟨rfl,⟨y0,rfl⟩,sm,hd⟩:=h;rw [aZ] at ex;obtain⟨y,ey,rfl⟩:=b_.mp ex;have hm:=cv ey;have li:=(bx.mp ey).1;refine goN (sD ?_);refine⟨_,rfl,y,rfl,hz y (cJ _ hm),λH5 s5=>?_⟩;rw [hp y hm];refine⟨s5 _ _ hd,bo (by rw [av,List.length_replicate];omega),by rw [List.replicate_succ',aQ];rfl,⟨_,rfl⟩,λb o hb=>?_,ab⟩;rw [ai (λe=>by rw [e,hD] at hb;cases hb)];exact s5 _ _ (sm b o hb)
  obtain⟨rfl,_,sm,hd⟩:=h;have s6:=s3.trans sm;refine⟨D,_,rfl,aD.of hd,true,by rw [List.all_replicate];simp,?_⟩;refine ow ?_;refine⟨_,rfl,.inl ⟨rfl,_,aD.of (s6 _ _ Qq)⟩,_,rfl,W,_,_,_,rfl,rfl,s6.seq zK,lY _ _,_,rfl,1,rfl,W,_,rfl,s6.seq zK,λp4 hp4=>?_⟩;have s7:=s6.trans (ae hp4 (.lst (dq (List.map V.str (z::rest)) (some 1) none)));have e7:upd H4 p4 (.lst (dq (List.map V.str (z::rest)) (some 1) none)) p4=some (.lst (rest.map V.str)):=by
   rw [ab,show ((1:Int))=((1:Nat):Int) from rfl,pV];rfl
  generalize upd H4 p4 (.lst (dq (List.map V.str (z::rest)) (some 1) none))=H7 at s7 e7;refine⟨p4,_,rfl,.inl ⟨aD.of e7,λt ht=>⟨lV,λt2 ij=>?_⟩⟩⟩;have s8:=(ae ht (.tup (rest.map V.str))).trans (ae ij (.tup [.str z,.ref t]));have t8:ba K (upd (upd H7 t (.tup (rest.map V.str))) t2 (.tup [.str z,.ref t])) t (rest.map V.str):=(ae ij (.tup [.str z,.ref t])).tup (ba.of ab);have t9:ba K (upd (upd H7 t (.tup (rest.map V.str))) t2 (.tup [.str z,.ref t])) t2 [.str z,.ref t]:=ba.of ab;generalize upd (upd H7 t (.tup (rest.map V.str))) t2 (.tup [.str z,.ref t])=H8 at s8 t8 t9;have s9:=s7.trans s8;have IW:=s9 _ _ Qq;refine⟨S,_,_,rfl,rfl,IW,bo (by rw [av];omega),?_⟩;refine q rs (ss++[t2]) _ (λb o _ hb ho=>by rw [ai hb];exact s9 _ _ ho) (by rw [ai Kl];exact s9 _ _ hR) ((cK.same s9).keep λ_ _ y=>aR IW y) (by rw [ab,aQ];rfl) ?_;exact fN ((tS.same s9).keep λ_ _ y=>aR IW y) ⟨t,aR IW t9,aR IW t8⟩
end
end gu
namespace L2
open PySem
def t_ {K:aY}{H:Hp}{p D d:Addr}{zs:List Str}{kvs:List (aN×V)}{σ:St}{js:List (Nat×Str)}{Qp:Hp->Prop}(hσ:eM ["part"] js σ=[none,aG d])(hp:ba K H p (zs.map V.str))(hz:zs.length<=1000)
  (hd:H d=some (.dK kvs))(hD:H D=none)(q:∀H2,aC H H2->H2 D=some (.lst ((zs.map λz=>(bu kvs (Sum.inr z)).isSome).map V.bl))->Qp H2) :
  ∃W:Nat->Nat->List V->St->Hp->Prop,(∃m,W 0 m [] (eM ["part"] js σ) (upd H D (.lst []))) /\
 ∀i m ys σ' H,W i m ys σ' H->((rR K p).stop i H/\Qp H)\/((rR K p).go i H/\∃m',m' < m/\∀x H',(rR K p).mi i H x H'->eJ 0 x σ' H' λσ2 H2=>iM σ2 H2 λb H3 =>
  if b=true then M9 (gF 0) (gF 1) σ2 H3 λy H4=>H4 D=some (.lst ys)/\ys.length < sizeLine/\W (i+1) m' (ys++[y]) σ2 (upd H4 D (.lst (ys++[y]))) else W (i+1) m' ys σ2 H3):=by
 refine iZ (xs:=zs.map V.str) (λi ys σ2 H2=>ys=(((zs.take i).map λz=>(bu kvs (Sum.inr z)).isSome).map V.bl)/\(∃y0,σ2=[y0,aG d])/\aC H H2/\H2 D=some (.lst ys))
  ⟨rfl,⟨none,hσ⟩,ae hD _,ab⟩ (λi ys σ2 H2 _ h=>h.2.2.1.tup hp) (λi x ys σ2 H2 ex h=>?_) (λys σ2 H2 h=>?_)
 .obtain⟨rfl,⟨y0,rfl⟩,sm,hd2⟩:=h;rw [aZ] at ex;obtain⟨z,ez,rfl⟩:=b_.mp ex;have li:=(bx.mp ez).1;refine goN (sD ?_);refine⟨_,rfl,_,rfl,d,_,rfl,cE.k (k:=Sum.inr z) (sm _ _ hd),hd2,bo (by rw [av,av,cX];omega),?_,⟨_,rfl⟩,?_,ab⟩
  .rw [cY,ez,aQ,aQ];rfl
  intro b o hb;rw [ai (λz=>by rw [z,hD] at hb;cases hb)];exact sm b o hb
 obtain⟨rfl,_,sm,hd2⟩:=h;rw [av,dB] at hd2;exact q H2 sm hd2
def gO {K:aY}{H:Hp}{D a:Addr}{xs:List V}{ys:List (aN×V)}{o:HO}(hD:H D=some (.dK ys))(h:ba K H a xs):ba K (upd H D o) a xs:=by
 rcases h with (h | ⟨u,h⟩) | h
 .exact .inl (.inl (by rw [ai (λz=>by rw [z,hD] at h;cases h)];exact h))
 .exact .inl (.inr ⟨u,by rw [ai (λz=>by rw [z,hD] at h;cases h)];exact h⟩)
 exact .inr h
theorem gX {α:Type} [DecidableEq α]:∀(l m:List α),l.Nodup->(∀x∈l,x∈m)->l.length<=m.length
 | [],m,_,_=>dD _
 | a::l,m,hn,h=>by
  have hm:=h a bG;have:=gX l (m.erase a) (jr.mp hn).2 λx hx=>(List.mem_erase_of_ne (λz:x=a=>(jr.mp hn).1 (by rw [<-z];exact hx))).mpr (h x (cJ _ hx));rw [List.length_erase_of_mem hm] at this;have:=List.length_pos_of_mem hm;rw [bV];omega
end L2
namespace M11
open PySem L2
inductive vY (aa:List aB):List (Str×Nat)->Prop
 | nil:vY aa []
 | snoc {bw:List (Str×Nat)}{k:Nat}{ru:aB}:vY aa bw->aa[k]?=some ru->ru.1∉bw.map (·.1)->(∀p∈ru.2,p∈bw.map (·.1))->vY aa (bw++[(ru.1,k)])
def xO (aa:List aB) (n:Nat)(bw:List (Str×Nat)):Prop:=∀ru∈aa.take n,(∀p∈ru.2,p∈bw.map (·.1))->ru.1∈bw.map (·.1)
def vY.nd {aa:List aB}{bw:List (Str×Nat)}(h:vY aa bw):(bw.map (·.1)).Nodup:=by
 induction h with
 | nil=>exact l_
 | snoc h e n p ih =>
  rw [aQ];refine iJ.mpr ⟨ih,by simp,λa ha b hb=>?_⟩;rw [nX,bH] at hb;exact λz=>n (by rw [<-hb,<-z];exact ha)
def vY.head {aa:List aB}{bw:List (Str×Nat)}(h:vY aa bw):∀x∈bw.map (·.1),x∈aa.map (·.1):=by
 induction h with
 | nil=>simp
 | snoc h e n p ih =>
  intro x hx;rw [aQ] at hx;rcases aX.mp hx with hx | hx
  .exact ih x hx
  rw [nX,bH] at hx;rw [hx];exact iK (cv e)
def vY.len {aa:List aB}{bw:List (Str×Nat)}(h:vY aa bw):bw.length<=aa.length:=by
 have:=gX _ _ h.nd h.head;rw [av,av] at this;exact this
end M11
namespace gu
open PySem L2 M11
section
def oM (K:aY)(H:Hp)(ts:List Addr)(bw:List (Str×Nat)):Prop:=Paired (λt (e:Str×Nat)=>ba K H t [.str e.1,.int (e.2:Int)]) ts bw
def oM.keep {H H':Hp}{ts:List Addr}{bw:List (Str×Nat)}(h:oM K H ts bw)(k:∀a xs,ba K H a xs->ba K H' a xs):oM K H' ts bw:=Paired.gS h λt e z=>k _ _ z
structure Bi (K:aY)(aa:List aB)(H H5:Hp)(D d:Addr)(ts:List Addr)(bw:List (Str×Nat))(kvs:List (aN×V)):Prop where
 sm:aC H H5
 hD:H5 D=some (.lst (ts.map V.ref))
 hd:H5 d=some (.dK kvs)
 keys:kvs.map (·.1)=(bw.map (·.1)).map Sum.inr
 ev:oM K H5 ts bw
 emp:vY aa bw
def Bi.same {aa:List aB}{H H5 H6:Hp}{D d:Addr}{ts:List Addr}{bw:List (Str×Nat)}{kvs:List (aN×V)}(h:Bi K aa H H5 D d ts bw kvs)(s:aC H5 H6):Bi K aa H H6 D d ts bw kvs :=
 ⟨h.sm.trans s,s _ _ h.hD,s _ _ h.hd,h.keys,h.ev.keep λ_ _ z=>s.tup z,h.emp⟩
def Bi.mem {aa:List aB}{H H5:Hp}{D d:Addr}{ts:List Addr}{bw:List (Str×Nat)}{kvs:List (aN×V)}(h:Bi K aa H H5 D d ts bw kvs)(z:Str):(bu kvs (Sum.inr z)).isSome=true↔z∈bw.map (·.1):=by
 rw [eI,h.keys];exact cV
def Bi.len {aa:List aB}{H H5:Hp}{D d:Addr}{ts:List Addr}{bw:List (Str×Nat)}{kvs:List (aN×V)}(h:Bi K aa H H5 D d ts bw kvs):ts.length=bw.length/\kvs.length=bw.length:=by
 refine⟨bK h.ev,?_⟩;have:=congrArg List.length h.keys;simpa using this
def Bi.more {aa:List aB}{H H5:Hp}{D d t:Addr}{ts:List Addr}{bw:List (Str×Nat)}{kvs:List (aN×V)}(h:Bi K aa H H5 D d ts bw kvs)(fD:H D=none)(fd:H d=none){k:Nat}{ru:aB}(e:aa[k]?=some ru)
  (n:ru.1∉bw.map (·.1))(p:∀x∈ru.2,x∈bw.map (·.1))(ht:upd H5 d (.dK (bP kvs (Sum.inr ru.1) (.bl true))) t=none) :
  Bi K aa H (upd (upd (upd H5 d (.dK (bP kvs (Sum.inr ru.1) (.bl true)))) t (.tup [.str ru.1,.int (k:Int)])) D (.lst (ts.map V.ref++[.ref t]))) D d (ts++[t]) (bw++[(ru.1,k)]) (bP kvs (Sum.inr ru.1) (.bl true)):=by
 have Wz:D≠d:=λz=>by have:=h.hD;rw [z,h.hd] at this;cases this
 have nt:t≠d:=λz=>by rw [z,ab] at ht;cases ht
 have KL:H5 t=none:=by rw [ai nt] at ht;exact ht
 have nDt:D≠t:=λz=>by rw [<-z,h.hD] at KL;cases KL
 have ic:upd (upd H5 d (.dK (bP kvs (Sum.inr ru.1) (.bl true)))) t (.tup [.str ru.1,.int (k:Int)]) D=some (.lst (ts.map V.ref)):=by rw [ai nDt,ai Wz];exact h.hD
 have kp:∀a xs,ba K H5 a xs->ba K (upd (upd (upd H5 d (.dK (bP kvs (Sum.inr ru.1) (.bl true)))) t (.tup [.str ru.1,.int (k:Int)])) D (.lst (ts.map V.ref++[.ref t]))) a xs:=λa xs z =>
  aR ic ((ae ht _).tup (gO h.hd z))
 refine⟨λb o hb=>?_,by rw [ab,aQ];rfl,by rw [ai Wz.symm,ai nt.symm,ab],?_,fN (h.ev.keep kp) (aR ic (ba.of ab)),.snoc h.emp e n p⟩
 .have:=h.sm b o hb;rw [ai (λz=>by rw [z,fD] at hb;cases hb),ai (λz=>by rw [z,KL] at this;cases this),ai (λz=>by rw [z,fd] at hb;cases hb)];exact this
 rw [ir (by rw [h.keys];exact λz=>n (cV.mp z)),h.keys,aQ,aQ];rfl
def n6 (K:aY):Sp:=λvs H Q _=>∃(R:Addr)(rs:List Addr)(aa:List aB),vs=[.ref R]/\aD K H R (rs.map V.ref)/\aS K H rs aa/\aa.length<=1000/\(∀ru∈aa,ru.2.length<=8) /\
 ∀D ts bw H',H D=none->aC H H'->H' D=some (.lst (ts.map V.ref))->oM K H' ts bw->vY aa bw->xO aa aa.length bw->Q (.ref D) H'
def gG:aK ["rules","told","empty","many","number","rule"] ["rules"] (ax qH):=iI rfl rfl rfl rfl nofun
def zg (F:ig K "found_empties" "found_empties" qH f fd)(T:Txt mg):bS P w K mg base fu 1 f fd ["rules"] (n6 K):=by
 refine F.ok gG (λvs H Q E h=>?_) (λeB A outer s H vs Q E hr h=>?_)
 .obtain⟨R,rs,aa,rfl,_⟩:=h;rfl
 obtain⟨R,rs,aa,rfl,hR,cK,bM,h8,q⟩:=h;have hu:=gp hr;refine⟨_,ak (aE (i:=1) gG.nd rfl (bJ rfl) (bA aj))
  (ak (aE (i:=2) gG.nd rfl (Or.inr rfl) gi)
  (ak (aE (i:=3) gG.nd rfl (bJ rfl) (qJ lh ao))
  (ak (iP cP (bB mP (pv 3) (aV bD rfl T.len fw (af (pv 1) aj)) (cf _))
   (ak (aE (i:=3) gG.nd rfl (bJ rfl) (aV bD rfl T.len fw (af (pv 1) aj)))
   (ar (cw cP rfl (mK rfl T.F6 (af (pv 0) aj)) (eU rfl (aF (au (i:=4) gG.nd rfl (bJ rfl)) (aF (au (i:=5) gG.nd rfl (bJ rfl)) cy)))
    (ar (cN (PW.pt (jd (fq (dP hu (aM b9 (pv 5) ao (λ_ _=>rfl)) (pv 2)))
      (jc (fk (aV (oJ rfl) rfl T.all boot_all (af (bL ["part"] [(2,"empty")] rfl (iG (aM b9 (pv 5) ao (λ_ _=>rfl))) (a_ rfl rfl) nofun rfl nofun
       (λ_ _ _ _ _=>au (i:=0) (show (["part","empty"]:List Str).Nodup by decide +kernel) rfl (bJ rfl)) (λ_ _ _ _ _=>cb) (λ_ _ _ _ _=>DR (oh hu (pv 0) (pv 1)))) aj))))))
     (ak (iu hu (pv 2) (aM b9 (pv 5) ao (λ_ _=>rfl)) eV rfl)
     (ar (cx (di fQ gM gN bX (pv 1) (af (bY (af (aM b9 (pv 5) ao (λ_ _=>rfl)) (af (pv 4) aj))) aj))))) bC))))))
  (ar (bf (pv 1)))))),?_⟩
 nofun
 refine⟨sj,λD hD d hd=>?_⟩;have P1:d≠D:=λz=>by rw [z,ab] at hd;cases hd
 have sh:H d=none:=by rw [ai P1] at hd;exact hd
 have e0:Bi K aa H (upd (upd H D (.lst [])) d (.dK [])) D d [] [] []:=⟨(ae hD _).trans (ae hd _),by rw [ai P1.symm,ab];rfl,ab,rfl,.nil,.nil⟩;generalize upd (upd H D (.lst [])) d (.dK [])=H0 at e0;refine⟨1,rfl,?_⟩;refine⟨λm σ H5=>∃(ts:List Addr)(bw:List (Str×Nat))(kvs:List (aN×V)) (many:Int)(y4 y5:Option V),σ=[aG R,aG D,aG d,some (.int many),y4,y5]/\Bi K aa H H5 D d ts bw kvs/\-1<=many/\many<=bw.length/\(many=bw.length->xO aa aa.length bw)/\(m:Int)=aa.length+1 - many,
  ⟨aa.length+2,[],[],[],-1,none,none,rfl,e0,∅,by simp,by simp,by simp;omega⟩,?_⟩
 rintro m σ H5 ⟨ts,bw,kvs,many,y4,y5,rfl,S,b1,b2,cl,em⟩;obtain⟨lt,lk⟩:=S.len;refine⟨_,rfl,_,rfl,D,_,rfl,.inl (aD.of S.hD),_,_,rfl,rfl,_,rfl,?_⟩;refine dA (λc=>?_) (λc=>?_)
 .have c':=dF c;rw [av,lt] at c';refine⟨λσ H5=>∃(uP:List Addr)(gU:List (Str×Nat))(ff:List (aN×V))(y4 y5:Option V),σ=[aG R,aG D,aG d,some (.int (bw.length:Int)),y4,y5]/\Bi K aa H H5 D d uP gU ff/\bw.length<=gU.length/\(gU.length=bw.length->xO aa aa.length gU),?_,?_⟩
  .rintro σ H6 ⟨uP,gU,ff,y4,y5,rfl,S2,l2,c2⟩;have:=S2.emp.len;exact⟨(aa.length+1 - bw.length:Int).toNat,∅,uP,gU,ff,_,_,_,rfl,S2,∅,∅,λz=>c2 ∅,∅⟩
  refine⟨_,rfl,D,_,rfl,.inl (aD.of S.hD),?_⟩;rw [av,lt];refine⟨_,rfl,R,_,rfl,S.sm.seq hR,?_⟩;refine j5 (xs:=rs.map V.ref) (λi σ H6=>∃(uP:List Addr)(gU:List (Str×Nat))(ff:List (aN×V))(y4 y5:Option V),σ=[aG R,aG D,aG d,some (.int (bw.length:Int)),y4,y5]/\Bi K aa H H6 D d uP gU ff/\bw.length<=gU.length/\(gU.length=bw.length->xO aa i gU))
   ⟨ts,bw,kvs,_,_,rfl,S,aL _,λ_ ru jj=>by simp at jj⟩ ?_ ?_ ?_
  .rintro i σ H6 _ ⟨uP,gU,ff,y4,y5,rfl,S2,_⟩;exact S2.sm.seq hR
  .rintro i x σ H6 t ex ⟨uP,gU,ff,y4,y5,rfl,S2,l2,c2⟩ ht
   ac_nf0
   rw [aZ] at ex;obtain⟨r,er,rfl⟩:=b_.mp ex;obtain⟨ru,e1,p,v1,v2⟩:=cK.get er;have Mh:=h8 ru (cv e1);have S3:=S2.same (ae ht (.tup [.int (i:Int),.ref r]));have LX:ba K (upd H6 t (.tup [.int (i:Int),.ref r])) t [.int (i:Int),.ref r]:=ba.of ab;generalize upd H6 t (.tup [.int (i:Int),.ref r])=H7 at S3 LX;obtain⟨lt2,P6⟩:=S3.len;have el2:=S3.emp.len;have tk:aa.take (i+1)=aa.take i++[ru]:=by rw [cY,e1];rfl
   have g7:(¬((∀p∈ru.2,p∈gU.map (·.1))/\ru.1∉gU.map (·.1)))->(gU.length=bw.length->xO aa (i+1) gU):=λhn z rZ wZ hp=>by
    rw [tk] at wZ;rcases aX.mp wZ with h | h
    .exact c2 z rZ h hp
    rw [bH.mp h] at hp ⊢;exact Classical.byContradiction λhc=>hn ⟨hp,hc⟩
   refine⟨t,_,rfl,LX,rfl,_,_,rfl,_,_,rfl,rfl,?_⟩;refine⟨_,rfl,r,_,_,_,rfl,rfl,S3.sm.tup v1,rfl,?_⟩;refine⟨_,rfl,d,_,rfl,cE.k (k:=Sum.inr ru.1) S3.hd,_,rfl,?_⟩;refine dA (λc3=>?_) (λc3=>?_)
   .have nm:ru.1∉gU.map (·.1):=λh=>by rw [(S3.mem _).mpr h] at c3;exact absurd c3 nofun
    refine⟨_,rfl,r,_,_,_,rfl,rfl,S3.sm.tup v1,rfl,p,rfl,⟨_,S3.sm.tup v2⟩,λD2 ic=>t_ rfl (S3.sm.tup v2) ∅ S3.hd ic λH8 CH zJ=>?_⟩;have S4:=S3.same CH;refine⟨D2,_,rfl,aD.of zJ,_,rfl,?_⟩;refine dA (λc4=>?_) (λc4=>?_)
    .have al:∀x∈ru.2,x∈gU.map (·.1):=λx hx=>(S4.mem x).mp (gL.mp c4 _ (iK hx));refine⟨_,rfl,_,rfl,r,_,_,_,rfl,rfl,S4.sm.tup v1,rfl,d,_,rfl,oO.k (k:=Sum.inr ru.1) S4.hd (bo ∅),?_⟩;have Zk:ba K (upd H8 d (.dK (bP ff (Sum.inr ru.1) (.bl true)))) r [.str ru.1,.ref p]:=gO S4.hd (S4.sm.tup v1);have K8:upd H8 d (.dK (bP ff (Sum.inr ru.1) (.bl true))) D=some (.lst (uP.map V.ref)):=by rw [ai (λz=>by have:=S4.hD;rw [z,S4.hd] at this;cases this)];exact S4.hD
     refine⟨_,rfl,.inl ⟨rfl,_,aD.of K8⟩,_,rfl,r,_,_,_,rfl,rfl,Zk,rfl,_,rfl,lV,λt2 ij=>?_⟩;refine⟨D,_,_,rfl,rfl,(by rw [ai (aq K8 ij)];exact K8),bo (by rw [av];omega),?_⟩;have S5:=S4.more hD sh e1 nm al ij;exact⟨uP++[t2],gU++[(ru.1,i)],_,_,_,rfl,S5,by rw [bW];omega,λz=>by rw [bW] at z;simp at z;omega⟩
    refine⟨uP,gU,ff,_,_,rfl,S4,l2,g7 λ⟨ha,_⟩=>c4 (gL.mpr λb hb=>?_)⟩;obtain⟨x,hx,rfl⟩:=cM.mp hb;exact(S4.mem x).mpr (ha x hx)
   refine⟨uP,gU,ff,_,_,rfl,S3,l2,g7 λ⟨_,hn⟩=>c3 ?_⟩;cases hq:(bu ff (Sum.inr ru.1)).isSome with
   | true=>exact absurd ((S3.mem _).mp hq) hn
   | false=>rfl
  rintro σ H6 ⟨uP,gU,ff,y4,y5,rfl,S2,l2,c2⟩;rw [av,bK cK] at c2;exact⟨uP,gU,ff,_,_,rfl,S2,l2,c2⟩
 have c':=of_decide_eq_false (kJ.mpr c);rw [av,lt] at c';exact⟨_,rfl,q D ts bw H5 hD S.sm S.hD S.ev S.emp (cl ∅)⟩
end
abbrev yL:Stmt:=top 48
section
def AB (K:aY):Sp:=λvs H Q _=>∃(R:Addr)(rs:List Addr)(aa:List aB),vs=[.ref R]/\aD K H R (rs.map V.ref)/\aS K H rs aa/\rs.length<=100000/\(∀ru∈aa,∀p∈ru.2,p.length<=sizeLine/\again p=false) /\
 ∀E' H',aC H H'->H' E'=some (.lst (rs.map V.ref))->H E'=none->Q (.ref E') H'
def kc:aK ["rules","every","added","at","part"] ["rules"] (ax yL):=iI rfl rfl rfl rfl nofun
def El (F:ig K "with_added_rules" "with_added_rules" yL f fd)(T:Txt mg)(GA:aH P w K mg base 1 "comes_again" ["part"] uU):bS P w K mg base fu 2 f fd ["rules"] (AB K):=by
 refine F.ok kc (λvs H Q E h=>?_) (λeB A outer s H vs Q E hr h=>?_)
 .obtain⟨R,rs,aa,rfl,_⟩:=h;rfl
 obtain⟨R,rs,aa,rfl,hR,cK,Qc,hp,q⟩:=h;have hu:=gp hr;refine⟨_,ak (aE (i:=1) kc.nd rfl (bJ rfl) (a8 fg rfl T.lst fI (af (pv 0) aj)))
  (ak (aE (i:=2) kc.nd rfl (bJ rfl) gi)
  (ak (aE (i:=3) kc.nd rfl (bJ rfl) ao)
  (ak (iP cP (bB mP (pv 3) (aV bD rfl T.len fw (af (pv 1) aj)) (cf _))
   (ak (cw cP rfl (iG (aM b9 (aM aP (pv 1) (pv 3) (λ_ _=>rfl)) ao (λ_ _=>rfl))) (au (i:=4) kc.nd rfl (bJ rfl))
    (ar (cN (PW.pt (jd (fk (bI GA hr rfl (af (pv 4) aj))) (jc (fq (dP hu (pv 4) (pv 2)))))) (ak fC (ar fC)) bC)))
   (ar (DJ (i:=3) kc.nd rfl (bJ rfl) ao EH))))
  (ar (bf (pv 1)))))),?_⟩
 dsimp only [oH];have ll:=bK cK;refine⟨_,rfl,R,_,rfl,.inl hR,λE0 Xx d hd=>?_⟩;have P1:d≠E0:=λz=>by rw [z,ab] at hd;cases hd
 have s0:aC H (upd (upd H E0 (.lst (rs.map V.ref))) d (.dK [])):=(ae Xx _).trans (ae hd _);have e0:upd (upd H E0 (.lst (rs.map V.ref))) d (.dK []) E0=some (.lst (rs.map V.ref)):=by rw [ai P1.symm,ab]
 generalize upd (upd H E0 (.lst (rs.map V.ref))) d (.dK [])=H0 at s0 e0;refine⟨λm σ H5=>∃(a:Nat)(y:Option V),σ=[aG R,aG E0,aG d,some (.int (a:Int)),y]/\aC H0 H5/\a<=rs.length/\m=rs.length - a,⟨rs.length,0,none,rfl,aC.refl _,dD _,rfl⟩,?_⟩;rintro m σ H5 ⟨a,y,rfl,sm,ha,rfl⟩;have e5:=sm _ _ e0;refine⟨_,rfl,_,rfl,E0,_,rfl,.inl (aD.of e5),_,_,rfl,rfl,_,rfl,?_⟩;refine dA (λc=>?_) (λc=>?_)
 .have c':=dF c;rw [av] at c';have la:a < rs.length:=by omega
  obtain⟨r,er⟩:∃r,rs[a]?=some r:=⟨rs[a],dw la⟩;obtain⟨ru,e1,p,v1,v2⟩:=cK.get er;have t1:=sm.tup (s0.tup v1);have t2:=sm.tup (s0.tup v2);refine⟨λσ H6=>∃y,σ=[aG R,aG E0,aG d,some (.int ((a+1:Nat):Int)),y]/\aC H0 H6,?_,?_⟩
  .rintro σ H6 ⟨y,rfl,s6⟩;exact⟨rs.length - (a+1),∅,a+1,y,rfl,s6,∅,rfl⟩
  refine⟨_,rfl,_,rfl,E0,_,_,.ref r,rfl,rfl,aD.of e5,bE (by rw [aZ,er];rfl),r,_,_,_,rfl,rfl,t1,rfl,p,rfl,⟨_,t2⟩,vG (xs:=ru.2.map V.str) (λi σ H6=>(∃y,σ=[aG R,aG E0,aG d,some (.int (a:Int)),y])/\aC H5 H6) ⟨⟨y,rfl⟩,aC.refl _⟩ ?_ ?_ ?_⟩
  .rintro i σ H6 _ ⟨_,s6⟩;exact s6.tup t2
  .rintro i x σ H6 ex ⟨⟨y,rfl⟩,s6⟩;rw [aZ] at ex;obtain⟨z,ez,rfl⟩:=b_.mp ex;obtain⟨z1,z2⟩:=hp ru (cv e1) z (cv ez);refine goN ?_;refine⟨_,rfl,z,rfl,z1,?_⟩;rw [z2];refine⟨_,rfl,?_⟩;refine gI ?_;refine gI ?_;exact⟨⟨_,rfl⟩,s6⟩
  rintro σ H6 ⟨⟨y,rfl⟩,s6⟩;exact⟨_,rfl,_,_,rfl,rfl,⟨_,rfl,sm.trans s6⟩⟩
 exact⟨_,rfl,q E0 H5 (s0.trans sm) e5 Xx⟩
end
end gu
namespace M11
open PySem L2
def Cf (b:Str->Bool):List Str->Nat
 | []=>0
 | z::r=>if b z=true then Cf b r+1 else 1
theorem A6 (b:Str->Bool):∀zs:List Str,(∀z∈zs,b z=true)->Cf b zs=zs.length
 | [],_=>rfl
 | z::r,h=>by
  unfold Cf;rw [az (h z bG),A6 b r λx hx=>h x (cJ _ hx)];rfl
theorem E8 (b:Str->Bool):∀(zs:List Str) (i:Nat)(z:Str),(∀x∈zs.take i,b x=true)->zs[i]?=some z->¬b z=true->Cf b zs=i+1
 | y::r,0,z,_,e,n=>by
  cases e;unfold Cf;rw [ay n]
 | y::r,i+1,z,h,e,n=>by
  unfold Cf;rw [az (h y (by rw [List.take_succ_cons];exact bG)),E8 b r i z (λx hx=>h x (by rw [List.take_succ_cons];exact cJ _ hx)) e n]
theorem E7 (b:Str->Bool):∀zs:List Str,Cf b zs<=zs.length
 | []=>aL _
 | z::r=>by
  have:=E7 b r;unfold Cf;rw [bV]
  split <;> omega
def cnt (n:Nat):List V:=(List.range n).map λk:Nat=>V.int (k:Int)
end M11
namespace gu
open PySem L2 M11
section
def Ao (K:aY):Sp:=λvs H Q _=>∃(R:Addr)(rs:List Addr)(aa:List aB),vs=[.ref R]/\aD K H R (rs.map V.ref)/\aS K H rs aa/\aa.length<=1000/\(∀ru∈aa,ru.2.length<=8)/\(aa.flatMap (·.2)).Nodup /\
 ∀H',aC H H'->Q .d5 H'
def mw:aK ["strengths","met","way","words","word"] ["strengths"] (ax yy):=iI rfl rfl rfl rfl nofun
def DX (F:ig K "refuse_twice" "refuse_twice" yy f fd)(T:Txt mg):bS P w K mg base fu 1 f fd ["strengths"] (Ao K):=by
 refine F.ok mw (λvs H Q E h=>?_) (λeB A outer s H vs Q E hr h=>?_)
 .obtain⟨R,rs,aa,rfl,_⟩:=h;rfl
 obtain⟨R,rs,aa,rfl,hR,cK,bM,h8,zF,q⟩:=h;have hu:=gp hr;refine⟨_,ak (aE (i:=1) mw.nd rfl (bJ rfl) gi)
  (ar (cw cP rfl (a9 (pv 0)) (eU rfl (aF (au (i:=2) mw.nd rfl (bJ rfl)) (aF (au (i:=3) mw.nd rfl (bJ rfl)) cy)))
   (ar (cw cP rfl (iG (pv 3)) (au (i:=4) mw.nd rfl (bJ rfl))
    (ak (cN (fq (oh hu (pv 4) (pv 1))) (ar fC) bC) (ar (iu hu (pv 1) (pv 4) eV rfl))))))),?_⟩
 nofun
 intro e he;have AD:∀o,aC H (upd H e o):=λo=>ae he o;have ll:=bK cK
 let z9:z_:=λi σ H5=>∃(kvs:List (aN×V))(y3 y4 y5:Option V),σ=[aG R,aG e,y3,y4,y5]/\H5=upd H e (.dK kvs) /\
  kvs.map (·.1)=((aa.take i).flatMap (·.2)).map Sum.inr
 refine⟨_,rfl,R,rfl,⟨_,(AD _).seq hR⟩,eZ (xs:=rs.map V.ref) z9 ⟨[],none,none,none,rfl,rfl,rfl⟩ ?_ ?_ ?_⟩
 .rintro i σ H5 _ ⟨kvs,y3,y4,y5,rfl,rfl,_⟩;exact(AD _).seq hR
 .rintro i x σ H5 ex ⟨kvs,y3,y4,y5,rfl,rfl,hk⟩
  ac_nf0
  rw [aZ] at ex;obtain⟨r,er,rfl⟩:=b_.mp ex;obtain⟨ru,e1,p,v1,v2⟩:=cK.get er;have li:=(bx.mp e1).1;have Mh:=h8 ru (cv e1);have eT:(aa.take (i+1)).flatMap (·.2)=(aa.take i).flatMap (·.2)++ru.2:=by
   rw [cY,e1,List.flatMap_append];simp
  have lA:((aa.take i).flatMap (·.2)).length<=8 * i:=iX (aa.take i) i (by rw [cX];omega) λru jj=>h8 ru (gC jj);have Es:((aa.take i).flatMap (·.2)++ru.2).Nodup:=by
   have e2:aa.flatMap (·.2)=((aa.take i).flatMap (·.2)++ru.2)++(aa.drop (i+1)).flatMap (·.2):=by
    rw [<-eT,<-List.flatMap_append,oT]
   rw [e2] at zF;exact(iJ.mp zF).1
  refine⟨r,_,rfl,(AD _).tup v1,rfl,_,_,rfl,_,_,rfl,rfl,?_⟩
  let Ib:z_:=λj σ H6=>∃(kvs:List (aN×V))(y5:Option V),σ=[aG R,aG e,some (.str ru.1),aG p,y5]/\H6=upd H e (.dK kvs) /\
   kvs.map (·.1)=((aa.take i).flatMap (·.2)++ru.2.take j).map Sum.inr
  refine⟨_,rfl,p,rfl,⟨_,(AD _).tup v2⟩,vG (xs:=ru.2.map V.str) Ib ⟨kvs,_,rfl,rfl,by rw [List.take_zero,fh];exact hk⟩ ?_ ?_ ?_⟩
  .rintro j σ H6 _ ⟨kvs,y5,rfl,rfl,_⟩;exact(AD _).tup v2
  .rintro j x σ H6 Fb ⟨kvs,y5,rfl,rfl,zH⟩
   ac_nf0
   rw [aZ] at Fb;obtain⟨z,ez,rfl⟩:=b_.mp Fb;have lj:=(bx.mp ez).1;have eS:ru.2.take (j+1)=ru.2.take j++[z]:=by rw [cY,ez];rfl
   have lk:kvs.length<=8 * i+8:=by
    have h1:=congrArg List.length zH;rw [av,av,bW,cX] at h1;omega
   have nz:z∉(aa.take i).flatMap (·.2)++ru.2.take j:=λhz=>by
    have e3:(aa.take i).flatMap (·.2)++ru.2=((aa.take i).flatMap (·.2)++ru.2.take j)++([z]++ru.2.drop (j+1)):=by
     rw [gA,<-gA (ru.2.take j),<-eS,oT]
    rw [e3] at Es;exact(iJ.mp Es).2.2 z hz z (by simp) rfl
   have nk:¬(Sum.inr z:aN)∈kvs.map (·.1):=by rw [zH];exact λh=>nz (cV.mp h)
   refine⟨_,rfl,_,rfl,e,_,rfl,cE.k (k:=Sum.inr z) ab,_,rfl,?_⟩;refine dA (λc=>absurd ((eI kvs _).mp c) nk) (λ_=>?_);refine⟨_,rfl,_,rfl,e,_,rfl,oO.k (k:=Sum.inr z) ab (bo ∅),?_⟩;refine⟨bP kvs (Sum.inr z) (.bl true),_,rfl,by rw [i8],?_⟩;rw [ir nk,zH,eS,<-gA];simp only [aQ,br,jm]
  rintro σ H6 ⟨kvs,y5,rfl,rfl,zH⟩;rw [av,dB,<-eT] at zH;exact⟨kvs,_,_,_,rfl,rfl,zH⟩
 rintro σ H5 ⟨kvs,y3,y4,y5,rfl,rfl,hk⟩;exact q _ (AD _)
def wo (K:aY):Sp:=λvs H Q _=>∃(p d:Addr) (zs:List Str)(kvs:List (aN×V)),vs=[.ref p,.ref d]/\ba K H p (zs.map V.str)/\zs.length<=1000/\H d=some (.dK kvs) /\
 ∀D H',H D=none->aC H H'->H' D=some (.lst (cnt (Cf (λz=>(bu kvs (Sum.inr z)).isSome) zs)))->Q (.ref D) H'
def mx:aK ["parts","empty","places","place","part"] ["parts","empty"] (ax u_):=iI rfl rfl rfl rfl nofun
def BI (F:ig K "first_places" "first_places" u_ f fd)(T:Txt mg):bS P w K mg base fu 1 f fd ["parts","empty"] (wo K):=by
 refine F.ok mx (λvs H Q E h=>?_) (λeB A outer s H vs Q E hr h=>?_)
 .obtain⟨p,d,zs,kvs,rfl,_⟩:=h;rfl
 obtain⟨p,d,zs,kvs,rfl,hp,hz,hd,q⟩:=h;have hu:=gp hr;refine⟨_,ak (aE (i:=2) mx.nd rfl (bJ rfl) (bA aj))
  (ak (cw cP rfl (mJ rfl T.F6 (af (pv 0) aj)) (eU rfl (aF (au (i:=3) mx.nd rfl (bJ rfl)) (aF (au (i:=4) mx.nd rfl (bJ rfl)) cy)))
   (ak (cx (di fQ gM gN bX (pv 2) (af (pv 3) aj)))
   (ar (cN (fq (dP hu (pv 4) (pv 1))) (ar DI) bC))))
  (ar (bf (pv 2)))),?_⟩
 nofun
 refine⟨sj,λD hD=>?_⟩;have up1:∀n,cnt n++[V.int (n:Int)]=cnt (n+1):=λn=>by
  unfold cnt;rw [List.range_succ,aQ];rfl
 refine⟨_,rfl,p,_,rfl,(ae hD _).tup hp,?_⟩
 let VO:z_:=λi σ H5=>∃(y3 y4:Option V),σ=[aG p,aG d,aG D,y3,y4]/\aC H H5/\H5 D=some (.lst (cnt i))/\∀z∈zs.take i,(bu kvs (Sum.inr z)).isSome=true
 refine oA (xs:=zs.map V.str) VO
  ⟨none,none,rfl,ae hD _,ab,by simp⟩ ?_ ?_ ?_
 .rintro i σ H5 _ ⟨y3,y4,rfl,sm,_⟩;exact sm.tup hp
 .rintro i x σ H5 t ex ⟨y3,y4,rfl,sm,HG,pB⟩ ht
  ac_nf0
  rw [aZ] at ex;obtain⟨z,ez,rfl⟩:=b_.mp ex;have li:=(bx.mp ez).1;have n8:=sm.trans (ae ht (.tup [.int (i:Int),.str z]));have ic:upd H5 t (.tup [.int (i:Int),.str z]) D=some (.lst (cnt i)):=by rw [ai (aq HG ht)];exact HG
  have hv:ba K (upd H5 t (.tup [.int (i:Int),.str z])) t [.int (i:Int),.str z]:=ba.of ab;generalize upd H5 t (.tup [.int (i:Int),.str z])=H6 at n8 ic hv;have Br:aC H (upd H6 D (.lst (cnt i++[V.int (i:Int)]))):=λb o hb=>by
   rw [ai (λz=>by rw [z,hD] at hb;cases hb)];exact n8 b o hb
  refine⟨t,_,rfl,hv,rfl,_,_,rfl,_,_,rfl,rfl,?_⟩;refine⟨_,rfl,.inl ⟨rfl,_,aD.of ic⟩,_,rfl,D,_,_,rfl,rfl,ic,bo (by unfold cnt;rw [av,nV];omega),?_⟩;refine⟨_,rfl,_,rfl,d,_,rfl,cE.k (k:=Sum.inr z) (Br _ _ hd),_,rfl,?_⟩;refine dA (λc=>?_) (λc=>?_)
  .refine⟨_,rfl,q D _ hD Br ?_⟩;rw [ab,up1,E8 _ zs i z pB ez (λh=>by rw [h] at c;exact absurd c nofun)]
  refine⟨_,_,rfl,Br,by rw [ab,up1],λx hx=>?_⟩;rw [cY,ez] at hx;rcases aX.mp hx with h | h
  .exact pB x h
  rw [Option.toList_some,bH] at h;subst h;cases hq:(bu kvs (Sum.inr x)).isSome with
  | true=>rfl
  | false=>exact absurd (by rw [hq];rfl) c
 rintro σ H5 ⟨y3,y4,rfl,sm,HG,pB⟩;rw [av] at HG pB;rw [dB] at pB;exact⟨_,rfl,q D _ hD sm (by rw [A6 _ zs pB];exact HG)⟩
end
end gu
namespace L2
open PySem
def xu {K:aY}{H:Hp}{p D:Addr}{zs:List Str}{σ:St}{v:V}{x:Str}{Qp:Hp->Prop}(hp:ba K H p (zs.map V.str))(hz:zs.length<=1000)(hD:H D=none)
  (q:∀ts H2,aC H H2->H2 D=some (.lst (ts.map V.ref))->Paired (λt h=>ba K H2 t [.str h,v]) ts zs->Qp H2) :
  ∃W:Nat->Nat->List V->St->Hp->Prop,(∃m,W 0 m [] (eM [x] [] σ) (upd H D (.lst []))) /\
 ∀i m ys σ' H,W i m ys σ' H->((rR K p).stop i H/\Qp H)\/((rR K p).go i H/\∃m',m' < m/\∀x H',(rR K p).mi i H x H'->eJ 0 x σ' H' λσ2 H2=>iM σ2 H2 λb H3 =>
  if b=true then sk (fZ (gF 0) (fZ (tC v) pq)) σ2 H3 λy H4=>H4 D=some (.lst ys)/\ys.length < sizeLine/\W (i+1) m' (ys++[y]) σ2 (upd H4 D (.lst (ys++[y]))) else W (i+1) m' ys σ2 H3):=by
 refine iZ (xs:=zs.map V.str) (λi ys σ2 H2=>∃ts:List Addr,ys=ts.map V.ref/\ts.length=i/\Paired (λt h=>ba K H2 t [.str h,v]) ts (zs.take i)/\(∃y0,σ2=[y0])/\aC H H2/\H2 D=some (.lst ys))
  ⟨[],rfl,rfl,.nil,⟨none,rfl⟩,ae hD _,ab⟩ (λi ys σ2 H2 _ h=>?_) (λi x ys σ2 H2 ex h=>?_) (λys σ2 H2 h=>?_)
 .obtain⟨_,_,_,_,_,sm,_⟩:=h;exact sm.tup hp
 .obtain⟨ts,rfl,ht,w5,⟨y0,rfl⟩,sm,hd⟩:=h;rw [aZ] at ex;obtain⟨z,ez,rfl⟩:=b_.mp ex;have li:=(bx.mp ez).1;refine goN (sD ?_);refine⟨_,rfl,lV,λt ij=>⟨?_,bo (by rw [av];omega),ts++[t],?_,?_,?_,⟨_,rfl⟩,?_,ab⟩⟩
  .rw [ai (aq hd ij)];exact hd
  .rw [aQ];rfl
  .rw [bW,ht];rfl
  .rw [cY,ez];have gY:upd H2 t (.tup [.str z,v]) D=some (.lst (ts.map V.ref)):=by rw [ai (aq hd ij)];exact hd
   exact fN (Paired.gS w5 λt' h' z=>aR gY ((ae ij _).tup z)) (aR gY (ba.of ab))
  intro b o hb;rw [ai (λz=>by rw [z,hD] at hb;cases hb)];exact ae ij _ _ _ (sm b o hb)
 obtain⟨ts,rfl,ht,w5,_,sm,hd⟩:=h;rw [av,dB] at w5;exact q ts H2 sm hd w5
end L2
namespace M11
open PySem L2
def i0 (a:List Str)(h x:Str):x∈gR a h↔x∈a\/x=h:=by
 unfold gR;split
 .constructor
  .exact .inl
  rintro(z | rfl) <;> assumption
 simp
def Bg {a:List Str}(h:Str)(n:a.Nodup):(gR a h).Nodup:=by
 unfold gR;split
 .exact n
 rename_i q
 refine iJ.mpr ⟨n,by simp,λx hx y hy=>?_⟩;rw [bH.mp hy];exact λz=>q (z ▸ hx)
def Bh (a:List Str)(h:Str):a.length<=(gR a h).length:=by
 unfold gR;split <;> simp
def HX {a:List Str}{h:Str}(e:(gR a h).length=a.length):gR a h=a:=by
 unfold gR at e ⊢;split
 .rfl
 rename_i q
 rw [ay q,bW] at e;simp at e
theorem gJ:∀(hs bF:List Str)(x:Str),x∈vJ bF hs↔x∈bF\/x∈hs
 | [],bF,x=>by simp [vJ]
 | h::r,bF,x=>by
  show x∈vJ (gR bF h) r↔_;rw [gJ r,i0,aW,or_assoc]
theorem oF:∀(hs:List Str){bF:List Str},bF.Nodup->(vJ bF hs).Nodup
 | [],_,n=>n
 | h::r,_,n=>oF r (Bg h n)
theorem zW:∀(hs bF:List Str),bF.length<=(vJ bF hs).length
 | [],_=>aL _
 | h::r,bF=>dI (Bh bF h) (zW r _)
theorem Ff:∀(hs bF:List Str),(vJ bF hs).length=bF.length->vJ bF hs=bF
 | [],_,_=>rfl
 | h::r,bF,e=>by
  have h1:=Bh bF h;have h2:=zW r (gR bF h);have e':(vJ (gR bF h) r).length=bF.length:=e;show vJ (gR bF h) r=bF;rw [Ff r _ ∅];exact HX ∅
inductive LG (aa:List aB)(s:Str):Str->Prop
 | start:LG aa s s
 | step {ru:aB}{x:Str}:LG aa s ru.1->ru∈aa->x∈ru.2->LG aa s x
def FD (aa:List aB) (n:Nat) (ms:List Str):Prop:=∀ru∈aa.take n,ru.1∈ms->∀x∈ru.2,x∈ms
def LG.among {aa:List aB}{s x:Str}(h:LG aa s x):x∈s::aa.flatMap (·.2):=by
 cases h with
 | start=>exact bG
 | step _ h1 h2=>exact cJ _ (qh.mpr ⟨_,h1,h2⟩)
end M11
namespace gu
open PySem L2 M11
section
def Ir (K:aY):Sp:=λvs H Q _=>∃(R:Addr)(rs:List Addr)(aa:List aB)(lW:aB),vs=[.ref R]/\aD K H R (rs.map V.ref)/\aS K H rs aa/\aa[0]?=some lW/\aa.length<=1000/\(∀ru∈aa,ru.2.length<=8) /\
 ∀d kvs ms H',H d=none->aC H H'->H' d=some (.dK kvs)->kvs.map (·.1)=ms.map Sum.inr->lW.1∈ms->(∀x∈ms,LG aa lW.1 x)->FD aa aa.length ms->Q (.ref d) H'
def tq:aK ["rules","met","many","head","parts"] ["rules"] (ax JM):=iI rfl rfl rfl rfl nofun
structure MD (K:aY)(aa:List aB)(s0:Str)(H H5:Hp)(d:Addr) (ms:List Str)(kvs:List (aN×V)):Prop where
 sm:aC H H5
 hd:H5 d=some (.dK kvs)
 keys:kvs.map (·.1)=ms.map Sum.inr
 nd:ms.Nodup
 st:s0∈ms
 PX:∀x∈ms,LG aa s0 x
def MD.len {aa:List aB}{s0:Str}{H H5:Hp}{d:Addr}{ms:List Str}{kvs:List (aN×V)}(h:MD K aa s0 H H5 d ms kvs)(hl:aa.length<=1000)(h8:∀ru∈aa,ru.2.length<=8):kvs.length=ms.length/\ms.length<=8001:=by
 refine⟨?_,?_⟩
 .have:=congrArg List.length h.keys;simpa using this
 have h1:=gX ms _ h.nd λx hx=>(h.PX x hx).among;have h2:=iX aa 1000 hl h8;rw [bV] at h1;omega
def Kf (F:ig K "names_met" "names_met" JM f fd)(T:Txt mg):bS P w K mg base fu 1 f fd ["rules"] (Ir K):=by
 refine F.ok tq (λvs H Q E h=>?_) (λeB A outer s H vs Q E hr h=>?_)
 .obtain⟨R,rs,aa,lW,rfl,_⟩:=h;rfl
 obtain⟨R,rs,aa,lW,rfl,hR,cK,zD,bM,h8,q⟩:=h;have hu:=gp hr;refine⟨_,ak (aE (i:=1) tq.nd rfl (bJ rfl) (G_ (DL (aM b9 (aM aP (pv 0) ao (λ_ _=>rfl)) ao (λ_ _=>rfl)) eV G3) rfl rfl (by simp) (show 1<=15 by decide)))
  (ak (aE (i:=2) tq.nd rfl (bJ rfl) ao)
  (ak (iP cP (bB mP (pv 2) (aV ue rfl T.len fw (af (pv 1) aj)) (cf _))
   (ak (aE (i:=2) tq.nd rfl (bJ rfl) (aV ue rfl T.len fw (af (pv 1) aj)))
   (ar (cw cP rfl (a9 (pv 0)) (eU rfl (aF (au (i:=3) tq.nd rfl (bJ rfl)) (aF (au (i:=4) tq.nd rfl (bJ rfl)) cy)))
    (ar (cN (fq (oh hu (pv 3) (pv 1)))
     (ar (cx (G9 rfl (pv 1) (bL ["part"] [] rfl (iG (pv 4)) (a_ rfl rfl) nofun rfl nofun
       (λ_ _ _ _ _=>au (i:=0) (show (["part"]:List Str).Nodup by decide +kernel) rfl (bJ rfl)) (λ_ _ _ _ _=>cb) (λ_ _ _ _ _=>bY (af (pv 0) (af eV aj)))) ⟨rfl,rfl,rfl,rfl⟩))) bC))))))
  (ar (bf (pv 1))))),?_⟩
 nofun
 intro d hd;have ll:=bK cK;have l0:=(bx.mp zD).1;obtain⟨r0,Qz⟩:∃r,rs[0]?=some r:=⟨rs[0]'∅,dw ∅⟩;obtain⟨ZK,e0,p0,w1,w2⟩:=cK.get Qz;rw [zD] at e0;cases e0;have V8:=ae hd (.dK []);refine⟨_,rfl,R,_,_,.ref r0,rfl,rfl,V8.seq hR,?_,r0,_,_,_,rfl,rfl,V8.tup w1,rfl,?_⟩
 .have e7:(rs.map V.ref)[0]?=some (.ref r0):=by rw [aZ,Qz];rfl
  exact bE (j:=0) e7
 refine⟨ab,[((Sum.inr lW.1:aN),.bl true)],rfl,(by show 1<=15;decide),?_⟩;have S0:MD K aa lW.1 H (upd (upd H d (.dK [])) d (.dK (lH [] [((Sum.inr lW.1:aN),.bl true)]))) d [lW.1] [((Sum.inr lW.1:aN),.bl true)]:=by
  rw [i8];exact⟨ae hd _,ab,rfl,by simp,by simp,λx hx=>by rw [bH.mp hx];exact .start⟩
 generalize upd (upd H d (.dK [])) d (.dK (lH [] [((Sum.inr lW.1:aN),.bl true)]))=H0 at S0;refine⟨λm σ H5=>∃(ms:List Str)(kvs:List (aN×V)) (many:Int)(y3 y4:Option V),σ=[aG R,aG d,some (.int many),y3,y4]/\MD K aa lW.1 H H5 d ms kvs/\0<=many/\many<=ms.length/\(many=ms.length->FD aa aa.length ms)/\(m:Int)=8002 - many,
  ⟨8002,[lW.1],_,0,none,none,rfl,S0,∅,by simp,by simp,∅⟩,?_⟩
 rintro m σ H5 ⟨ms,kvs,many,y3,y4,rfl,S,b1,b2,cl,em⟩;obtain⟨lk,lm⟩:=S.len bM h8;refine⟨_,rfl,_,rfl,d,_,rfl,S.hd,_,_,rfl,rfl,_,rfl,?_⟩;refine dA (λc=>?_) (λc=>?_)
 .have c':=dF c;rw [lk] at c';refine⟨λσ H5=>∃(pM:List Str)(ff:List (aN×V))(y3 y4:Option V),σ=[aG R,aG d,some (.int (ms.length:Int)),y3,y4]/\MD K aa lW.1 H H5 d pM ff/\ms.length<=pM.length/\(pM.length=ms.length->FD aa aa.length pM),?_,?_⟩
  .rintro σ H6 ⟨pM,ff,y3,y4,rfl,S2,l2,c2⟩;exact⟨(8002 - ms.length:Int).toNat,∅,pM,ff,_,_,_,rfl,S2,∅,∅,λz=>c2 ∅,∅⟩
  refine⟨_,rfl,d,_,rfl,S.hd,?_⟩;rw [lk];refine⟨_,rfl,R,rfl,⟨_,S.sm.seq hR⟩,?_⟩;refine eZ (xs:=rs.map V.ref) (λi σ H6=>∃(pM:List Str)(ff:List (aN×V))(y3 y4:Option V),σ=[aG R,aG d,some (.int (ms.length:Int)),y3,y4]/\MD K aa lW.1 H H6 d pM ff/\ms.length<=pM.length/\(pM.length=ms.length->FD aa i pM))
   ⟨ms,kvs,_,_,rfl,S,aL _,λ_ ru jj=>by simp at jj⟩ ?_ ?_ ?_
  .rintro i σ H6 _ ⟨pM,ff,y3,y4,rfl,S2,_⟩;exact S2.sm.seq hR
  .rintro i x σ H6 ex ⟨pM,ff,y3,y4,rfl,S2,l2,c2⟩
   ac_nf0
   rw [aZ] at ex;obtain⟨r,er,rfl⟩:=b_.mp ex;obtain⟨ru,e1,p,v1,v2⟩:=cK.get er;have Mh:=h8 ru (cv e1);have tk:aa.take (i+1)=aa.take i++[ru]:=by rw [cY,e1];rfl
   obtain⟨P6,lm2⟩:=S2.len bM h8;have mem:(bu ff (Sum.inr ru.1)).isSome=true↔ru.1∈pM:=by rw [eI,S2.keys];exact cV
   refine⟨r,_,rfl,S2.sm.tup v1,rfl,_,_,rfl,_,_,rfl,rfl,?_⟩;refine⟨_,rfl,_,rfl,d,_,rfl,cE.k (k:=Sum.inr ru.1) S2.hd,_,rfl,?_⟩;refine dA (λc3=>?_) (λc3=>?_)
   .have im:=mem.mp c3;refine⟨_,rfl,d,rfl,.inl ⟨_,.inl S2.hd⟩,_,rfl,p,rfl,⟨_,S2.sm.tup v2⟩,λD2 ic=>xu (S2.sm.tup v2) ∅ ic λts H8 CH zJ W8=>?_⟩;have kp:Paired (λt (kv:aN×V)=>ba K H8 t [kV kv.1,kv.2]) ts (ru.2.map λh=>((Sum.inr h:aN),V.bl true)):=cQ W8 λ_ _ z=>z;refine⟨D2,ts,ff,_,rfl,CH _ _ S2.hd,zJ,kp,fits (by rw [av];omega),?_⟩;have aao:=zW ru.2 pM;refine⟨vJ pM ru.2,cT (ru.2.map λh=>((Sum.inr h:aN),V.bl true)) ff,_,_,rfl,⟨λb o hb=>?_,ab,mU ru.2 ff pM S2.keys,oF ru.2 S2.nd,(gJ ru.2 pM _).mpr (.inl S2.st),λx hx=>?_⟩,∅,λz rZ wZ hh=>?_⟩
    .rw [ai (λz=>by rw [z,hd] at hb;cases hb)];exact CH _ _ (S2.sm b o hb)
    .rcases (gJ ru.2 pM x).mp hx with h | h
     .exact S2.PX x h
     exact .step (S2.PX _ im) (cv e1) h
    have e9:=Ff ru.2 pM ∅;rw [e9] at hh ⊢;rw [tk] at wZ;rcases aX.mp wZ with h | h
    .exact c2 ∅ rZ h hh
    rw [bH.mp h];intro x hx;rw [<-e9];exact(gJ ru.2 pM x).mpr (.inr hx)
   refine⟨pM,ff,_,_,rfl,S2,l2,λz rZ wZ hh=>?_⟩;rw [tk] at wZ;rcases aX.mp wZ with h | h
   .exact c2 z rZ h hh
   rw [bH.mp h] at hh;exact absurd (mem.mpr hh) c3
  rintro σ H6 ⟨pM,ff,y3,y4,rfl,S2,l2,c2⟩;rw [av,ll] at c2;exact⟨pM,ff,_,_,rfl,S2,l2,c2⟩
 have c':=of_decide_eq_false (kJ.mpr c);rw [lk] at c';exact⟨_,rfl,q d kvs ms H5 hd S.sm S.hd S.keys S.st S.PX (cl ∅)⟩
end
end gu
namespace M11
open PySem L2
abbrev G:=Str->Option Int
def dW (g:G)(h:Str) (n:Int):G:=λz=>if z=h then some n else g z
def aO (g:G)(ru:aB):Int:=1+(ru.2.map λp=>(g p).getD 0).sum
def jB (g:G)(ru:aB):Bool:=ru.2.all λp=>(g p).isSome
def cD (bt:Int->Int->Bool)(g:G)(ru:aB):Bool:=jB g ru && (!(g ru.1).isSome || bt (aO g ru) ((g ru.1).getD 0))
def sstep (bt:Int->Int->Bool)(a:G×Bool)(ru:aB):G×Bool:=if cD bt a.1 ru=true then (dW a.1 ru.1 (aO a.1 ru),true) else a
def so (bt:Int->Int->Bool)(aa:List aB)(g:G):G×Bool:=aa.foldl (sstep bt) (g,false)
inductive dU (bt:Int->Int->Bool)(aa:List aB):G->G->Prop
 | refl {g:G}:dU bt aa g g
 | step {g g1:G}{ru:aB}:dU bt aa g g1->ru∈aa->cD bt g1 ru=true->dU bt aa g (dW g1 ru.1 (aO g1 ru))
def iB (bt:Int->Int->Bool)(aa:List aB)(g:G):Prop:=∀ru∈aa,cD bt g ru=false
def oN (bt:Int->Int->Bool)(aa:List aB):Nat->G->Prop
 | 0,g=>(so bt aa g).2=false
 | n+1,g=>(so bt aa g).2=false\/oN bt aa n (so bt aa g).1
def dU.trans {bt:Int->Int->Bool}{aa:List aB}{g g1 g2:G}(h:dU bt aa g g1)(k:dU bt aa g1 g2):dU bt aa g g2:=by
 induction k with
 | refl=>exact h
 | step _ a b ih=>exact .step ih a b
theorem q_ (bt:Int->Int->Bool)(aa:List aB):∀(l:List aB)(a:G×Bool),(∀ru∈l,ru∈aa)->dU bt aa a.1 (l.foldl (sstep bt) a).1
 | [],a,_=>.refl
 | ru::l,a,h=>by
  have ih:=q_ bt aa l (sstep bt a ru) λx hx=>h x (cJ _ hx);refine dU.trans ?_ ih;unfold sstep;by_cases c:cD bt a.1 ru=true
  .rw [az c];exact .step .refl (h ru bG) c
  rw [ay c];exact .refl
theorem tU (bt:Int->Int->Bool):∀(l:List aB)(a:G×Bool),a.2=true->(l.foldl (sstep bt) a).2=true
 | [],a,h=>h
 | ru::l,a,h=>by
  refine tU bt l (sstep bt a ru) ?_;unfold sstep
  split
  .rfl
  exact h
theorem rf (bt:Int->Int->Bool):∀(l:List aB)(a:G×Bool),(l.foldl (sstep bt) a).2=false->(l.foldl (sstep bt) a).1=a.1/\∀ru∈l,cD bt a.1 ru=false
 | [],a,_=>⟨rfl,λ_ h=>nomatch h⟩
 | ru::l,a,h=>by
  by_cases c:cD bt a.1 ru=true
  .have e:sstep bt a ru=(dW a.1 ru.1 (aO a.1 ru),true):=az c;have h':(l.foldl (sstep bt) (sstep bt a ru)).2=false:=h;rw [e,tU bt l _ rfl] at h';cases h'
  have e:sstep bt a ru=a:=ay c;have h':(l.foldl (sstep bt) (sstep bt a ru)).2=false:=h;rw [e] at h';obtain⟨i1,i2⟩:=rf bt l a h';refine⟨by rw [List.foldl_cons,e];exact i1,λrZ hr=>?_⟩;rcases aW.mp hr with z | z
  .rw [z];exact kJ.mpr c
  exact i2 rZ z
end M11
namespace L2
open PySem M11
def fK.tup {K:aY}{H H':Hp}{d a:Addr}{kvs:List (aN×V)}{xs:List V}(s:fK d H H')(hd:H d=some (.dK kvs))(h:ba K H a xs):ba K H' a xs:=by
 rcases h with (h | ⟨u,h⟩) | h
 .exact .inl (.inl (s _ _ (λz=>by rw [z,hd] at h;cases h) h))
 .exact .inl (.inr ⟨u,s _ _ (λz=>by rw [z,hd] at h;cases h) h⟩)
 exact .inr h
def fK.seq {K:aY}{H H':Hp}{d a:Addr}{kvs:List (aN×V)}{xs:List V}(s:fK d H H')(hd:H d=some (.dK kvs))(h:aD K H a xs):aD K H' a xs:=by
 rcases h with (h | ⟨u,h⟩) | h
 .exact .inl (.inl (s _ _ (λz=>by rw [z,hd] at h;cases h) h))
 .exact .inl (.inr ⟨u,s _ _ (λz=>by rw [z,hd] at h;cases h) h⟩)
 exact .inr h
def Cq {K:aY}{H:Hp}{p D d:Addr}{zs:List Str}{kvs:List (aN×V)}{g:G}{σ:St}{js:List (Nat×Str)}{Qp:Hp->Prop}(hσ:eM ["part"] js σ=[none,aG d])(hp:ba K H p (zs.map V.str))(hz:zs.length<=1000)
  (hd:H d=some (.dK kvs))(hv:∀z,bu kvs (Sum.inr z)=(g z).map V.int)(ha:∀z∈zs,(g z).isSome=true)(hD:H D=none)(q:∀H2,aC H H2->H2 D=some (.lst ((zs.map λz=>(g z).getD 0).map V.int))->Qp H2) :
  ∃W:Nat->Nat->List V->St->Hp->Prop,(∃m,W 0 m [] (eM ["part"] js σ) (upd H D (.lst []))) /\
 ∀i m ys σ' H,W i m ys σ' H->((rR K p).stop i H/\Qp H)\/((rR K p).go i H/\∃m',m' < m/\∀x H',(rR K p).mi i H x H'->eJ 0 x σ' H' λσ2 H2=>iM σ2 H2 λb H3 =>
  if b=true then Ah (gF 1) (gF 0) σ2 H3 λy H4=>H4 D=some (.lst ys)/\ys.length < sizeLine/\W (i+1) m' (ys++[y]) σ2 (upd H4 D (.lst (ys++[y]))) else W (i+1) m' ys σ2 H3):=by
 refine iZ (xs:=zs.map V.str) (λi ys σ2 H2=>ys=(((zs.take i).map λz=>(g z).getD 0).map V.int)/\(∃y0,σ2=[y0,aG d])/\aC H H2/\H2 D=some (.lst ys))
  ⟨rfl,⟨none,hσ⟩,ae hD _,ab⟩ (λi ys σ2 H2 _ h=>h.2.2.1.tup hp) (λi x ys σ2 H2 ex h=>?_) (λys σ2 H2 h=>?_)
 .obtain⟨rfl,⟨y0,rfl⟩,sm,hd2⟩:=h;rw [aZ] at ex;obtain⟨z,ez,rfl⟩:=b_.mp ex;have li:=(bx.mp ez).1;obtain⟨n,en⟩:=mh.mp (ha z (cv ez));have hg:cE H2 d (.str z) (some (.int n)):=by
   have:=cE.k (k:=Sum.inr z) (sm _ _ hd);rw [hv,en] at this;exact this
  refine goN (sD ?_);refine⟨_,rfl,_,rfl,d,_,rfl,hg,hd2,bo (by rw [av,av,cX];omega),?_,⟨_,rfl⟩,?_,ab⟩
  .rw [cY,ez,aQ,aQ];show _=_++[V.int ((g z).getD 0)];rw [en];rfl
  intro b o hb;rw [ai (λz=>by rw [z,hD] at hb;cases hb)];exact sm b o hb
 obtain⟨rfl,_,sm,hd2⟩:=h;rw [av,dB] at hd2;exact q H2 sm hd2
end L2
namespace gu
open PySem L2 M11
section
def g_ (K:aY)(q:Str)(params:Arguments)(body:Expr)(scope:Scope)(bt:Int->Int->Bool):Sp:=λvs H Q _=>∃(R:Addr)(rs:List Addr)(aa:List aB)(d fl c':Addr)(pm fU:Value)(kvs:List (aN×V)) (ks:List Str)(g:G),
 vs=[.ref R,.ref d,.ref fl]/\aD K H R (rs.map V.ref)/\aS K H rs aa/\aa.length<=1000/\(∀ru∈aa,ru.2.length<=8)/\H d=some (.dK kvs)/\kvs.map (·.1)=ks.map Sum.inr/\ks.Nodup/\ks.length<=10000 /\
 (∀z,bu kvs (Sum.inr z)=(g z).map V.int)/\(∃n,oN bt aa n g)/\H fl=some (om fl (PySem.W.kla_obj "<lambda>" q params body scope [] pm c' fU))/\H c'=some (jz c' q) /\
 ∀(lM:List (aN×V)) (NU:List Str)(g':G)(H':Hp),fK d H H'->H' d=some (.dK lM)->lM.map (·.1)=NU.map Sum.inr->(∀z,bu lM (Sum.inr z)=(g' z).map V.int)->dU bt aa g g'->iB bt aa g'->lM.length<=20000->Q (.ref d) H'
def hV:aK ["rules","sizes","better","changed","head","parts","size"] ["rules","sizes","better"] (ax mD):=iI rfl rfl rfl rfl nofun
structure CP (K:aY)(aa:List aB) (FV:List Str)(H H5:Hp)(d:Addr)(kvs:List (aN×V)) (ks:List Str)(g:G):Prop where
 sm:fK d H H5
 hd:H5 d=some (.dK kvs)
 keys:kvs.map (·.1)=ks.map Sum.inr
 nd:ks.Nodup
 sub:∀x∈ks,x∈FV++aa.map (·.1)
 val:∀z,bu kvs (Sum.inr z)=(g z).map V.int
def CP.len {aa:List aB}{FV:List Str}{H H5:Hp}{d:Addr}{kvs:List (aN×V)}{ks:List Str}{g:G}(h:CP K aa FV H H5 d kvs ks g):kvs.length<=FV.length+aa.length:=by
 have h1:=congrArg List.length h.keys;have h2:=gX ks _ h.nd h.sub;rw [bW,av] at h2;rw [av,av] at h1;omega
def CP.same {aa:List aB}{FV:List Str}{H H5 H6:Hp}{d:Addr}{kvs:List (aN×V)}{ks:List Str}{g:G}(h:CP K aa FV H H5 d kvs ks g)(s:aC H5 H6):CP K aa FV H H6 d kvs ks g :=
 ⟨λb o n e=>s _ _ (h.sm b o n e),s _ _ h.hd,h.keys,h.nd,h.sub,h.val⟩
def CP.put {aa:List aB}{FV:List Str}{H H5:Hp}{d:Addr}{kvs:List (aN×V)}{ks:List Str}{g:G}(h:CP K aa FV H H5 d kvs ks g){ru:aB}(hr:ru∈aa) (n:Int) :
  CP K aa FV H (upd H5 d (.dK (bP kvs (Sum.inr ru.1) (.int n)))) d (bP kvs (Sum.inr ru.1) (.int n)) (gR ks ru.1) (dW g ru.1 n):=by
 refine⟨λb o nb e=>by rw [ai nb];exact h.sm b o nb e,ab,jZ h.keys ru.1,Bg ru.1 h.nd,λx hx=>?_,λz=>?_⟩
 .rcases (i0 ks ru.1 x).mp hx with z | z
  .exact h.sub x z
  rw [z];exact fX _ (iK hr)
 rw [wa];unfold dW;by_cases c:z=ru.1
 .rw [az c,az (by rw [c])];rfl
 rw [ay c,ay (λe=>c (kY e)),h.val]
def tL (F:ig K "settled_sizes" "settled_sizes" mD f fd)(T:Txt mg){q:Str}{params:Arguments}{body:Expr}{scope:Scope}{bt:Int->Int->Bool}{te:TE}(S:aK ["size","known"] ["size","known"] scope)
  (mX:∀(pm fU:Value)(c':Addr)(us:List Value),us.length=(["size","known"]:List Str).length->bindArgs (PySem.W.kla_fn "<lambda>" q params body scope [] pm (.ref c') fU) ⟨us,[]⟩=pure ((["size","known"]:List Str).zip us))
  (iW:∀(f c':Addr)(A:Around)(outer:List Env)(s:Shared)(H:Hp),PE (oG fu P w K mg base ["size","known"] q scope f (.ref c') A outer s H λ_ _ _=>False) body te)
  (hte:∀a b H Q,Q (.bl (bt a b)) H->te [some (.int a),some (.int b)] H Q):bS P w K mg base fu 2 f fd ["rules","sizes","better"] (g_ K q params body scope bt):=by
 refine F.ok hV (λvs H Q E h=>?_) (λeB A outer s H vs Q E hr h=>?_)
 .obtain⟨R,rs,aa,d,fl,c',pm,fU,kvs,ks,g,rfl,_⟩:=h;rfl
 obtain⟨R,rs,aa,d,fl,c',pm,fU,kvs,ks,g,rfl,hR,cK,bM,h8,hd,hk,zF,hkl,hv,⟨n0,AX⟩,EV,iz,qq⟩:=h;have hu:=gp hr;refine⟨_,ak (aE (i:=3) hV.nd rfl (bJ rfl) eV)
  (ak (iP cP (fk (pv 3))
   (ak (aE (i:=3) hV.nd rfl (bJ rfl) eV)
   (ar (cw cP rfl (a9 (pv 0)) (eU rfl (aF (au (i:=4) hV.nd rfl (bJ rfl)) (aF (au (i:=5) hV.nd rfl (bJ rfl)) cy)))
    (ar (cN (fk (aV (oJ rfl) rfl T.all boot_all (af (bL ["part"] [(1,"sizes")] rfl (iG (pv 5)) (a_ rfl rfl) nofun rfl nofun
       (λ_ _ _ _ _=>au (i:=0) (show (["part","sizes"]:List Str).Nodup by decide +kernel) rfl (bJ rfl)) (λ_ _ _ _ _=>cb) (λ_ _ _ _ _=>DR (oh hu (pv 0) (pv 1)))) aj)))
     (ak (aE (i:=6) hV.nd rfl (bJ rfl) (aI dC ao (aV (ua rfl) rfl T.sum PyProof.Rows.boot_sum (af (bL ["part"] [(1,"sizes")] rfl (iG (pv 5)) (a_ rfl rfl) nofun rfl nofun
       (λ_ _ _ _ _=>au (i:=0) (show (["part","sizes"]:List Str).Nodup by decide +kernel) rfl (bJ rfl)) (λ_ _ _ _ _=>cb) (λ_ _ _ _ _=>fc hu (pv 1) (pv 0) (λ_ _=>rfl))) aj))))
     (ar (cN (PW.pt (qI (fq (dP hu (pv 4) (pv 1))) (lE (fk (yV (i:=2) (k:=0) rfl rfl S hr mX iW (af (pv 6) (af (fc hu (pv 1) (pv 4) (λ_ _=>rfl)) aj)))))))
      (ak (iu hu (pv 1) (pv 4) (pv 6) rfl) (ar (aE (i:=3) hV.nd rfl (bJ rfl) eV))) bC))) bC))))))
  (ar (bf (pv 1)))),?_⟩
 nofun
 have ll:=bK cK;have S0:CP K aa ks H H d kvs ks g:=⟨λ_ _ _ e=>e,hd,hk,zF,λx hx=>mf _ hx,hv⟩;refine⟨λm σ H5=>∃(ff:List (aN×V)) (P7:List Str)(g2:G)(ch:Bool)(y4 y5 y6:Option V),σ=[aG R,aG d,aG fl,some (.bl ch),y4,y5,y6]/\CP K aa ks H H5 d ff P7 g2/\dU bt aa g g2 /\
  ((ch=true/\∃n,m=n+1/\oN bt aa n g2)\/(ch=false/\iB bt aa g2)),⟨n0+1,kvs,ks,g,true,none,none,none,rfl,S0,.refl,.inl ⟨rfl,n0,rfl,AX⟩⟩,?_⟩
 rintro m σ H5 ⟨ff,P7,g2,ch,y4,y5,y6,rfl,S2,FN,cs⟩;refine⟨_,rfl,ch,rfl,?_⟩;refine dA (λc=>?_) (λc=>?_)
 .rcases cs with ⟨_,n,em,en⟩ | ⟨c',_⟩
  case inr=>rw [c'] at c;cases c
  refine⟨λσ H6=>∃(lL:List (aN×V)) (CI:List Str)(g3:G)(xE:Bool)(y4 y5 y6:Option V),σ=[aG R,aG d,aG fl,some (.bl xE),y4,y5,y6]/\CP K aa ks H H6 d lL CI g3/\(g3,xE)=so bt aa g2,?_,?_⟩
  .rintro σ H6 ⟨lL,CI,g3,xE,y4,y5,y6,rfl,S3,e3⟩;have Ve:g3=(so bt aa g2).1:=congrArg Prod.fst e3;have Lr:xE=(so bt aa g2).2:=congrArg Prod.snd e3;have Ng:dU bt aa g g3:=by
    rw [Ve];exact FN.trans (q_ bt aa aa (g2,false) λ_ h=>h)
   cases h3:xE with
   | false =>
    rw [h3] at Lr;obtain⟨f1,f2⟩:=rf bt aa (g2,false) Lr.symm;refine⟨0,∅,lL,CI,g3,false,_,_,_,rfl,S3,Ng,.inr ⟨rfl,?_⟩⟩;have e33:g3=g2:=Ve.trans f1;rw [e33];exact f2
   | true =>
    rw [h3] at Lr;cases n with
    | zero=>rw [show (so bt aa g2).2=false from en] at Lr;cases Lr
    | succ n' =>
     rcases en with en | en
     .rw [en] at Lr;cases Lr
     exact⟨n'+1,∅,lL,CI,g3,true,_,_,_,rfl,S3,Ng,.inl ⟨rfl,n',rfl,by rw [Ve];exact en⟩⟩
  refine⟨_,rfl,R,rfl,⟨_,S2.sm.seq hd hR⟩,?_⟩;refine eZ (xs:=rs.map V.ref) (λi σ H6=>∃(lL:List (aN×V)) (CI:List Str)(g3:G)(xE:Bool)(y4 y5 y6:Option V),σ=[aG R,aG d,aG fl,some (.bl xE),y4,y5,y6]/\CP K aa ks H H6 d lL CI g3/\(g3,xE)=(aa.take i).foldl (sstep bt) (g2,false))
   ⟨ff,P7,g2,false,_,_,_,rfl,S2,rfl⟩ ?_ ?_ ?_
  .rintro i σ H6 _ ⟨lL,CI,g3,xE,y4,y5,y6,rfl,S3,_⟩;exact S3.sm.seq hd hR
  .rintro i x σ H6 ex ⟨lL,CI,g3,xE,y4,y5,y6,rfl,S3,e3⟩;rw [aZ] at ex;obtain⟨r,er,rfl⟩:=b_.mp ex;obtain⟨ru,e1,p,v1,v2⟩:=cK.get er;have ox:=cv e1;have Mh:=h8 ru ox;have fo:(aa.take (i+1)).foldl (sstep bt) (g2,false)=sstep bt (g3,xE) ru:=by
    rw [cY,e1,List.foldl_append,<-e3];rfl
   rw [fo];have Q9:=S3.sm.tup hd v2;refine⟨r,_,rfl,S3.sm.tup hd v1,rfl,_,_,rfl,_,_,rfl,rfl,?_⟩;refine⟨_,rfl,p,rfl,⟨_,Q9⟩,λD2 ic=>t_ rfl Q9 ∅ S3.hd ic λH7 Nk hd7=>?_⟩;have S4:=S3.same Nk;have v4:=Nk.tup Q9;have eb:(ru.2.map λz=>(bu lL (Sum.inr z)).isSome).all id=jB g3 ru:=by
    unfold jB;rw [List.all_map];refine List.all_congr rfl λz=>?_;show (bu lL (Sum.inr z)).isSome=_;rw [S3.val,nW]
   refine⟨D2,_,rfl,aD.of hd7,_,rfl,?_⟩;rw [eb];refine dA (λc4=>?_) (λc4=>?_)
   .have al:∀z∈ru.2,(g3 z).isSome=true:=λz hz=>gL.mp c4 z hz;refine⟨_,rfl,p,rfl,⟨_,v4⟩,λD3 F3=>Cq (g:=g3) rfl v4 ∅ S4.hd S4.val al F3 λH8 CH zJ=>?_⟩;have S5:=S4.same CH;have esz:1+(ru.2.map λz=>(g3 z).getD 0).sum=aO g3 ru:=rfl;refine⟨D3,_,rfl,aD.of zJ,_,_,rfl,rfl,?_⟩;have mem:(bu lL (Sum.inr ru.1)).isSome=(g3 ru.1).isSome:=by rw [S5.val,nW]
    have fl5:=S5.sm fl _ (λz=>by rw [z,hd] at EV;cases EV) EV;have c5':=S5.sm c' _ (λz=>by rw [z,hd] at iz;cases iz) iz;have l5:=S5.len;refine⟨_,rfl,_,rfl,d,_,rfl,cE.k (k:=Sum.inr ru.1) S5.hd,_,rfl,?_⟩;refine dA (λc5=>?_) (λc5=>?_)
    .have fr:cD bt g3 ru=true:=by
      unfold cD;rw [<-mem,c4,c5];rfl
     refine⟨_,rfl,_,rfl,_,rfl,d,_,rfl,oO.k (k:=Sum.inr ru.1) S5.hd (bo ∅),?_⟩;exact⟨_,_,dW g3 ru.1 (aO g3 ru),true,_,_,_,rfl,S5.put ox (aO g3 ru),(az fr).symm⟩
    have isS:(g3 ru.1).isSome=true:=by
     rw [mem] at c5;cases hq:(g3 ru.1).isSome with
     | true=>rfl
     | false=>rw [hq] at c5;exact absurd rfl c5
    obtain⟨k,ek⟩:=mh.mp isS;have hg:cE H8 d (.str ru.1) (some (.int k)):=by
     have:=cE.k (k:=Sum.inr ru.1) S5.hd;rw [S5.val,ek] at this;exact this
    refine⟨fl,pm,c',fU,rfl,_,rfl,_,rfl,_,rfl,d,_,rfl,hg,fl5,c5',rfl,hte (aO g3 ru) k _ _ ⟨_,rfl,?_⟩⟩;refine dA (λc6=>?_) (λc6=>?_)
    .have fr:cD bt g3 ru=true:=by
      unfold cD;rw [c4,ek];show (true && (false || bt (aO g3 ru) k))=true
      rw [c6];rfl
     refine⟨_,rfl,_,rfl,_,rfl,d,_,rfl,oO.k (k:=Sum.inr ru.1) S5.hd (bo ∅),?_⟩;exact⟨_,_,dW g3 ru.1 (aO g3 ru),true,_,_,_,rfl,S5.put ox (aO g3 ru),(az fr).symm⟩
    have fr:¬cD bt g3 ru=true:=by
     unfold cD;rw [c4,ek];show ¬(true && (false || bt (aO g3 ru) k))=true
     rw [kJ.mpr c6];exact nofun
    exact⟨lL,CI,g3,xE,_,_,_,rfl,S5,(ay fr).symm⟩
   have e5:sstep bt (g3,xE) ru=(g3,xE):=ay (λz=>c4 (by unfold cD at z;exact(qp.mp z).1));exact⟨lL,CI,g3,xE,_,_,_,rfl,S4,e5.symm⟩
  rintro σ H6 ⟨lL,CI,g3,xE,y4,y5,y6,rfl,S3,e3⟩;rw [av,ll,dB] at e3;exact⟨lL,CI,g3,xE,_,_,_,rfl,S3,e3⟩
 rcases cs with ⟨c',_⟩ | ⟨_,se⟩
 .rw [c'] at c;exact absurd rfl c
 exact⟨_,rfl,qq ff P7 g2 H5 S2.sm S2.hd S2.keys S2.val FN se (by have:=S2.len;omega)⟩
end
end gu
namespace M11
open PySem L2
theorem fold_lt {bt:Int->Int->Bool}{aa:List aB}{J:G->Prop}{r:G->G->Prop}(tr:∀a b c,r a b->r b c->r a c)
  (sf:∀g ru,J g->ru∈aa->cD bt g ru=true->J (dW g ru.1 (aO g ru))/\r (dW g ru.1 (aO g ru)) g) :
  ∀(l:List aB)(a:G×Bool),(∀ru∈l,ru∈aa)->J a.1->J (l.foldl (sstep bt) a).1/\(l.foldl (sstep bt) a=a\/r (l.foldl (sstep bt) a).1 a.1)
 | [],a,_,j=>⟨j,.inl rfl⟩
 | ru::l,a,h,j=>by
  by_cases c:cD bt a.1 ru=true
  .have e:sstep bt a ru=(dW a.1 ru.1 (aO a.1 ru),true):=az c;obtain⟨j1,r1⟩:=sf a.1 ru j (h ru bG) c;obtain⟨j2,r2⟩:=fold_lt tr sf l (dW a.1 ru.1 (aO a.1 ru),true) (λx hx=>h x (cJ _ hx)) j1;rw [List.foldl_cons,e];refine⟨j2,.inr ?_⟩;rcases r2 with r2 | r2
   .rw [r2];exact r1
   exact tr _ _ _ r2 r1
  have e:sstep bt a ru=a:=ay c;rw [List.foldl_cons,e];exact fold_lt tr sf l a (λx hx=>h x (cJ _ hx)) j
def xm {bt:Int->Int->Bool}{aa:List aB}{J:G->Prop}{r:G->G->Prop}(tr:∀a b c,r a b->r b c->r a c)
  (sf:∀g ru,J g->ru∈aa->cD bt g ru=true->J (dW g ru.1 (aO g ru))/\r (dW g ru.1 (aO g ru)) g){g:G}(h:Acc r g)(j:J g):∃n,oN bt aa n g:=by
 induction h with
 | intro g _ ih =>
  cases c:(so bt aa g).2 with
  | false=>exact⟨0,c⟩
  | true =>
   obtain⟨j2,r2⟩:=fold_lt tr sf aa (g,false) (λ_ h=>h) j;have r3:r (so bt aa g).1 g:=by
    rcases r2 with r2 | r2
    .have e:(so bt aa g)=(g,false):=r2;rw [e] at c;cases c
    exact r2
   obtain⟨n,hn⟩:=ih _ r3 j2;exact⟨n+1,.inr hn⟩
def dU.keep {bt:Int->Int->Bool}{aa:List aB}{J:G->Prop}(sf:∀g ru,J g->ru∈aa->cD bt g ru=true->J (dW g ru.1 (aO g ru))){g g':G}(h:dU bt aa g g')(j:J g):J g':=by
 induction h with
 | refl=>exact j
 | step _ a b ih=>exact sf _ _ ih a b
def eQ (f:Str->Nat) (hs:List Str):Nat:=(hs.map f).sum
theorem wj {f k:Str->Nat}:∀{hs:List Str},(∀x∈hs,f x<=k x)->eQ f hs<=eQ k hs
 | [],_=>aL _
 | h::r,q=>by
  have h1:=q h bG;have h2:=wj (hs:=r) λx hx=>q x (cJ _ hx);show f h+eQ f r<=k h+eQ k r;omega
theorem mq {f k:Str->Nat}:∀{hs:List Str}{h:Str},(∀x∈hs,f x<=k x)->h∈hs->f h < k h->eQ f hs < eQ k hs
 | a::r,h,q,m,l=>by
  have h1:=q a bG;have h2:∀x∈r,f x<=k x:=λx hx=>q x (cJ _ hx);show f a+eQ f r < k a+eQ k r;rcases aW.mp m with z | z
  .have:=wj h2;rw [z] at l;omega
  have:=mq h2 z l;omega
theorem i_ (g:G)(J:∀z n,g z=some n->(0:Int)<=n):∀ps:List Str,0<=(ps.map λp=>(g p).getD 0).sum
 | []=>by simp
 | p::r=>by
  have h1:=i_ g J r;have h2:0<=(g p).getD 0:=by
   cases e:g p with
   | none=>exact jI _
   | some n=>exact J p n e
  rw [br,gw];omega
def NN (g:G):Prop:=∀z n,g z=some n->(0:Int)<=n
def vm {g:G}(j:NN g)(ru:aB):NN (dW g ru.1 (aO g ru)):=λz n e=>by
 unfold dW at e;by_cases c:z=ru.1
 .rw [az c] at e;cases e;have:=i_ g j ru.2;unfold aO;omega
 rw [ay c] at e;exact j z n e
def bl (a b:Int):Bool:=decide (a < b)
def bg (a b:Int):Bool:=decide (a > b)
def zt (hs:List Str)(g' g:G):Prop :=
 eQ (λh=>if (g' h).isSome then 0 else 1) hs < eQ (λh=>if (g h).isSome then 0 else 1) hs \/
 (eQ (λh=>if (g' h).isSome then 0 else 1) hs=eQ (λh=>if (g h).isSome then 0 else 1) hs/\eQ (λh=>((g' h).getD 0).toNat) hs < eQ (λh=>((g h).getD 0).toNat) hs)
def Hu (hs:List Str)(g:G):Acc (zt hs) g:=by
 have wf:=(Prod.lex (β:=Nat) (α:=Nat) ⟨(· < ·),Nat.lt_wfRel.wf⟩ ⟨(· < ·),Nat.lt_wfRel.wf⟩).wf;have key:∀p:Nat×Nat,∀g:G,(eQ (λh=>if (g h).isSome then 0 else 1) hs,eQ (λh=>((g h).getD 0).toNat) hs)=p->Acc (zt hs) g:=λp=>by
  induction p using wf.induction with
  | _ p ih =>
   intro g e;refine⟨g,λg' r=>ih _ ?_ g' rfl⟩;rw [<-e];rcases r with r | ⟨r1,r2⟩
   .exact Prod.Lex.left _ _ r
   show Prod.Lex _ _ (eQ (λh=>if (g' h).isSome then 0 else 1) hs,_) _;rw [r1];exact Prod.Lex.right _ r2
 exact key _ g rfl
def Kt (hs:List Str)(a b c:G)(h:zt hs a b)(k:zt hs b c):zt hs a c:=by
 unfold zt at *;omega
def EC {aa:List aB}(g:G)(ru:aB)(j:NN g)(m:ru∈aa)(f:cD bl g ru=true):NN (dW g ru.1 (aO g ru))/\zt (aa.map (·.1)) (dW g ru.1 (aO g ru)) g:=by
 refine⟨vm j ru,?_⟩;have hm:ru.1∈aa.map (·.1):=iK m;have nn:=vm j ru;have lY:dW g ru.1 (aO g ru) ru.1=some (aO g ru):=az rfl;have ne:∀z,z≠ru.1->dW g ru.1 (aO g ru) z=g z:=λz n=>ay n;unfold cD at f;have f2:=(qp.mp f).2;cases e:g ru.1 with
 | none =>
  refine .inl (mq (λx _=>?_) hm ?_)
  .by_cases c:x=ru.1
   .show (if (dW g ru.1 (aO g ru) x).isSome then 0 else 1)<=_;rw [c,lY];exact dD _
   show (if (dW g ru.1 (aO g ru) x).isSome then 0 else 1)<=_;rw [ne x c];exact aL _
  show (if (dW g ru.1 (aO g ru) ru.1).isSome then 0 else 1) < (if (g ru.1).isSome then 0 else 1);rw [lY,e];show 0 < 1;exact Nat.one_pos
 | some k =>
  rw [e] at f2;have lt:aO g ru < k:=dF (by simpa [bl] using f2);have h0:=nn ru.1 _ lY;refine .inr ⟨?_,mq (λx _=>?_) hm ?_⟩
  .unfold eQ
   congr 1
   refine uB λx _=>?_;by_cases c:x=ru.1
   .show (if (dW g ru.1 (aO g ru) x).isSome then 0 else 1)=(if (g x).isSome then 0 else 1);rw [c,lY,e];rfl
   show (if (dW g ru.1 (aO g ru) x).isSome then 0 else 1)=(if (g x).isSome then 0 else 1);rw [ne x c]
  .by_cases c:x=ru.1
   .show ((dW g ru.1 (aO g ru) x).getD 0).toNat<=((g x).getD 0).toNat;rw [c,lY,e];show (aO g ru).toNat<=k.toNat;omega
   show ((dW g ru.1 (aO g ru) x).getD 0).toNat<=((g x).getD 0).toNat;rw [ne x c];exact aL _
  show ((dW g ru.1 (aO g ru) ru.1).getD 0).toNat < ((g ru.1).getD 0).toNat;rw [lY,e];show (aO g ru).toNat < k.toNat;omega
def zu (aa:List aB)(g:G)(j:NN g):∃n,oN bl aa n g:=xm (Kt (aa.map (·.1))) (λg ru=>EC g ru) (Hu _ g) j
inductive Em (aa:List aB):Str->Prop
 | mk {ru:aB}:ru∈aa->(∀p∈ru.2,Em aa p)->Em aa ru.1
def xQ (aa:List aB)(b:Str->Int):Prop:=(∀z,0<=b z)/\∀ru∈aa,(∀p∈ru.2,Em aa p)->1+(ru.2.map b).sum<=b ru.1
def GJ (aa:List aB)(b:Str->Int)(g:G):Prop:=∀z n,g z=some n->0<=n/\n<=b z/\Em aa z
theorem Ai {aa:List aB}{b:Str->Int}{g:G}(j:GJ aa b g)(hb:∀z,0<=b z):∀ps:List Str,(ps.map λp=>(g p).getD 0).sum<=(ps.map b).sum
 | []=>by simp
 | p::r=>by
  have h1:=Ai j hb r;have h2:(g p).getD 0<=b p:=by
   cases e:g p with
   | none=>exact hb p
   | some n=>exact(j p n e).2.1
  rw [br,gw,br,gw];omega
def gm (b:Str->Int)(g:G)(h:Str):Nat:=if (g h).isSome then (b h - (g h).getD 0).toNat else (b h).toNat+1
def q8 {aa:List aB}{b:Str->Int}(B:xQ aa b)(g:G)(ru:aB)(j:GJ aa b g)(m:ru∈aa)(f:cD bg g ru=true) :
  GJ aa b (dW g ru.1 (aO g ru))/\eQ (gm b (dW g ru.1 (aO g ru))) (aa.map (·.1)) < eQ (gm b g) (aa.map (·.1)):=by
 have hm:ru.1∈aa.map (·.1):=iK m;have lY:dW g ru.1 (aO g ru) ru.1=some (aO g ru):=az rfl;have ne:∀z,z≠ru.1->dW g ru.1 (aO g ru) z=g z:=λz n=>ay n;unfold cD at f;obtain⟨f1,f2⟩:=qp.mp f;have em:∀p∈ru.2,Em aa p:=λp hp=>by
  obtain⟨n,en⟩:=mh.mp (gL.mp f1 p hp);exact(j p n en).2.2
 have bd:=B.2 ru m em;have sb:=Ai j B.1 ru.2;have s0:=i_ g (λz n e=>(j z n e).1) ru.2;have sz:0<=aO g ru/\aO g ru<=b ru.1:=by unfold aO;omega
 refine⟨λz n e=>?_,mq (λx _=>?_) hm ?_⟩
 .by_cases c:z=ru.1
  .rw [c,lY] at e;cases e;rw [c];exact⟨sz.1,sz.2,.mk m em⟩
  rw [ne z c] at e;exact j z n e
 .by_cases c:x=ru.1
  .rw [c];unfold gm;rw [lY];show (b ru.1 - aO g ru).toNat<=_;cases e:g ru.1 with
   | none=>show _<=(b ru.1).toNat+1;omega
   | some k =>
    rw [e] at f2;have lt:aO g ru > k:=dF (by simpa [bg] using f2);show _<=(b ru.1 - k).toNat;omega
  unfold gm;rw [ne x c];exact aL _
 unfold gm;rw [lY];show (b ru.1 - aO g ru).toNat < _;cases e:g ru.1 with
 | none=>show _ < (b ru.1).toNat+1;omega
 | some k =>
  rw [e] at f2;have lt:aO g ru > k:=dF (by simpa [bg] using f2);show _ < (b ru.1 - k).toNat;omega
def zL {aa:List aB}{b:Str->Int}(B:xQ aa b)(g:G)(j:GJ aa b g):∃n,oN bg aa n g :=
 xm (r:=λg' g=>eQ (gm b g') (aa.map (·.1)) < eQ (gm b g) (aa.map (·.1))) (λ_ _ _ h k=>kZ h k) (q8 B) ((InvImage.wf (λg:G=>eQ (gm b g) (aa.map λx:aB=>x.1)) Nat.lt_wfRel.wf).apply g) j
def xc {aa:List aB}{b:Str->Int}(B:xQ aa b){g g':G}(h:dU bg aa g g')(j:GJ aa b g):GJ aa b g':=h.keep (λg ru a m f=>(q8 B g ru a m f).1) j
end M11
namespace L2
open PySem
def xw {K:aY}{H:Hp}{p D:Addr}{zs:List Str}{σ:St}{v:V}{x:Str}{Qp:Hp->Prop}(hp:aD K H p (zs.map V.str))(hz:zs.length<=10000)(hD:H D=none)
  (q:∀ts H2,aC H H2->H2 D=some (.lst (ts.map V.ref))->Paired (λt h=>ba K H2 t [.str h,v]) ts zs->Qp H2) :
  ∃W:Nat->Nat->List V->St->Hp->Prop,(∃m,W 0 m [] (eM [x] [] σ) (upd H D (.lst []))) /\
 ∀i m ys σ' H,W i m ys σ' H->((kW K p).stop i H/\Qp H)\/((kW K p).go i H/\∃m',m' < m/\∀x H',(kW K p).mi i H x H'->eJ 0 x σ' H' λσ2 H2=>iM σ2 H2 λb H3 =>
  if b=true then sk (fZ (gF 0) (fZ (tC v) pq)) σ2 H3 λy H4=>H4 D=some (.lst ys)/\ys.length < sizeLine/\W (i+1) m' (ys++[y]) σ2 (upd H4 D (.lst (ys++[y]))) else W (i+1) m' ys σ2 H3):=by
 refine bq (xs:=zs.map V.str) (λi ys σ2 H2=>∃ts:List Addr,ys=ts.map V.ref/\ts.length=i/\Paired (λt h=>ba K H2 t [.str h,v]) ts (zs.take i)/\(∃y0,σ2=[y0])/\aC H H2/\H2 D=some (.lst ys))
  ⟨[],rfl,rfl,.nil,⟨none,rfl⟩,ae hD _,ab⟩ (λi ys σ2 H2 _ h=>?_) (λi x ys σ2 H2 ex h=>?_) (λys σ2 H2 h=>?_)
 .obtain⟨_,_,_,_,_,sm,_⟩:=h;exact sm.seq hp
 .obtain⟨ts,rfl,ht,w5,⟨y0,rfl⟩,sm,hd⟩:=h;rw [aZ] at ex;obtain⟨z,ez,rfl⟩:=b_.mp ex;have li:=(bx.mp ez).1;refine goN (sD ?_);refine⟨_,rfl,lV,λt ij=>⟨?_,bo (by rw [av];omega),ts++[t],?_,?_,?_,⟨_,rfl⟩,?_,ab⟩⟩
  .rw [ai (aq hd ij)];exact hd
  .rw [aQ];rfl
  .rw [bW,ht];rfl
  .rw [cY,ez];have gY:upd H2 t (.tup [.str z,v]) D=some (.lst (ts.map V.ref)):=by rw [ai (aq hd ij)];exact hd
   exact fN (Paired.gS w5 λt' h' z=>aR gY ((ae ij _).tup z)) (aR gY (ba.of ab))
  intro b o hb;rw [ai (λz=>by rw [z,hD] at hb;cases hb)];exact ae ij _ _ _ (sm b o hb)
 obtain⟨ts,rfl,ht,w5,_,sm,hd⟩:=h;rw [av,dB] at w5;exact q ts H2 sm hd w5
def Tab.same {T:Addr}{pos:Pos}{qual:Str}{H H':Hp}(h:Tab T pos qual H)(s:aC H H'):Tab T pos qual H':=by
 obtain⟨ps,a,b,c⟩:=h;refine⟨ps,s _ _ a,b,c.imp id ?_⟩;rintro⟨c',e,g⟩;exact⟨c',e,s _ _ g⟩
def Tab.Iu {T d:Addr}{pos:Pos}{qual:Str}{H H':Hp}{kvs:List (aN×V)}(h:Tab T pos qual H)(s:fK d H H')(hd:H d=some (.dK kvs)):Tab T pos qual H':=by
 obtain⟨ps,a,b,c⟩:=h;refine⟨ps,s _ _ (λz=>by rw [z,hd] at a;cases a) a,b,c.imp id ?_⟩;rintro⟨c',e,g⟩;exact⟨c',e,s _ _ (λz=>by rw [z,hd] at g;cases g) g⟩
structure xM (K:aY)(x qual:Str)(st:Stmt)(f:Addr)(fd:FuncData)(T:Addr):Prop where
 ex:∃(oc:Value)(od:Option Addr)(kV doc pm:Value)(an:Option Addr)(c:Addr)(ct:Value)(wK:Array (Option Value)),
  fd=PySem.W.fnOf x qual (du st) (cg st) (ax st) .none kV doc pm an (.ref c) ct/\K.lookup f=some ⟨oc,od,.func fd,wK⟩/\PySem.W.codeIn K (.ref c) qual=true/\PySem.W.codeHdIn K c T=true
 kp:PySem.W.keepIn K (.ref f)=true
def xM.ok {P:Program}{w:World}{K:aY}{mg:Str->Option Value}{base:Heap}{x qual:Str}{st:Stmt}{f:Addr}{fd:FuncData}{T:Addr}{N ps:List Str}{k:Nat}{sp:Sp}(F:xM K x qual st f fd T)(S:aK N ps (ax st))(len:∀vs H Q E,sp vs H Q E->vs.length=ps.length)
  (iW:∀(c:Addr)(A:Around)(outer:List Env)(s:Shared)(H:Hp)(vs:List V)(Q:VK)(E:XK),PySem.W.codeHdIn K c T=true->eP k (A.deeper (PyProof.Rows.envOfC qual (ax st) s.heap.objs.size f (.ref c)))->sp vs H Q E ->
   ∃t,z7 (oG fu P w K mg base N qual (ax st) f (.ref c) A outer s H E).BO (cg st) t/\t { nx:=λ_ H'=>Q .d5 H',rt:=Q } (start N vs) H):bS P w K mg base fu (k+1) f fd ps sp:=by
 obtain⟨oc,od,kV,doc,pm,an,c,ct,wK,rfl,lk,vF,hC⟩:=F.ex;refine E9 lk vF S len λA outer s H vs Q E hr xS=>?_;obtain⟨t,h,q⟩:=iW c A outer s H vs Q E hC hr xS;exact⟨t,h.BO,q⟩
theorem tN {v:V}:∀(hs:List Str)(bF:List (aN×V)) (as:List Str),bF.map (·.1)=as.map Sum.inr->(cT (hs.map λh=>((Sum.inr h:aN),v)) bF).map (·.1)=(M11.vJ as hs).map Sum.inr
 | [],bF,as,e=>e
 | h::r,bF,as,e=>tN r (bP bF (Sum.inr h) v) (M11.gR as h) (gu.jZ e h)
theorem qt {v:V}:∀(hs:List Str)(bF:List (aN×V))(z:Str),bu (cT (hs.map λh=>((Sum.inr h:aN),v)) bF) (Sum.inr z)=if z∈hs then some v else bu bF (Sum.inr z)
 | [],bF,z=>by simp [cT]
 | h::r,bF,z=>by
  have ih:=qt (v:=v) r (bP bF (Sum.inr h) v) z;show bu (cT (r.map λh=>((Sum.inr h:aN),v)) (bP bF (Sum.inr h) v)) (Sum.inr z)=_;rw [ih,wa];by_cases c:z∈r
  .rw [az c,az (cJ _ c)]
  rw [ay c];by_cases c2:z=h
  .rw [az (by rw [c2]),az (by rw [c2];exact bG)]
  rw [ay (λe=>c2 (kY e)),ay (λe=>(aW.mp e).elim c2 c)]
end L2
namespace gu
open PySem L2 M11
def NO:List Stmt->Arguments×Expr×Scope×Pos
 | [.Return (some (.Call _ [_,_,.Lambda p b s pos] _ _)) _]=>(p,b,s,pos)
 | _=>(⟨[],[],none,[],[],none,[]⟩,.Constant .none 0 ⟨0,0,0,0⟩,ax qE,⟨0,0,0,0⟩)
abbrev qQ:=NO (cg qE)
abbrev zr:=NO (cg vb)
abbrev xR:Str := "least_sizes" ++ ".<locals>." ++ "<lambda>"
abbrev IG:Str := "greatest_empty_sizes" ++ ".<locals>." ++ "<lambda>"
def JH:aK ["size","known"] ["size","known"] qQ.2.2.1:=iI rfl rfl rfl rfl nofun
def JI:aK ["size","known"] ["size","known"] zr.2.2.1:=iI rfl rfl rfl rfl nofun
section
def y_ (F:ig K "settled_sizes" "settled_sizes" mD f fd)(T:Txt mg):bS P w K mg base fu 2 f fd ["rules","sizes","better"] (g_ K xR qQ.1 qQ.2.1 qQ.2.2.1 M11.bl) :=
 tL F T JH (λpm fU c' us hl=>match us,hl with | [_,_],_=>rfl) (λ_ _ _ _ _ _=>jf mP (pv 0) (pv 1) (cf _)) (λa b H Q h=>⟨_,rfl,_,rfl,_,_,rfl,rfl,h⟩)
def zc (F:ig K "settled_sizes" "settled_sizes" mD f fd)(T:Txt mg):bS P w K mg base fu 2 f fd ["rules","sizes","better"] (g_ K IG zr.1 zr.2.1 zr.2.2.1 M11.bg) :=
 tL F T JI (λpm fU c' us hl=>match us,hl with | [_,_],_=>rfl) (λ_ _ _ _ _ _=>jf wL (pv 0) (pv 1) (cf _)) (λa b H Q h=>⟨_,rfl,_,rfl,_,_,rfl,rfl,h⟩)
def xV (aa:List aB):G:=λz=>if z∈jO (hd aa) [] (aa.flatMap (·.2)) then some 0 else none
def pJ (K:aY)(T1:Addr):Sp:=λvs H Q _=>∃(R:Addr)(rs:List Addr)(aa:List aB),vs=[.ref R]/\aD K H R (rs.map V.ref)/\aS K H rs aa/\aa.length<=1000/\(∀ru∈aa,ru.2.length<=8)/\Tab T1 qQ.2.2.2 xR H /\
 ∀(d:Addr)(kvs:List (aN×V)) (ks:List Str)(g:G)(H':Hp),H d=none->fK T1 H H'->Tab T1 qQ.2.2.2 xR H'->H' d=some (.dK kvs)->kvs.map (·.1)=ks.map Sum.inr->(∀z,bu kvs (Sum.inr z)=(g z).map V.int)->dU M11.bl aa (xV aa) g->iB M11.bl aa g->kvs.length<=20000->Q (.ref d) H'
def Gw:aK ["rules"] ["rules"] (ax qE):=iI rfl rfl rfl rfl nofun
def Ee {T1:Addr}(F:xM K "least_sizes" "least_sizes" qE f fd T1)(T:Txt mg)(hB:rV mg base)(GW:aH P w K mg base 1 "words_in" ["rules"] (An K))
  (GS:aH P w K mg base 2 "settled_sizes" ["rules","sizes","better"] (g_ K xR qQ.1 qQ.2.1 qQ.2.2.1 M11.bl)):bS P w K mg base fu 3 f fd ["rules"] (pJ K T1):=by
 refine F.ok Gw (λvs H Q E h=>?_) (λc A outer s H vs Q E hC hr h=>?_)
 .obtain⟨R,rs,aa,rfl,_⟩:=h;rfl
 obtain⟨R,rs,aa,rfl,hR,cK,bM,h8,hT,q⟩:=h;refine⟨_,ar (bf (bI GS hr rfl (af (pv 0) (af (a8 (dY rfl) rfl T.vV fJ (af
  (bL ["word"] [] rfl (a9 (bI (GW.mono (by decide:1<=2)) hr rfl (af (pv 0) aj))) (a_ rfl rfl) nofun rfl nofun
   (λ_ _ _ _ _=>au (i:=0) (show (["word"]:List Str).Nodup by decide +kernel) rfl (bJ rfl)) (λ_ _ _ _ _=>cb)
   (λ_ _ _ _ _=>bY (af (pv 0) (af ao aj)))) aj)) (af (DO (T:=T1) rfl hC hB nofun) aj))))),?_⟩
 dsimp only [oH];refine⟨_,rfl,_,rfl,R,rs,aa,rfl,hR,cK,bM,h8,λD1 H1 f1 s1 e1=>?_⟩;have lw:(jO (hd aa) [] (aa.flatMap (·.2))).length<=8000:=by
  have h1:=uM (hd aa) (aa.flatMap (·.2)) [];have h2:=iX aa 1000 bM h8;simp only [jq] at h1;omega
 refine⟨D1,rfl,⟨_,aD.of e1⟩,λD2 ic=>xw (aD.of e1) ∅ ic λts H2 s2 e2 p2=>?_⟩;have kp:Paired (λt (kv:aN×V)=>ba K H2 t [kV kv.1,kv.2]) ts ((jO (hd aa) [] (aa.flatMap (·.2))).map λh=>((Sum.inr h:aN),V.int 0)):=cQ p2 λ_ _ z=>z;refine⟨D2,ts,_,rfl,e2,kp,λd hd2=>?_⟩;have k1:=tN (v:=.int 0) (jO (hd aa) [] (aa.flatMap (·.2))) [] [] rfl;have k2:∀z,bu (cT ((jO (hd aa) [] (aa.flatMap (·.2))).map λh=>((Sum.inr h:aN),V.int 0)) []) (Sum.inr z)=(xV aa z).map V.int:=λz=>by
  rw [qt];unfold xV
  split <;> rfl
 have lk:=iA (jO (hd aa) [] (aa.flatMap (·.2))) [];simp only [jq] at lk;generalize cT ((jO (hd aa) [] (aa.flatMap (·.2))).map λh=>((Sum.inr h:aN),V.int 0)) []=NT at k1 k2;have s3:=(s1.trans s2).trans (ae hd2 (.dK NT));have e3:upd H2 d (.dK NT) d=some (.dK NT):=ab;have xX:H d=none:=(s1.trans s2).free hd2;generalize upd H2 d (.dK NT)=H3 at s3 e3;refine⟨hT.same s3,λfl c' fU H4 s4 t4 ffl e4 UX=>?_⟩;have nT:d≠T1:=λz=>by
  obtain⟨ps,a,_⟩:=hT.same s3;rw [<-z,e3] at a;cases a
 have xb:=s4 d _ nT e3;have Sg:∀{a xs},ba K H a xs->ba K H4 a xs:=λ{a xs} h=>by
  obtain⟨ps,b,_⟩:=hT;rcases h with (h | ⟨u,h⟩) | h
  .exact .inl (.inl (s4 _ _ (λz=>by rw [z,b] at h;cases h) (s3 _ _ h)))
  .exact .inl (.inr ⟨u,s4 _ _ (λz=>by rw [z,b] at h;cases h) (s3 _ _ h)⟩)
  exact .inr h
 have Sh:∀{a xs},aD K H a xs->aD K H4 a xs:=λ{a xs} h=>by
  obtain⟨ps,b,_⟩:=hT;rcases h with (h | ⟨u,h⟩) | h
  .exact .inl (.inl (s4 _ _ (λz=>by rw [z,b] at h;cases h) (s3 _ _ h)))
  .exact .inl (.inr ⟨u,s4 _ _ (λz=>by rw [z,b] at h;cases h) (s3 _ _ h)⟩)
  exact .inr h
 refine⟨R,rs,aa,d,fl,c',_,fU,NT,_,xV aa,rfl,Sh hR,cK.keep λ_ _ z=>Sg z,bM,h8,xb,k1,oF _ l_,∅,k2,zu aa _ λz n e=>?_,e4,UX,λlM NU g' H5 s5 e5 k5 v5 st se WK=>?_⟩
 .unfold xV at e
  split at e
  .cases e;exact jI _
  cases e
 refine q d lM NU g' H5 xX (λb o n hb=>s5 b o (λz=>?_) (s4 b o n (s3 b o hb))) (t4.Iu s5 xb) e5 k5 v5 st se WK;rw [z,xX] at hb;cases hb
def uT (K:aY)(T2:Addr):Sp:=λvs H Q _=>∃(R:Addr)(rs:List Addr)(aa:List aB)(b:Str->Int),vs=[.ref R]/\aD K H R (rs.map V.ref)/\aS K H rs aa/\aa.length<=1000/\(∀ru∈aa,ru.2.length<=8)/\xQ aa b/\Tab T2 zr.2.2.2 IG H /\
 ∀(d:Addr)(kvs:List (aN×V)) (ks:List Str)(g:G)(H':Hp),H d=none->fK T2 H H'->Tab T2 zr.2.2.2 IG H'->H' d=some (.dK kvs)->kvs.map (·.1)=ks.map Sum.inr->(∀z,bu kvs (Sum.inr z)=(g z).map V.int)->GJ aa b g->dU M11.bg aa (λ_=>none) g->iB M11.bg aa g->Q (.ref d) H'
def Gz:aK ["rules"] ["rules"] (ax vb):=iI rfl rfl rfl rfl nofun
def Eg {T2:Addr}(F:xM K "greatest_empty_sizes" "greatest_empty_sizes" vb f fd T2)(hB:rV mg base)
  (GS:aH P w K mg base 2 "settled_sizes" ["rules","sizes","better"] (g_ K IG zr.1 zr.2.1 zr.2.2.1 M11.bg)):bS P w K mg base fu 3 f fd ["rules"] (uT K T2):=by
 refine F.ok Gz (λvs H Q E h=>?_) (λc A outer s H vs Q E hC hr h=>?_)
 .obtain⟨R,rs,aa,b,rfl,_⟩:=h;rfl
 obtain⟨R,rs,aa,b,rfl,hR,cK,bM,h8,Xz,hT,q⟩:=h;refine⟨_,ar (bf (bI GS hr rfl (af (pv 0) (af gi (af (DO (T:=T2) rfl hC hB nofun) aj))))),?_⟩;refine⟨_,rfl,λd xX=>?_⟩;have s3:=ae xX (.dK []);have e3:upd H d (.dK []) d=some (.dK []):=ab;generalize upd H d (.dK [])=H3 at s3 e3;refine⟨hT.same s3,λfl c' fU H4 s4 t4 ffl e4 UX=>?_⟩;have nT:d≠T2:=λz=>by
  obtain⟨ps,a,_⟩:=hT.same s3;rw [<-z,e3] at a;cases a
 have xb:=s4 d _ nT e3;have Sg:∀{a xs},ba K H a xs->ba K H4 a xs:=λ{a xs} h=>by
  obtain⟨ps,b,_⟩:=hT;rcases h with (h | ⟨u,h⟩) | h
  .exact .inl (.inl (s4 _ _ (λz=>by rw [z,b] at h;cases h) (s3 _ _ h)))
  .exact .inl (.inr ⟨u,s4 _ _ (λz=>by rw [z,b] at h;cases h) (s3 _ _ h)⟩)
  exact .inr h
 have Sh:∀{a xs},aD K H a xs->aD K H4 a xs:=λ{a xs} h=>by
  obtain⟨ps,b,_⟩:=hT;rcases h with (h | ⟨u,h⟩) | h
  .exact .inl (.inl (s4 _ _ (λz=>by rw [z,b] at h;cases h) (s3 _ _ h)))
  .exact .inl (.inr ⟨u,s4 _ _ (λz=>by rw [z,b] at h;cases h) (s3 _ _ h)⟩)
  exact .inr h
 have j0:GJ aa b (λ_=>none):=λz n e=>nomatch e;refine⟨R,rs,aa,d,fl,c',_,fU,[],[],λ_=>none,rfl,Sh hR,cK.keep λ_ _ z=>Sg z,bM,h8,xb,rfl,l_,dD _,λ_=>rfl,zL Xz _ j0,e4,UX,λlM NU g' H5 s5 e5 k5 v5 st se WK=>?_⟩;refine q d lM NU g' H5 xX (λb o n hb=>s5 b o (λz=>?_) (s4 b o n (s3 b o hb))) (t4.Iu s5 xb) e5 k5 v5 (xc Xz st j0) st se;rw [z,xX] at hb;cases hb
end
end gu
namespace M11
open PySem L2
def Cj (b:Str->Bool) (zs:List Str) (i:Nat):List Int:=((List.range i).filter λj=>!(zs[j]?.elim true b)).map λj:Nat=>(j:Int)
def xg (b:Str->Bool) (zs:List Str) (i:Nat){z:Str}(e:zs[i]?=some z):Cj b zs (i+1)=Cj b zs i++(if b z=true then [] else [(i:Int)]):=by
 unfold Cj;rw [List.range_succ,kM,aQ]
 congr 1
 by_cases h:b z=true
 .rw [az h];simp [e,h]
 rw [ay h];simp [e,h]
def HK (b:Str->Bool) (zs:List Str) (i:Nat):(Cj b zs i).length<=i:=by
 unfold Cj;rw [av];have:=jG (λj=>!(zs[j]?.elim true b)) (List.range i);rw [nV] at this;exact this
def Ht (b:Str->Bool) (zs:List Str) (j:Nat):Bool:=decide ([]=Cj b zs zs.length) || decide ([(j:Int)]=Cj b zs zs.length)
def ME (aa:List aB) (names:List Str)(b:Str->Bool)(n:Str) (k j:Nat):Prop:=∃ru z,aa[k]?=some ru/\ru.1=n/\ru.2[j]?=some z/\z∈names/\Ht b ru.2 j=true
end M11
namespace L2
open PySem M11
def i4 (p:Str×Addr):aN×V:=(Sum.inr p.1,.ref p.2)
theorem m_:∀(ps bF:List (aN×V)),((bF++ps).map (·.1)).Nodup->cT ps bF=bF++ps
 | [],bF,_=>by simp [cT]
 | p::r,bF,h=>by
  have n:bu bF p.1=none:=by
   cases e:bu bF p.1 with
   | none=>rfl
   | some v =>
    have hm:=(eI bF p.1).mp (by rw [e];rfl);rw [aQ,br] at h;exact absurd rfl ((iJ.mp h).2.2 p.1 hm p.1 bG)
  show cT r (bP bF p.1 p.2)=_;rw [wC p.2 n,m_ r (bF++[(p.1,p.2)]) (by rw [gA];exact h),gA];rfl
theorem gE:∀(ps:List (Str×Addr)),(ps.map (·.1)).Nodup->∀p∈ps,bu (ps.map i4) (Sum.inr p.1)=some (.ref p.2)
 | q::r,h,p,hp=>by
  rw [br] at h ⊢;rcases aW.mp hp with z | z
  .rw [z];exact d_ rfl
  rw [eA,gE r (jr.mp h).2 p z];intro e;have e':q.1=p.1:=kY e;exact(jr.mp h).1 (by rw [e'];exact iK z)
def mT (ps:List (Str×Addr)):(ps.map i4).map (·.1)=(ps.map (·.1)).map Sum.inr:=by
 rw [gZ,gZ];rfl
def rF {K:aY}{H:Hp}{p D:Addr}{zs:List Str}{σ:St}{x:Str}{Qp:Hp->Prop}(hp:aD K H p (zs.map V.str))(hz:zs.length<=10000)(hD:H D=none)
  (q:∀ts (ps:List (Str×Addr)) H2,aC H H2->H2 D=some (.lst (ts.map V.ref))->ps.map (·.1)=zs->Paired (λt (p:Str×Addr)=>ba K H2 t [.str p.1,.ref p.2]) ts ps->(∀p∈ps,H2 p.2=some (.lst [])/\H p.2=none/\p.2≠D)->(ps.map (·.2)).Nodup->Qp H2) :
  ∃W:Nat->Nat->List V->St->Hp->Prop,(∃m,W 0 m [] (eM [x] [] σ) (upd H D (.lst []))) /\
 ∀i m ys σ' H,W i m ys σ' H->((kW K p).stop i H/\Qp H)\/((kW K p).go i H/\∃m',m' < m/\∀x H',(kW K p).mi i H x H'->eJ 0 x σ' H' λσ2 H2=>iM σ2 H2 λb H3 =>
  if b=true then sk (fZ (gF 0) (fZ (M4 pq) pq)) σ2 H3 λy H4=>H4 D=some (.lst ys)/\ys.length < sizeLine/\W (i+1) m' (ys++[y]) σ2 (upd H4 D (.lst (ys++[y]))) else W (i+1) m' ys σ2 H3):=by
 refine bq (xs:=zs.map V.str) (λi ys σ2 H2=>∃(ts:List Addr)(ps:List (Str×Addr)),ys=ts.map V.ref/\ts.length=i/\ps.map (·.1)=zs.take i/\Paired (λt (p:Str×Addr)=>ba K H2 t [.str p.1,.ref p.2]) ts ps /\
   (∀p∈ps,H2 p.2=some (.lst [])/\H p.2=none/\p.2≠D)/\(ps.map (·.2)).Nodup/\(∃y0,σ2=[y0])/\aC H H2/\H2 D=some (.lst ys))
  ⟨[],[],rfl,rfl,rfl,.nil,by simp,by simp,⟨none,rfl⟩,ae hD _,ab⟩ (λi ys σ2 H2 _ h=>?_) (λi x ys σ2 H2 ex h=>?_) (λys σ2 H2 h=>?_)
 .obtain⟨_,_,_,_,_,_,_,_,_,sm,_⟩:=h;exact sm.seq hp
 .obtain⟨ts,ps,rfl,ht,hm,w5,hl,hn,⟨y0,rfl⟩,sm,hd⟩:=h;rw [aZ] at ex;obtain⟨z,ez,rfl⟩:=b_.mp ex;have li:=(bx.mp ez).1;refine goN (sD ?_);refine⟨_,rfl,sj,λl oy=>⟨lV,λt ij=>?_⟩⟩;have Kj:l≠D:=(aq hd oy).symm;have nt:t≠l:=λe=>by rw [e,ab] at ij;cases ij
  have N9:H2 t=none:=by rw [ai nt] at ij;exact ij
  have Z8:t≠D:=(aq hd N9).symm;have n8:aC H2 (upd (upd H2 l (.lst [])) t (.tup [.str z,.ref l])):=(ae oy _).trans (ae ij _);have gY:=n8 _ _ hd;have el:upd (upd H2 l (.lst [])) t (.tup [.str z,.ref l]) l=some (.lst []):=by rw [ai nt.symm,ab]
  have et:ba K (upd (upd H2 l (.lst [])) t (.tup [.str z,.ref l])) t [.str z,.ref l]:=ba.of ab;generalize upd (upd H2 l (.lst [])) t (.tup [.str z,.ref l])=H4 at n8 gY el et;refine⟨gY,bo (by rw [av];omega),ts++[t],ps++[(z,l)],by rw [aQ];rfl,by rw [bW,ht];rfl,by rw [aQ,hm,cY,ez];rfl,?_,?_,?_,⟨_,rfl⟩,?_,ab⟩
  .exact fN (Paired.gS w5 λt' h' z=>aR gY (n8.tup z)) (aR gY et)
  .intro p' lX;rcases aX.mp lX with h | h
   .obtain⟨a1,a2,a3⟩:=hl p' h;exact⟨by rw [ai a3];exact n8 _ _ a1,a2,a3⟩
   rw [bH.mp h];exact⟨by rw [ai Kj];exact el,sm.free oy,Kj⟩
  .rw [aQ];refine iJ.mpr ⟨hn,by simp,λa ha b hb e=>?_⟩;rw [nX,bH] at hb;obtain⟨p',lX,rfl⟩:=cM.mp ha;have:=(hl p' lX).1;rw [e,hb] at this;rw [show H2 l=none from oy] at this;cases this
  intro b o hb;rw [ai (λz=>by rw [z,hD] at hb;cases hb)];exact n8 _ _ (sm b o hb)
 obtain⟨ts,ps,rfl,ht,hm,w5,hl,hn,_,sm,hd⟩:=h;rw [av,dB] at hm;exact q ts ps H2 sm hd hm w5 hl hn
def xA {K:aY}{H:Hp}{p D d:Addr}{zs:List Str}{kvs:List (aN×V)}{σ:St}{js:List (Nat×Str)}{Qp:Hp->Prop}(hσ:eM ["place","part"] js σ=[none,none,aG d])(hp:ba K H p (zs.map V.str))(hz:zs.length<=1000)
  (hd:H d=some (.dK kvs))(hD:H D=none)(q:∀H2,aC H H2->H2 D=some (.lst ((Cj (λz=>(bu kvs (Sum.inr z)).isSome) zs zs.length).map V.int))->Qp H2) :
  ∃W:Nat->Nat->List V->St->Hp->Prop,(∃m,W 0 m [] (eM ["place","part"] js σ) (upd H D (.lst []))) /\
 ∀i m ys σ' H,W i m ys σ' H->((rS K p).stop i H/\Qp H)\/((rS K p).go i H/\∃m',m' < m/\∀x H',(rS K p).mi i H x H'->Cd K 2 (j4 (eJ 0) (j4 (eJ 1) E5)) x σ' H' λσ2 H2=>tB (Ag (gF 1) (gF 2)) σ2 H2 λb H3 =>
  if b=true then gF 0 σ2 H3 λy H4=>H4 D=some (.lst ys)/\ys.length < sizeLine/\W (i+1) m' (ys++[y]) σ2 (upd H4 D (.lst (ys++[y]))) else W (i+1) m' ys σ2 H3):=by
 refine xC (xs:=zs.map V.str) (λi ys σ2 H2=>ys=(Cj (λz=>(bu kvs (Sum.inr z)).isSome) zs i).map V.int/\(∃y0 y1,σ2=[y0,y1,aG d])/\aC H H2/\H2 D=some (.lst ys))
  ⟨rfl,⟨none,none,hσ⟩,ae hD _,ab⟩ (λi ys σ2 H2 _ h=>h.2.2.1.tup hp) (λi x ys σ2 H2 t ex h ht=>?_) (λys σ2 H2 h=>?_)
 .obtain⟨rfl,⟨y0,y1,rfl⟩,sm,hd2⟩:=h;rw [aZ] at ex;obtain⟨z,ez,rfl⟩:=b_.mp ex;have li:=(bx.mp ez).1;have n8:=sm.trans (ae ht (.tup [.int (i:Int),.str z]));have gY:upd H2 t (.tup [.int (i:Int),.str z]) D=some (.lst ((Cj (λz=>(bu kvs (Sum.inr z)).isSome) zs i).map V.int)):=by rw [ai (aq hd2 ht)];exact hd2
  have hv:ba K (upd H2 t (.tup [.int (i:Int),.str z])) t [.int (i:Int),.str z]:=ba.of ab;generalize upd H2 t (.tup [.int (i:Int),.str z])=H3 at n8 gY hv;have fl:=HK (λz=>(bu kvs (Sum.inr z)).isSome) zs i;refine⟨t,_,rfl,hv,rfl,_,_,rfl,_,_,rfl,rfl,?_⟩;refine⟨_,rfl,_,rfl,d,_,rfl,cE.k (k:=Sum.inr z) (n8 _ _ hd),_,rfl,?_⟩;refine dA (λc=>?_) (λc=>?_)
  .refine⟨_,rfl,gY,bo (by rw [av];omega),?_,⟨_,_,rfl⟩,?_,ab⟩
   .rw [xg _ zs i ez,ay (λe=>by rw [e] at c;exact absurd c nofun),aQ];rfl
   intro b o hb;rw [ai (λz=>by rw [z,hD] at hb;cases hb)];exact n8 b o hb
  refine⟨?_,⟨_,_,rfl⟩,n8,gY⟩;rw [xg _ zs i ez,az,fh];cases hq:(bu kvs (Sum.inr z)).isSome with
  | true=>rfl
  | false=>exact absurd (by rw [hq];rfl) c
 obtain⟨rfl,_,sm,hd2⟩:=h;rw [av] at hd2;exact q H2 sm hd2
end L2
namespace gu
open PySem L2 M11
section
def vp {l:List Str}(h:l.Nodup):(l.map (Sum.inr:Str->aN)).Nodup:=List.Pairwise.map _ (λa b hab e=>hab (kY e)) h
structure CN (K:aY)(ps:List (Str×Addr))(st:Str->List (Nat×Nat))(H:Hp)(d:Addr):Prop where
 hd:Rd H d (.dK (ps.map i4))
 n1:(ps.map (·.1)).Nodup
 n2:(ps.map (·.2)).Nodup
 lst:∀p∈ps,∃ts,H p.2=some (.lst (ts.map V.ref))/\Paired (λt (e:Nat×Nat)=>ba K H t [.int (e.1:Int),.int (e.2:Int)]) ts (st p.1)
def Rd.same {H H':Hp}{a:Addr}{u:HO}(h:Rd H a u)(s:aC H H'):Rd H' a u:=h.elim (λz=>.inl (s _ _ z)) λ⟨o,z⟩=>.inr ⟨o,s _ _ z⟩
theorem CN.same {ps:List (Str×Addr)}{st:Str->List (Nat×Nat)}{H H':Hp}{d:Addr}(h:CN K ps st H d)(s:aC H H'):CN K ps st H' d :=
 ⟨Rd.same h.hd s,h.n1,h.n2,λp hp=>let ⟨ts,a,b⟩:=h.lst p hp;⟨ts,s _ _ a,Paired.gS b λ_ _ z=>s.tup z⟩⟩
def uk (st:Str->List (Nat×Nat))(n:Str)(e:Nat×Nat):Str->List (Nat×Nat):=λz=>if z=n then st z++[e] else st z
def CN.more {ps:List (Str×Addr)}{st:Str->List (Nat×Nat)}{H:Hp}{d:Addr}(h:CN K ps st H d){p:Str×Addr}(hp:p∈ps){ts:List Addr}{t:Addr}{e:Nat×Nat}(a:H p.2=some (.lst (ts.map V.ref)))
  (b:Paired (λt (e:Nat×Nat)=>ba K H t [.int (e.1:Int),.int (e.2:Int)]) ts (st p.1))(c:ba K H t [.int (e.1:Int),.int (e.2:Int)]) :
  CN K ps (uk st p.1 e) (upd H p.2 (.lst (ts.map V.ref++[.ref t]))) d:=by
 have nd:d≠p.2:=λz=>by
  rcases h.hd with q | ⟨o,q⟩
  .rw [z,a] at q;cases q
  rw [z,a] at q;cases q
 refine⟨?_,h.n1,h.n2,λp' lX=>?_⟩
 .rcases h.hd with q | ⟨o,q⟩
  .exact .inl (by rw [ai nd];exact q)
  exact .inr ⟨o,by rw [ai nd];exact q⟩
 by_cases z:p'=p
 .rw [z];refine⟨ts++[t],by rw [ab,aQ];rfl,?_⟩;have e1:uk st p.1 e p.1=st p.1++[e]:=az rfl;rw [e1];exact fN (Paired.gS b λ_ _ z=>aR a z) (aR a c)
 have n1:p'.1≠p.1:=λq=>z (by
  have w1:=gE ps h.n1 p' lX;have w2:=gE ps h.n1 p hp;rw [q,w2] at w1;injection w1 with w3;injection w3 with w4;exact Prod.ext q w4.symm)
 have n2:p'.2≠p.2:=λq=>by
  obtain⟨i,hi,ei⟩:=oS.mp lX;obtain⟨j,hj,ej⟩:=oS.mp hp;have FY:i=j:=by
   refine(qg (xs:=ps.map (·.2)) (h₀:=by simpa using hi) (h₁:=by simpa using hj) h.n2).mp ?_;rw [nR,nR,ei,ej];exact q
  subst FY;exact z (ei.symm.trans ej)
 obtain⟨V2,a',b'⟩:=h.lst p' lX;refine⟨V2,by rw [ai n2];exact a',?_⟩;have e1:uk st p.1 e p'.1=st p'.1:=ay n1;rw [e1];exact Paired.gS b' λ_ _ z=>aR a z
def Ap (K:aY):Sp:=λvs H Q _=>∃(R:Addr)(rs:List Addr)(aa:List aB),vs=[.ref R]/\aD K H R (rs.map V.ref)/\aS K H rs aa/\aa.length<=1000/\(∀ru∈aa,ru.2.length<=8) /\
 ∀(d:Addr)(ps:List (Str×Addr))(st:Str->List (Nat×Nat))(bw:List (Str×Nat))(H':Hp),H d=none->aC H H'->H' d=some (.dK (ps.map i4))->CN K ps st H' d->ps.map (·.1)=hd aa->(∀p∈ps,H p.2=none)->vY aa bw->xO aa aa.length bw ->
  (∀n k j,n∈hd aa->((k,j)∈st n↔ME aa (hd aa) (λz=>decide (z∈bw.map (·.1))) n k j))->Q (.ref d) H'
def iq:aK ["rules","empty","steps","number","rule","place","part","filled"] ["rules"] (ax yz):=iI rfl rfl rfl rfl nofun
def DZ (F:ig K "steps_with_like_rows" "steps_with_like_rows" yz f fd)(T:Txt mg)(GE:aH P w K mg base 1 "found_empties" ["rules"] (n6 K))(GH:aH P w K mg base 1 "heads_of" ["rules"] (j8 K)):bS P w K mg base fu 2 f fd ["rules"] (Ap K):=by
 refine F.ok iq (λvs H Q E h=>?_) (λeB A outer s H vs Q E hr h=>?_)
 .obtain⟨R,rs,aa,rfl,_⟩:=h;rfl
 obtain⟨R,rs,aa,rfl,hR,cK,bM,h8,q⟩:=h;have hu:=gp hr;refine⟨_,ak (aE (i:=1) iq.nd rfl (Or.inr rfl) (a8 (dY rfl) rfl T.vV fJ (af (bI GE hr rfl (af (pv 0) aj)) aj)))
  (ak (aE (i:=2) iq.nd rfl (bJ rfl) (a8 (dY rfl) rfl T.vV fJ (af
   (bL ["name"] [] rfl (a9 (bI GH hr rfl (af (pv 0) aj))) (a_ rfl rfl) nofun rfl nofun
    (λ_ _ _ _ _=>au (i:=0) (show (["name"]:List Str).Nodup by decide +kernel) rfl (bJ rfl)) (λ_ _ _ _ _=>cb)
    (λ_ _ _ _ _=>bY (af (pv 0) (af (bA aj) aj)))) aj)))
  (ak (cw cP rfl (mK rfl T.F6 (af (pv 0) aj)) (eU rfl (aF (au (i:=3) iq.nd rfl (bJ rfl)) (aF (au (i:=4) iq.nd rfl (bJ rfl)) cy)))
   (ak (f_ (iy:=7) ["place","part"] [(1,"empty")] iq.nd rfl rfl rfl (mJ rfl T.F6 (af (aM b9 (pv 4) ao (λ_ _=>rfl)) aj)) (a_ rfl rfl) nofun rfl nofun
    (λ_ _ _ _ _=>je (n:=2) K rfl (aF (au (i:=0) (show (["place","part","empty"]:List Str).Nodup by decide +kernel) rfl (bJ rfl)) (aF (au (i:=1) (show (["place","part","empty"]:List Str).Nodup by decide +kernel) rfl (bJ rfl)) cy)))
    (λ_ _ _ _ _=>gh (fq (dP hu (pv 1) (pv 2)))) (λ_ _ _ _ _=>pv 0))
   (ar (cw cP rfl (mJ rfl T.F6 (af (aM b9 (pv 4) ao (λ_ _=>rfl)) aj)) (eU rfl (aF (au (i:=5) iq.nd rfl (bJ rfl)) (aF (au (i:=6) iq.nd rfl (bJ rfl)) cy)))
    (ar (cN (PW.pt (jd (fq (oh hu (pv 6) (pv 2))) (jc (bB (BA hu) (pv 7) (bY (af (bA aj) (af (bA (af (pv 5) aj)) aj))) rfl))))
     (ar (cx (di fQ gM gN bX (fc hu (pv 2) (aM b9 (pv 4) ao (λ_ _=>rfl)) (λ_ _=>rfl)) (af (bY (af (pv 3) (af (pv 5) aj))) aj)))) bC)))))
   )
  (ar (bf (pv 2))))),?_⟩
 nofun
 have ll:=bK cK;refine⟨_,rfl,R,rs,aa,rfl,hR,cK,bM,h8,λD1 Bp bw H1 f1 s1 e1 w1 emp Fd=>?_⟩;have SF:Paired (λt (kv:aN×V)=>ba K H1 t [kV kv.1,kv.2]) Bp (bw.map λp=>((Sum.inr p.1:aN),V.int (p.2:Int))):=cQ w1 λ_ _ z=>z;refine⟨D1,Bp,_,rfl,e1,SF,λe he=>?_⟩;have ekE:cT (bw.map λp=>((Sum.inr p.1:aN),V.int (p.2:Int))) []=bw.map λp=>((Sum.inr p.1:aN),V.int (p.2:Int)):=m_ _ [] (by
  rw [oP,gZ];have:=vp emp.nd;rw [gZ] at this;exact this)
 rw [ekE];have BY:∀z,(bu (bw.map λp=>((Sum.inr p.1:aN),V.int (p.2:Int))) (Sum.inr z)).isSome=decide (z∈bw.map (·.1)):=λz=>by
  rw [il,eI,decide_eq_true_iff,gZ];have:(bw.map λp:Str×Nat=>(Sum.inr p.1:aN))=(bw.map (·.1)).map Sum.inr:=by rw [gZ];rfl
  show _∈(bw.map λp:Str×Nat=>(Sum.inr p.1:aN))↔_;rw [this];exact cV
 generalize (bw.map λp=>((Sum.inr p.1:aN),V.int (p.2:Int)))=kE at BY ⊢;have s2:=s1.trans (ae he (.dK kE));have e2:upd H1 e (.dK kE) e=some (.dK kE):=ab;generalize upd H1 e (.dK kE)=H2 at s2 e2;refine⟨_,rfl,R,rs,aa,rfl,s2.seq hR,cK.same s2,bM,λD2 H3 f3 s3 e3=>?_⟩;have Ks:=iA (aa.map (·.1)) [];simp only [jq,av] at Ks;refine⟨D2,rfl,⟨_,aD.of e3⟩,λD3 F3=>rF (aD.of e3) ∅ F3 λts ps H4 s4 e4 m4 p4 l4 n4=>?_⟩;have n1:(ps.map (·.1)).Nodup:=by rw [m4];exact oF _ l_
 have EF:Paired (λt (kv:aN×V)=>ba K H4 t [kV kv.1,kv.2]) ts (ps.map i4):=cQ p4 λ_ _ z=>z;refine⟨D3,ts,_,rfl,e4,EF,λd sh=>?_⟩;have OZ:cT (ps.map i4) []=ps.map i4:=m_ _ [] (by
  rw [oP,mT];exact vp n1)
 rw [OZ];have s5:=((s2.trans s3).trans s4).trans (ae sh (.dK (ps.map i4)));have Bu:=ae sh (.dK (ps.map i4));have e5:upd H4 d (.dK (ps.map i4)) d=some (.dK (ps.map i4)):=ab;have O3:=Bu _ _ (s4 _ _ (s3 _ _ e2));have xX:H d=none:=((s2.trans s3).trans s4).free sh;have S5:CN K ps (λ_=>[]) (upd H4 d (.dK (ps.map i4))) d:=⟨.inl e5,n1,n4,λp hp=>⟨[],Bu _ _ (l4 p hp).1,.nil⟩⟩;have Ml:∀p∈ps,H p.2=none:=λp hp=>(s2.trans s3).free (l4 p hp).2.1;generalize upd H4 d (.dK (ps.map i4))=H5 at s5 e5 O3 S5;clear Bu;have eb:(λz=>(bu kE (Sum.inr z)).isSome)=λz=>decide (z∈bw.map (·.1)):=funext BY;refine⟨_,rfl,R,_,rfl,s5.seq hR,?_⟩
 let z9:z_:=λi σ H6=>∃(st:Str->List (Nat×Nat))(y3 y4 y5 y6 y7:Option V),σ=[aG R,aG e,aG d,y3,y4,y5,y6,y7]/\aC H H6/\H6 e=some (.dK kE)/\H6 d=some (.dK (ps.map i4))/\CN K ps st H6 d /\
  (∀n,(st n).length<=8 * i)/\∀n k j,n∈hd aa->((k,j)∈st n↔k < i/\ME aa (hd aa) (λz=>decide (z∈bw.map (·.1))) n k j)
 refine j5 (xs:=rs.map V.ref) z9
  ⟨λ_=>[],none,none,none,none,none,rfl,s5,O3,e5,S5,by simp,by simp⟩ ?_ ?_ ?_
 .rintro i σ H6 _ ⟨st,y3,y4,y5,y6,y7,rfl,s6,_⟩;exact s6.seq hR
 .rintro i x σ H6 t ex ⟨st,y3,y4,y5,y6,y7,rfl,s6,Lo,UW,S6,l6,c6⟩ ht
  ac_nf0
  rw [aZ] at ex;obtain⟨r,er,rfl⟩:=b_.mp ex;obtain⟨ru,pC,p,v1,v2⟩:=cK.get er;have ox:=cv pC;have Mh:=h8 ru ox;have li:=(bx.mp pC).1;have FP:=ae ht (.tup [.int (i:Int),.ref r]);have IT:ba K (upd H6 t (.tup [.int (i:Int),.ref r])) t [.int (i:Int),.ref r]:=ba.of ab;have s7:=s6.trans FP;have Ln:=FP _ _ Lo;have Yk:=FP _ _ UW;have S7:=S6.same FP;generalize upd H6 t (.tup [.int (i:Int),.ref r])=H7 at IT s7 Ln Yk S7;refine⟨t,_,rfl,IT,rfl,_,_,rfl,_,_,rfl,rfl,?_⟩;refine⟨_,rfl,r,_,_,_,rfl,rfl,s7.tup v1,rfl,p,_,rfl,s7.tup v2,λD5 I0=>xA rfl (s7.tup v2) ∅ Ln I0 λH8 LO e8=>?_⟩;rw [eb] at e8;have s8:=s7.trans LO;have ee8:=LO _ _ Ln;have ed8:=LO _ _ Yk;have S8:=S7.same LO;have nD5:∀p∈ps,p.2≠D5:=λp hp z=>by
   obtain⟨V2,a,_⟩:=S7.lst p hp;rw [z,I0] at a;cases a
  obtain⟨pn,w6,xY⟩:∃pn∈ps,pn.1=ru.1:=by
   have:ru.1∈ps.map (·.1):=by rw [m4];exact(gJ _ _ _).mpr (.inr (iK ox))
   obtain⟨pn,a,b⟩:=cM.mp this;exact⟨pn,a,b⟩
  refine⟨_,rfl,r,_,_,_,rfl,rfl,s8.tup v1,rfl,p,_,rfl,s8.tup v2,?_⟩
  let Ib:z_:=λj σ H9=>∃(st:Str->List (Nat×Nat))(y5 y6:Option V),σ=[aG R,aG e,aG d,some (.int (i:Int)),aG r,y5,y6,aG D5]/\aC H H9/\H9 e=some (.dK kE)/\H9 d=some (.dK (ps.map i4))/\CN K ps st H9 d /\
   H9 D5=some (.lst ((Cj (λz=>decide (z∈bw.map (·.1))) ru.2 ru.2.length).map V.int))/\(∀n,(st n).length<=8 * i+j)/\∀n k j',n∈hd aa->((k,j')∈st n↔(k < i\/(k=i/\j' < j))/\ME aa (hd aa) (λz=>decide (z∈bw.map (·.1))) n k j')
  refine oA (xs:=ru.2.map V.str) Ib
   ⟨st,_,_,rfl,s8,ee8,ed8,S8,e8,λn=>l6 n,λn k j' hn=>by rw [c6 n k j' hn];simp⟩ ?_ ?_ ?_
  .rintro j σ H9 _ ⟨st,y5,y6,rfl,s9,_⟩;exact s9.tup v2
  .rintro j x σ H9 t2 Fb ⟨st,y5,y6,rfl,s9,US,UU,S9,e9,l9,c9⟩ ij
   ac_nf0
   rw [aZ] at Fb;obtain⟨z,ez,rfl⟩:=b_.mp Fb;have lj:=(bx.mp ez).1;have wA:=ae ij (.tup [.int (j:Int),.str z]);have EK:ba K (upd H9 t2 (.tup [.int (j:Int),.str z])) t2 [.int (j:Int),.str z]:=ba.of ab;have rY:=s9.trans wA;have vH:=wA _ _ US;have pD:=wA _ _ UU;have CK:=wA _ _ e9;have Jk:=S9.same wA;generalize upd H9 t2 (.tup [.int (j:Int),.str z])=pG at EK rY vH pD CK Jk;have mem:(bu (ps.map i4) (Sum.inr z)).isSome=true↔z∈hd aa:=by rw [eI,mT,m4];exact cV
   have g7:¬(z∈hd aa/\Ht (λz=>decide (z∈bw.map (·.1))) ru.2 j=true)->∀n k j',n∈hd aa->((k,j')∈st n↔(k < i\/(k=i/\j' < j+1))/\ME aa (hd aa) (λz=>decide (z∈bw.map (·.1))) n k j'):=λhn n k j' TF=>by
    rw [c9 n k j' TF];constructor
    .rintro⟨h1,h3⟩;exact⟨∅,h3⟩
    rintro⟨h1,h3⟩;refine⟨?_,h3⟩;by_cases c:k=i/\j'=j
    .obtain⟨rZ,z',a1,a2,a3,a4,a5⟩:=h3;rw [c.1,pC] at a1;cases a1;rw [c.2] at a5;rw [c.2,ez] at a3;cases a3;exact absurd ⟨a4,a5⟩ hn
    omega
   have WL:∀n,(st n).length<=8 * i+(j+1):=λn=>by have:=l9 n;omega
   refine⟨t2,_,rfl,EK,rfl,_,_,rfl,_,_,rfl,rfl,?_⟩;refine⟨_,rfl,_,rfl,d,_,rfl,cE.k (k:=Sum.inr z) pD,_,rfl,?_⟩;refine dA (λc=>?_) (λc=>?_)
   .have hz:=mem.mp c;refine⟨_,rfl,sj,λl1 Xc=>?_⟩;have DA:=ae Xc (.lst []);have CJ:upd pG l1 (.lst []) l1=some (.lst []):=ab;have nl1:l1≠D5:=(aq CK Xc).symm;generalize upd pG l1 (.lst [])=si at DA CJ;refine⟨_,rfl,CT,λl2 oy=>?_⟩;have Iw:=ae oy (.lst [.int (j:Int)]);have Jb:upd si l2 (.lst [.int (j:Int)]) l2=some (.lst [.int (j:Int)]):=ab;have R9:l2≠D5:=(aq (DA _ _ CK) oy).symm;generalize upd si l2 (.lst [.int (j:Int)])=nE at Iw Jb;refine⟨lV,λt3 N9=>?_⟩;have Bv:=ae N9 (.tup [.ref l1,.ref l2]);have YQ:ba K (upd nE t3 (.tup [.ref l1,.ref l2])) t3 [.ref l1,.ref l2]:=ba.of ab;generalize upd nE t3 (.tup [.ref l1,.ref l2])=vX at Bv YQ;have px:=(DA.trans Iw).trans Bv;refine⟨t3,D5,l1,l2,_,[],[(j:Int)],rfl,rfl,YQ,aD.of (px _ _ CK),aD.of (Bv _ _ (Iw _ _ CJ)),aD.of (Bv _ _ Jb),nl1,R9,_,rfl,?_⟩;have Fw:=Jk.same px;have JQ:=rY.trans px;refine dA (λc2=>?_) (λc2=>?_)
    .obtain⟨V0,an,bn⟩:=Fw.lst pn w6;have vn:=gE ps n1 pn w6;rw [xY] at vn;have hg:cE vX d (.str ru.1) (some (.ref pn.2)):=by
      have:=cE.k (k:=Sum.inr ru.1) (px _ _ pD);rw [vn] at this;exact this
     have ltn:=bK bn;have l9n:=l9 pn.1;refine⟨_,rfl,_,rfl,r,_,_,_,rfl,rfl,JQ.tup v1,rfl,d,_,rfl,hg,.inl ⟨rfl,_,aD.of an⟩,_,rfl,_,rfl,lV,λt4 B9=>?_⟩;have wB:=ae B9 (.tup [.int (i:Int),.int (j:Int)]);have YO:ba K (upd vX t4 (.tup [.int (i:Int),.int (j:Int)])) t4 [.int (i:Int),.int (j:Int)]:=ba.of ab;generalize upd vX t4 (.tup [.int (i:Int),.int (j:Int)])=Zb at wB YO;have Pn:=Fw.same wB;have HV:=wB _ _ an;have Vp:=Paired.gS bn λt' (e':Nat×Nat)(z:ba K vX t' [.int (e'.1:Int),.int (e'.2:Int)])=>wB.tup z;refine⟨pn.2,_,_,rfl,rfl,HV,bo (by rw [av];omega),?_⟩;have VJ:=Pn.more (e:=(i,j)) w6 HV Vp YO;have ne1:e≠pn.2:=λz=>by have:=wB _ _ (px _ _ vH);rw [z,HV] at this;cases this
     have ne2:d≠pn.2:=λz=>by have:=wB _ _ (px _ _ pD);rw [z,HV] at this;cases this
     refine⟨uk st pn.1 (i,j),_,_,rfl,λb o hb=>?_,by rw [ai ne1];exact wB _ _ (px _ _ vH),by rw [ai ne2];exact wB _ _ (px _ _ pD),VJ,by rw [ai (nD5 pn w6).symm];exact wB _ _ (px _ _ CK),λn=>?_,λn k j' TF=>?_⟩
     .rw [ai (λz=>by rw [z,Ml pn w6] at hb;cases hb)];exact wB _ _ (JQ b o hb)
     .have:=l9 n;unfold uk
      split
      .rw [bW];simp;omega
      omega
     have hit:ME aa (hd aa) (λz=>decide (z∈bw.map (·.1))) ru.1 i j:=⟨ru,z,pC,rfl,ez,hz,c2⟩;have Jg:=c9 n k j' TF;unfold uk;by_cases cn:n=pn.1
     .rw [az cn,aX,bH,Jg];constructor
      .rintro(⟨h1,h3⟩ | h1)
       .exact⟨∅,h3⟩
       cases h1;exact⟨∅,by rw [cn,xY];exact hit⟩
      rintro⟨h1,h3⟩;by_cases cc:k=i/\j'=j
      .exact .inr (by rw [cc.1,cc.2])
      exact .inl ⟨∅,h3⟩
     rw [ay cn,Jg];constructor
     .rintro⟨h1,h3⟩;exact⟨∅,h3⟩
     rintro⟨h1,h3⟩;refine⟨?_,h3⟩;by_cases cc:k=i/\j'=j
     .obtain⟨rZ,z',a1,a2,_⟩:=h3;rw [cc.1,pC] at a1;cases a1;exact absurd (a2.symm.trans xY.symm) cn
     omega
    exact⟨st,_,_,rfl,JQ,px _ _ vH,px _ _ pD,Fw,px _ _ CK,WL,g7 λ⟨_,h⟩=>c2 h⟩
   exact⟨st,_,_,rfl,rY,vH,pD,Jk,CK,WL,g7 λ⟨h,_⟩=>c (mem.mpr h)⟩
  rintro σ H9 ⟨st,y5,y6,rfl,s9,US,UU,S9,e9,l9,c9⟩;rw [av] at l9 c9;refine⟨st,_,_,_,_,_,rfl,s9,US,UU,S9,λn=>?_,λn k j' hn=>?_⟩
  .have:=l9 n;omega
  rw [c9 n k j' hn];constructor
  .rintro⟨h1 | ⟨h1,h2⟩,h3⟩
   .exact⟨∅,h3⟩
   exact⟨∅,h3⟩
  rintro⟨h1,h3⟩;refine⟨?_,h3⟩;by_cases c:k < i
  .exact .inl c
  refine .inr ⟨∅,?_⟩;obtain⟨rZ,z',a1,_,a3,_⟩:=h3;have:k=i:=by omega
  rw [this,pC] at a1;cases a1;exact(bx.mp a3).1
 rintro σ H6 ⟨st,y3,y4,y5,y6,y7,rfl,s6,Lo,UW,S6,l6,c6⟩;rw [av,ll] at c6;refine⟨_,rfl,q d ps st bw H6 xX s6 UW S6 m4 Ml emp Fd λn k j hn=>?_⟩;rw [c6 n k j hn];constructor
 .exact λh=>h.2
 intro h;obtain⟨rZ,_,a1,_⟩:=id h;exact⟨(bx.mp a1).1,h⟩
end
end gu
namespace L2
open PySem
def cE.r {H:Hp}{a:Addr}{kvs:List (aN×V)}{k:aN}(e:Rd H a (.dK kvs)):cE H a (kV k) (bu kvs k):=.inl ⟨kvs,k,e,rfl,rfl⟩
end L2
namespace gu
open PySem L2 M11
section
def Down (aa:List aB) (names:List Str)(st:Str->List (Nat×Nat))(rk:Str->Nat):Prop:=∀n∈names,∀e∈st n,∃ru z,aa[e.1]?=some ru/\ru.2[e.2]?=some z/\z∈names/\rk z < rk n
def Ip (K:aY):Sp:=λvs H Q _=>∃(R d:Addr)(rs:List Addr)(aa:List aB)(ps:List (Str×Addr))(st:Str->List (Nat×Nat))(name:Str)(rk:Str->Nat),vs=[.ref R,.ref d,.str name]/\aD K H R (rs.map V.ref)/\aS K H rs aa/\aa.length<=1000 /\
 CN K ps st H d/\ps.length<=1000/\name∈ps.map (·.1)/\Down aa (ps.map (·.1)) st rk/\∀(D:Addr)(H':Hp),H D=none->aC H H'->H' D=some (.lst [])->Q (.ref D) H'
structure CM (K:aY) (names:List Str)(rk:Str->Nat)(name:Str)(H H5:Hp)(D m:Addr)(k9:List Addr)(jv:List (Str×Addr)) (ms:List Str)(kvs:List (aN×V)):Prop where
 sm:aC H H5
 hD:H5 D=some (.lst (k9.map V.ref))
 hm:H5 m=some (.dK kvs)
 keys:kvs.map (·.1)=ms.map Sum.inr
 nd:ms.Nodup
 sub:∀x∈ms,x∈names
 wl:jv.length=ms.length+1
 wv:Paired (λt (e:Str×Addr)=>ba K H5 t [.str e.1,.ref e.2]) k9 jv
 we:∀e∈jv,e.1∈names/\rk e.1<=rk name/\∃xs,H5 e.2=some (.lst xs)/\xs.length<=jv.length/\e.2≠D
def CM.same {names:List Str}{rk:Str->Nat}{name:Str}{H H5 H6:Hp}{D m:Addr}{k9:List Addr}{jv:List (Str×Addr)}{ms:List Str}{kvs:List (aN×V)}(h:CM K names rk name H H5 D m k9 jv ms kvs)(s:aC H5 H6):CM K names rk name H H6 D m k9 jv ms kvs :=
 ⟨h.sm.trans s,s _ _ h.hD,s _ _ h.hm,h.keys,h.nd,h.sub,h.wl,Paired.gS h.wv λ_ _ z=>s.tup z,λe he=>let ⟨a,b,xs,c,d⟩:=h.we e he;⟨a,b,xs,s _ _ c,d⟩⟩
def CM.len {names:List Str}{rk:Str->Nat}{name:Str}{H H5:Hp}{D m:Addr}{k9:List Addr}{jv:List (Str×Addr)}{ms:List Str}{kvs:List (aN×V)}(h:CM K names rk name H H5 D m k9 jv ms kvs):k9.length=jv.length/\kvs.length=ms.length/\ms.length<=names.length:=by
 refine⟨bK h.wv,?_,gX _ _ h.nd h.sub⟩;have:=congrArg List.length h.keys;simpa using this
def CM.more {names:List Str}{rk:Str->Nat}{name z:Str}{H H5 H9:Hp}{D m t c:Addr}{k9:List Addr}{jv:List (Str×Addr)}{ms:List Str}{kvs:List (aN×V)}{xs:List V}(h:CM K names rk name H H5 D m k9 jv ms kvs)(fD:H D=none)(fm:H m=none)
  (hz:z∈names)(hr:rk z<=rk name)(hn:z∉ms)(s:aC (upd H5 m (.dK (bP kvs (Sum.inr z) (.bl true)))) H9)(ht:ba K H9 t [.str z,.ref c])(hc:H9 c=some (.lst xs))(hx:xs.length<=jv.length+1)(nc:c≠D) :
  CM K names rk name H (upd H9 D (.lst (k9.map V.ref++[.ref t]))) D m (k9++[t]) (jv++[(z,c)]) (ms++[z]) (bP kvs (Sum.inr z) (.bl true)):=by
 have P5:D≠m:=λe=>by have:=h.hD;rw [e,h.hm] at this;cases this
 have IZ:H9 D=some (.lst (k9.map V.ref)):=s _ _ (by rw [ai P5];exact h.hD);have hm9:H9 m=some (.dK (bP kvs (Sum.inr z) (.bl true))):=s _ _ ab;refine⟨λb o hb=>?_,by rw [ab,aQ];rfl,by rw [ai P5.symm];exact hm9,?_,?_,?_,?_,?_,?_⟩
 .rw [ai (λe=>by rw [e,fD] at hb;cases hb)];exact s _ _ (by rw [ai (λe=>by rw [e,fm] at hb;cases hb)];exact h.sm b o hb)
 .rw [ir (by rw [h.keys];exact λe=>hn (cV.mp e)),h.keys,aQ];rfl
 .refine iJ.mpr ⟨h.nd,by simp,λa ha b hb e=>?_⟩;rw [bH.mp hb] at e;exact hn (e ▸ ha)
 .intro x SY;rcases aX.mp SY with e | e
  .exact h.sub x e
  rw [bH.mp e];exact hz
 .rw [bW,bW,h.wl];rfl
 .exact fN (Paired.gS h.wv λ_ _ e=>aR IZ (s.tup (gO h.hm e))) (aR IZ ht)
 intro e he;rw [bW];rcases aX.mp he with e' | e'
 .obtain⟨a,b,ys,c1,d1,n1⟩:=h.we e e';exact⟨a,b,ys,by rw [ai n1];exact s _ _ (by rw [ai (λq=>by rw [q,h.hm] at c1;cases c1)];exact c1),∅,n1⟩
 rw [bH.mp e'];exact⟨hz,hr,xs,by rw [ai nc];exact hc,hx,nc⟩
def mv:aK ["rules","steps","name","ways","met","at","way","number","place","part"] ["rules","steps","name"] (ax JK):=iI rfl rfl rfl rfl nofun
def Kd (F:ig K "way_back" "way_back" JK f fd)(T:Txt mg):bS P w K mg base fu 1 f fd ["rules","steps","name"] (Ip K):=by
 refine F.ok mv (λvs H Q E h=>?_) (λeB A outer s H vs Q E hr h=>?_)
 .obtain⟨R,d,rs,aa,ps,st,name,rk,rfl,_⟩:=h;rfl
 obtain⟨R,d,rs,aa,ps,st,name,rk,rfl,hR,cK,bM,S,W6,ER,Ua,q⟩:=h;have hu:=gp hr;refine⟨_,ak (aE (i:=3) mv.nd rfl (bJ rfl) (bA (af (bY (af (pv 2) (af (bA aj) aj))) aj)))
  (ak (aE (i:=4) mv.nd rfl (bJ rfl) gi)
  (ak (aE (i:=5) mv.nd rfl (bJ rfl) ao)
  (ak (iP cP (bB mP (pv 5) (aV bD rfl T.len fw (af (pv 3) aj)) (cf _))
   (ak (aE (i:=6) mv.nd rfl (bJ rfl) (aM b9 (aM aP (pv 3) (pv 5) (λ_ _=>rfl)) ao (λ_ _=>rfl)))
   (ak (cw cP rfl (a9 (fc hu (pv 1) (aM b9 (aM aP (pv 3) (pv 5) (λ_ _=>rfl)) ao (λ_ _=>rfl)) (λ_ _=>rfl))) (eU rfl (aF (au (i:=7) mv.nd rfl (bJ rfl)) (aF (au (i:=8) mv.nd rfl (bJ rfl)) cy)))
    (ak (aE (i:=9) mv.nd rfl (bJ rfl) (aM b9 (aM b9 (aM aP (pv 0) (pv 7) (λ_ _=>rfl)) ao (λ_ _=>rfl)) (pv 8) (λ_ _=>rfl)))
    (ak (cN (bB mQ (pv 9) (pv 2) (cf _)) (ar fC) bC)
    (ar (cN (fq (dP hu (pv 9) (pv 4)))
     (ak (iu hu (pv 4) (pv 9) eV rfl) (ar (cx (di fQ gM gN bX (pv 3) (af (bY (af (pv 9) (af (aI h_ (pv 6) (bA (af (bY (af (pv 7) (af (pv 8) aj))) aj))) aj))) aj))))) bC)))))
   (ar (DJ (i:=5) mv.nd rfl (bJ rfl) ao EH)))))
  (ar (bf (bA aj)))))),?_⟩
 nofun
 have pQ:(ps.map (·.1)).length=ps.length:=av _;refine⟨_,rfl,sj,λl0 Qf=>?_⟩;have s1:=ae Qf (.lst []);have e1:upd H l0 (.lst []) l0=some (.lst []):=ab;generalize upd H l0 (.lst [])=H1 at s1 e1;refine⟨lV,λt0 ht0=>?_⟩;have s2:=ae ht0 (.tup [.str name,.ref l0]);have e2:ba K (upd H1 t0 (.tup [.str name,.ref l0])) t0 [.str name,.ref l0]:=ba.of ab;generalize upd H1 t0 (.tup [.str name,.ref l0])=H2 at s2 e2;refine⟨CT,λD hD=>?_⟩;have s3:=ae hD (.lst [.ref t0]);have e3:upd H2 D (.lst [.ref t0]) D=some (.lst ([t0].map V.ref)):=ab;have nl0:l0≠D:=aq (s2 _ _ e1) hD;generalize upd H2 D (.lst [.ref t0])=H3 at s3 e3;intro m hm;have s4:=ae hm (.dK []);have e4:upd H3 m (.dK []) m=some (.dK []):=ab;generalize upd H3 m (.dK [])=H4 at s4 e4;have fD:H D=none:=(s1.trans s2).free hD;have fm:H m=none:=((s1.trans s2).trans s3).free hm;have W0:CM K (ps.map (·.1)) rk name H H4 D m [t0] [(name,l0)] [] []:=⟨((s1.trans s2).trans s3).trans s4,s4 _ _ e3,e4,rfl,l_,by simp,rfl,.cons ((s3.trans s4).tup e2) .nil,λe he=>by
  rw [bH.mp he];exact⟨ER,aL _,[],s4 _ _ (s3 _ _ (s2 _ _ e1)),by simp,nl0⟩⟩
 refine⟨λmm σ H5=>∃(k9:List Addr)(jv:List (Str×Addr)) (ms:List Str)(kvs:List (aN×V)) (at_:Nat)(y6 y7 y8 y9:Option V),σ=[aG R,aG d,some (.str name),aG D,aG m,some (.int (at_:Int)),y6,y7,y8,y9]/\CM K (ps.map (·.1)) rk name H H5 D m k9 jv ms kvs /\
  at_<=jv.length/\mm=1002 - at_,⟨1002,[t0],[(name,l0)],[],[],0,none,none,none,none,rfl,W0,by simp,rfl⟩,?_⟩
 rintro mm σ H5 ⟨k9,jv,ms,kvs,at_,y6,y7,y8,y9,rfl,W,Ue,rfl⟩;obtain⟨lw,lk,lm⟩:=W.len;have aab:=W.wl;refine⟨_,rfl,_,rfl,D,_,rfl,.inl (aD.of W.hD),_,_,rfl,rfl,_,rfl,?_⟩;refine dA (λc=>?_) (λc=>?_)
 .have c':=dF c;rw [av,lw] at c';have gT:at_ < jv.length:=by omega
  obtain⟨n,l,en⟩:∃n l,jv[at_]?=some (n,l):=⟨(jv[at_]).1,(jv[at_]).2,dw gT⟩;obtain⟨t1,et1,LY⟩:=Paired.at_ W.wv at_ (n,l) en;have Mx:ik (k9.map V.ref) (at_:Int)=some (.ref t1):=bE (by rw [aZ,et1];rfl);obtain⟨hn,hrn,xs,hl,hxl,Kj⟩:=W.we (n,l) (cv en);dsimp only at hn hrn hl Kj;obtain⟨pn,w6,xY⟩:=cM.mp hn;have vn:=gE ps S.n1 pn w6;rw [xY] at vn;obtain⟨V0,an,bn⟩:=S.lst pn w6;rw [xY] at bn;refine⟨λσ H5=>∃(k9:List Addr)(jv:List (Str×Addr)) (ms:List Str)(kvs:List (aN×V))(y6 y7 y8 y9:Option V),σ=[aG R,aG d,some (.str name),aG D,aG m,some (.int ((at_+1:Nat):Int)),y6,y7,y8,y9]/\CM K (ps.map (·.1)) rk name H H5 D m k9 jv ms kvs/\at_+1<=jv.length,?_,?_⟩
  .rintro σ H6 ⟨k9,jv,ms,kvs,y6,y7,y8,y9,rfl,W2,h2⟩;exact⟨1002 - (at_+1),∅,k9,jv,ms,kvs,at_+1,_,_,_,_,rfl,W2,h2,rfl⟩
  refine⟨_,rfl,_,rfl,D,_,_,_,rfl,rfl,aD.of W.hD,Mx,t1,_,_,_,rfl,rfl,LY,rfl,?_⟩;have hg:cE H5 d (.str n) (some (.ref pn.2)):=by
   have:=cE.r (k:=Sum.inr n) (Rd.same S.hd W.sm);rw [vn] at this;exact this
  refine⟨_,rfl,_,rfl,_,rfl,D,_,_,_,rfl,rfl,aD.of W.hD,Mx,t1,_,_,_,rfl,rfl,LY,rfl,d,_,rfl,hg,pn.2,rfl,⟨_,aD.of (W.sm _ _ an)⟩,?_⟩
  let z9:z_:=λi σ H6=>∃(k9:List Addr)(jv:List (Str×Addr)) (ms:List Str)(kvs:List (aN×V))(y7 y8 y9:Option V),σ=[aG R,aG d,some (.str name),aG D,aG m,some (.int (at_:Int)),aG l,y7,y8,y9]/\CM K (ps.map (·.1)) rk name H H6 D m k9 jv ms kvs /\
   at_+1<=jv.length/\∃e∈jv,e.2=l
  refine eZ (xs:=V0.map V.ref) z9 ⟨k9,jv,ms,kvs,_,_,_,rfl,W,gT,(n,l),cv en,rfl⟩ ?_ ?_ ?_
  .rintro i σ H6 _ ⟨k9,jv,ms,kvs,y7,y8,y9,rfl,W2,_⟩;exact aD.of (W2.sm _ _ an)
  .rintro i x σ H6 ex ⟨k9,jv,ms,kvs,y7,y8,y9,rfl,W2,h2,e0,T9,UT⟩
   ac_nf0
   rw [aZ] at ex;obtain⟨ti,X4,rfl⟩:=b_.mp ex;have lbn:=bK bn;have Sq:=(bx.mp X4).1;obtain⟨⟨k,j⟩,Yh⟩:∃e,(st n)[i]?=some e:=⟨(st n)[i]'∅,dw ∅⟩;obtain⟨ti',OY,hti⟩:=Paired.at_ bn i (k,j) Yh;rw [X4] at OY;cases OY;obtain⟨ru,z,er,ez,hz,hrk⟩:=Ua n hn (k,j) (cv Yh);obtain⟨r,Mq,p,v1,v2⟩:=Paired.at_ cK k ru er;have atr:ik (rs.map V.ref) (k:Int)=some (.ref r):=bE (by rw [aZ,Mq];rfl);have Mw:ik (ru.2.map V.str) (j:Int)=some (.str z):=bE (by rw [aZ,ez];rfl);obtain⟨lw2,P6,lm2⟩:=W2.len;have WB:=W2.wl;refine⟨ti,_,rfl,W2.sm.tup hti,rfl,_,_,rfl,_,_,rfl,rfl,?_⟩;refine⟨_,rfl,_,rfl,R,_,_,_,rfl,rfl,W2.sm.seq hR,atr,r,_,_,_,rfl,rfl,W2.sm.tup v1,rfl,_,rfl,p,_,_,_,rfl,rfl,W2.sm.tup v2,Mw,?_⟩;refine⟨_,rfl,_,rfl,rfl,_,rfl,?_⟩;have nz:z≠name:=λe=>by rw [e] at hrk;omega
   refine dA (λc=>absurd (dF c) (λe=>nz (by injection e))) (λ_=>?_);have mem:(bu kvs (Sum.inr z)).isSome=true↔z∈ms:=by rw [eI,W2.keys];exact cV
   refine⟨_,rfl,_,rfl,m,_,rfl,cE.k (k:=Sum.inr z) W2.hm,_,rfl,?_⟩;refine dA (λc=>?_) (λc=>?_)
   .have nm:z∉ms:=λh=>by rw [mem.mpr h] at c;exact absurd c nofun
    refine⟨_,rfl,_,rfl,m,_,rfl,oO.k (k:=Sum.inr z) W2.hm (bo ∅),?_⟩;obtain⟨_,_,CF,oy,aah,R9⟩:=W2.we e0 T9;rw [UT] at oy R9;have P5:D≠m:=λe=>by have:=W2.hD;rw [e,W2.hm] at this;cases this
    have nlm:l≠m:=λe=>by rw [e,W2.hm] at oy;cases oy
    have K8:upd H6 m (.dK (bP kvs (Sum.inr z) (.bl true))) D=some (.lst (k9.map V.ref)):=by rw [ai P5];exact W2.hD
    have hlu:upd H6 m (.dK (bP kvs (Sum.inr z) (.bl true))) l=some (.lst CF):=by rw [ai nlm];exact oy
    refine⟨_,rfl,.inl ⟨rfl,_,aD.of K8⟩,_,rfl,_,rfl,_,rfl,_,rfl,lV,λt4 B9=>?_⟩;have Wc:=ae B9 (.tup [.int (k:Int),.int (j:Int)]);generalize upd (upd H6 m (.dK (bP kvs (Sum.inr z) (.bl true)))) t4 (.tup [.int (k:Int),.int (j:Int)])=H7 at Wc;refine⟨CT,λl4 hl4=>?_⟩;have Wb:=ae hl4 (.lst [.ref t4]);have YN:upd H7 l4 (.lst [.ref t4]) l4=some (.lst [.ref t4]):=ab;generalize upd H7 l4 (.lst [.ref t4])=H8 at Wb YN;have RC:=Wc.trans Wb;refine⟨l,l4,CF,[.ref t4],rfl,rfl,RC _ _ hlu,YN,fits (by simp;omega),λc0 OH=>?_⟩;have Wa:=ae OH (.lst (CF++[.ref t4]));have YM:upd H8 c0 (.lst (CF++[.ref t4])) c0=some (.lst (CF++[.ref t4])):=ab;have nc0:c0≠D:=(aq (RC _ _ K8) OH).symm;generalize upd H8 c0 (.lst (CF++[.ref t4]))=H9 at Wa YM;refine⟨lV,λt5 KL=>?_⟩;have RB:=ae KL (.tup [.str z,.ref c0]);have YJ:ba K (upd H9 t5 (.tup [.str z,.ref c0])) t5 [.str z,.ref c0]:=ba.of ab;generalize upd H9 t5 (.tup [.str z,.ref c0])=pG at RB YJ;have sA:=(RC.trans Wa).trans RB;refine⟨D,_,_,rfl,rfl,sA _ _ K8,bo (by rw [av];omega),?_⟩;exact⟨k9++[t5],jv++[(z,c0)],ms++[z],_,_,_,_,rfl,W2.more fD fm hz ∅ nm sA YJ (RB _ _ YM) (by rw [bW];simp;omega) nc0,by rw [bW];omega,e0,mf _ T9,UT⟩
   exact⟨k9,jv,ms,kvs,_,_,_,rfl,W2,h2,e0,T9,UT⟩
  rintro σ H6 ⟨k9,jv,ms,kvs,y7,y8,y9,rfl,W2,h2,_⟩;exact⟨_,rfl,_,_,rfl,rfl,k9,jv,ms,kvs,_,_,_,_,rfl,W2,h2⟩
 refine⟨sj,λD9 IZ=>q D9 _ (W.sm.free IZ) (W.sm.trans (ae IZ _)) ab⟩
end
end gu
namespace L2
open PySem
def Cr {K:aY}{H:Hp}{p D:Addr}{ls:List Addr}{σ:St}{x:Str}{Qp:Hp->Prop}(hp:H p=some (.lst (ls.map V.ref)))(hl:∀l∈ls,H l=some (.lst []))(hD:H D=none)(q:∀H2,aC H H2->H2 D=some (.lst [])->Qp H2) :
  ∃W:Nat->Nat->List V->St->Hp->Prop,(∃m,W 0 m [] (eM [x] [] σ) (upd H D (.lst []))) /\
 ∀i m ys σ' H,W i m ys σ' H->((kW K p).stop i H/\Qp H)\/((kW K p).go i H/\∃m',m' < m/\∀x H',(kW K p).mi i H x H'->eJ 0 x σ' H' λσ2 H2=>gF 0 σ2 H2 λx H'=>∃k,CB K x H' k/\(λb H3 =>
  if b=true then gF 0 σ2 H3 λy H4=>H4 D=some (.lst ys)/\ys.length < sizeLine/\W (i+1) m' (ys++[y]) σ2 (upd H4 D (.lst (ys++[y]))) else W (i+1) m' ys σ2 H3) k H'):=by
 refine bq (tif:=λσ H Q=>gF 0 σ H λx H'=>∃k,CB K x H' k/\Q k H') (xs:=ls.map V.ref) (λi ys σ2 H5=>ys=[]/\(∃y0,σ2=[y0])/\aC H H5/\H5 D=some (.lst [])) ⟨rfl,⟨none,rfl⟩,ae hD _,ab⟩ (λi ys σ2 H5 _ h=>aD.of (h.2.2.1 _ _ hp)) (λi x ys σ2 H5 ex h=>?_) (λys σ2 H5 h=>?_)
 .obtain⟨rfl,⟨y0,rfl⟩,s5,e5⟩:=h;rw [aZ] at ex;obtain⟨l,el,rfl⟩:=b_.mp ex;refine goN ?_;refine⟨_,rfl,false,.inl ⟨[],aD.of (s5 _ _ (hl l (cv el))),rfl⟩,?_⟩;refine gI ?_;exact⟨rfl,⟨_,rfl⟩,s5,e5⟩
 obtain⟨rfl,_,s5,e5⟩:=h;exact q H5 s5 e5
end L2
namespace gu
open PySem L2 M11
section
def FA (aa:List aB)(rk:Str->Nat):Prop:=∀bw,vY aa bw->xO aa aa.length bw->∀n k j,ME aa (hd aa) (λz=>decide (z∈bw.map (·.1))) n k j->∀ru z,aa[k]?=some ru->ru.2[j]?=some z->rk z < rk n
def Di (K:aY):Sp:=λvs H Q _=>∃(R:Addr)(rs:List Addr)(aa:List aB)(rk:Str->Nat),vs=[.ref R]/\aD K H R (rs.map V.ref)/\aS K H rs aa/\aa.length<=1000/\(∀ru∈aa,ru.2.length<=8)/\FA aa rk /\
 ∀(D:Addr)(H':Hp),H D=none->aC H H'->H' D=some (.lst [])->Q (.ref D) H'
def yw:aK ["rules","steps","loops"] ["rules"] (ax Dx):=iI rfl rfl rfl rfl nofun
def Hj (F:ig K "find_loop" "find_loop" Dx f fd)(T:Txt mg)(GS:aH P w K mg base 2 "steps_with_like_rows" ["rules"] (Ap K))(GW:aH P w K mg base 1 "way_back" ["rules","steps","name"] (Ip K)):bS P w K mg base fu 3 f fd ["rules"] (Di K):=by
 refine F.ok yw (λvs H Q E h=>?_) (λeB A outer s H vs Q E hr h=>?_)
 .obtain⟨R,rs,aa,rk,rfl,_⟩:=h;rfl
 obtain⟨R,rs,aa,rk,rfl,hR,cK,bM,h8,Qd,q⟩:=h;refine⟨_,ak (aE (i:=1) yw.nd rfl (Or.inr rfl) (bI GS hr rfl (af (pv 0) aj)))
  (ak (f_ (iy:=2) ["name"] [(0,"rules"),(1,"steps")] yw.nd rfl rfl rfl (AL (pv 1)) (a_ rfl rfl) nofun rfl nofun
   (λ_ _ _ _ _=>au (i:=0) (show (["name","rules","steps"]:List Str).Nodup by decide +kernel) rfl (bJ rfl)) (λ_ _ _ _ _=>cb)
   (λ_ _ _ _ _=>bI (GW.mono (by decide:1<=2)) hr rfl (af (pv 1) (af (pv 2) (af (pv 0) aj)))))
  (ar (bf (G7 rfl rfl T.min rfl T.len (af (bL ["loop"] [] rfl (a9 (pv 2)) (a_ rfl rfl) nofun rfl nofun
   (λ_ _ _ _ _=>au (i:=0) (show (["loop"]:List Str).Nodup by decide +kernel) rfl (bJ rfl)) (λ_ _ _ _ _=>gh (tF K (pv 0) (λ_=>rfl))) (λ_ _ _ _ _=>pv 0)) aj) (bA aj))))),?_⟩
 nofun
 refine⟨_,rfl,R,rs,aa,rfl,hR,cK,bM,h8,λd ps st bw H1 fd1 s1 e1 S1 m1 Ml emp Fd hits=>?_⟩;have WI:ps.length<=1000:=by
  have h1:=congrArg List.length m1;have h2:=iA (aa.map (·.1)) [];simp only [jq,av] at h2;rw [av] at h1;have h3:(hd aa).length=(vJ [] (aa.map (·.1))).length:=rfl;omega
 have Ua:Down aa (ps.map (·.1)) st rk:=λn hn e he=>by
  rw [m1] at hn ⊢;have hit:=(hits n e.1 e.2 hn).mp he;obtain⟨ru,z,er,_,ez,hz,_⟩:=id hit;exact⟨ru,z,er,ez,hz,Qd bw emp Fd n e.1 e.2 hit ru z er ez⟩
 refine⟨_,rfl,d,_,rfl,e1,λo D hD=>?_⟩;have R5:∀p∈ps,p.2≠d:=λp hp z=>by
  obtain⟨ts,a,_⟩:=S1.lst p hp;rw [z,e1] at a;cases a
 have s2:aC H (upd H1 d (.jD o (.dK (ps.map i4)))):=λb u hb=>by
  rw [ai (λz=>by rw [z,fd1] at hb;cases hb)];exact s1 b u hb
 have S2:CN K ps st (upd H1 d (.jD o (.dK (ps.map i4)))) d:=⟨.inr ⟨o,ab⟩,S1.n1,S1.n2,λp hp=>by
  obtain⟨ts,a,b⟩:=S1.lst p hp;exact⟨ts,by rw [ai (R5 p hp)];exact a,Paired.gS b λ_ _ z=>gO e1 z⟩⟩
 have e2:upd H1 d (.jD o (.dK (ps.map i4))) d=some (.jD o (.dK (ps.map i4))):=ab;generalize upd H1 d (.jD o (.dK (ps.map i4)))=H2 at hD s2 S2 e2 ⊢;refine rG (λi ys σ2 H3=>∃ls:List Addr,ys=ls.map V.ref/\ls.length=i/\(∀l∈ls,H3 l=some (.lst [])/\l≠D)/\(∃y0,σ2=[y0,aG R,aG d])/\aC H2 H3/\H3 D=some (.lst ys))
  ⟨[],rfl,rfl,by simp,⟨none,rfl⟩,ae hD _,ab⟩ (λi ys σ2 H3 _ h=>?_) (λi kv ys σ2 H3 ex h=>?_) (λys σ2 H3 h=>?_)
 .obtain⟨_,_,_,_,_,sm,_⟩:=h;exact sm _ _ e2
 .obtain⟨ls,rfl,Xb,hl,⟨y0,rfl⟩,sm,gY⟩:=h;rw [aZ] at ex;obtain⟨p,ep,rfl⟩:=b_.mp ex;have hp:=cv ep;have li:=(bx.mp ep).1;refine goN (sD ?_);have s3:=s2.trans sm;refine⟨_,rfl,_,rfl,_,rfl,R,d,rs,aa,ps,st,p.1,rk,rfl,s3.seq hR,cK.same s3,bM,S2.same sm,WI,iK hp,Ua,λD4 H4 f4 s4 e4=>?_⟩;have xb:=s4 _ _ gY;have WA:D4≠D:=λz=>by rw [z,gY] at f4;cases f4
  refine⟨xb,bo (by rw [av];omega),ls++[D4],by rw [aQ];rfl,by rw [bW,Xb];rfl,λl TM=>?_,⟨_,rfl⟩,λb u hb=>?_,ab⟩
  .rcases aX.mp TM with h | h
   .obtain⟨a1,a2⟩:=hl l h;exact⟨by rw [ai a2];exact s4 _ _ a1,a2⟩
   rw [bH.mp h];exact⟨by rw [ai WA];exact e4,WA⟩
  rw [ai (λz=>by rw [z,hD] at hb;cases hb)];exact s4 _ _ (sm b u hb)
 obtain⟨ls,rfl,Xb,hl,_,sm,gY⟩:=h;have s3:=s2.trans sm;refine⟨_,rfl,D,rfl,⟨_,aD.of gY⟩,λD5 I0=>?_⟩;refine Cr gY (λl TM=>(hl l TM).1) I0 λH5 s5 e5=>?_;refine⟨sj,λD6 Mg=>⟨D5,rfl,aD.of (ae Mg _ _ _ e5),?_⟩⟩;exact q D6 _ ((s3.trans s5).free Mg) ((s3.trans s5).trans (ae Mg _)) ab
end
end gu
namespace L2
open PySem
def Ae {K:aY}{T:Addr}{pos:Pos}{qu:Str}{H H':Hp}{a:Addr}{xs:List V}(s:fK T H H')(t:Tab T pos qu H)(h:ba K H a xs):ba K H' a xs:=by
 obtain⟨ps,b,_⟩:=t;rcases h with (h | ⟨u,h⟩) | h
 .exact .inl (.inl (s _ _ (λz=>by rw [z,b] at h;cases h) h))
 .exact .inl (.inr ⟨u,s _ _ (λz=>by rw [z,b] at h;cases h) h⟩)
 exact .inr h
def AF {K:aY}{T:Addr}{pos:Pos}{qu:Str}{H H':Hp}{a:Addr}{xs:List V}(s:fK T H H')(t:Tab T pos qu H)(h:aD K H a xs):aD K H' a xs:=by
 obtain⟨ps,b,_⟩:=t;rcases h with (h | ⟨u,h⟩) | h
 .exact .inl (.inl (s _ _ (λz=>by rw [z,b] at h;cases h) h))
 .exact .inl (.inr ⟨u,s _ _ (λz=>by rw [z,b] at h;cases h) h⟩)
 exact .inr h
def Af {T T':Addr}{pos pos':Pos}{qu FT:Str}{H H':Hp}(s:fK T H H')(t:Tab T pos qu H)(h:Tab T' pos' FT H)(n:T'≠T):Tab T' pos' FT H':=by
 obtain⟨ps,b,_⟩:=t;obtain⟨RR,a,o,c⟩:=h;refine⟨RR,s _ _ n a,o,c.imp id ?_⟩;rintro⟨c',e,g⟩;exact⟨c',e,s _ _ (λz=>by rw [z,b] at g;cases g) g⟩
def rD {K:aY}{H:Hp}{p D:Addr}{zs:List Str}{σ:St}{js:List (Nat×Str)}{cs:List (Option V)}{tif:TT}{te:TE}{Qp:Hp->Prop}(hσ:eM ["name"] js σ=none::cs)(hp:aD K H p (zs.map V.str))(hD:H D=none)
  (ht:∀z∈zs,∀H2 Q,aC H H2->Q false H2->tif (some (.str z)::cs) H2 Q)(q:∀H2,aC H H2->H2 D=some (.lst [])->Qp H2) :
  ∃W:Nat->Nat->List V->St->Hp->Prop,(∃m,W 0 m [] (eM ["name"] js σ) (upd H D (.lst []))) /\
 ∀i m ys σ' H,W i m ys σ' H->((kW K p).stop i H/\Qp H)\/((kW K p).go i H/\∃m',m' < m/\∀x H',(kW K p).mi i H x H'->eJ 0 x σ' H' λσ2 H2=>tif σ2 H2 λb H3 =>
  if b=true then te σ2 H3 λy H4=>H4 D=some (.lst ys)/\ys.length < sizeLine/\W (i+1) m' (ys++[y]) σ2 (upd H4 D (.lst (ys++[y]))) else W (i+1) m' ys σ2 H3):=by
 refine bq (xs:=zs.map V.str) (λi ys σ2 H5=>ys=[]/\(∃y0,σ2=y0::cs)/\aC H H5/\H5 D=some (.lst [])) ⟨rfl,⟨none,hσ⟩,ae hD _,ab⟩ (λi ys σ2 H5 _ h=>h.2.2.1.seq hp) (λi x ys σ2 H5 ex h=>?_) (λys σ2 H5 h=>?_)
 .obtain⟨rfl,⟨y0,rfl⟩,s5,e5⟩:=h;rw [aZ] at ex;obtain⟨z,ez,rfl⟩:=b_.mp ex;refine goN ?_;refine ht z (cv ez) H5 _ s5 ?_;refine gI ?_;exact⟨rfl,⟨_,rfl⟩,s5,e5⟩
 obtain⟨rfl,_,s5,e5⟩:=h;exact q H5 s5 e5
end L2
namespace gu
open PySem L2 M11
section
structure Good (aa:List aB)(rk:Str->Nat)(b:Str->Int):Prop where
 least:∀g,dU M11.bl aa (xV aa) g->iB M11.bl aa g->∀h∈hd aa,∃n,g h=some n/\n<=60
 met:∀lW ms,aa[0]?=some lW->lW.1∈ms->FD aa aa.length ms->∀h∈hd aa,h∈ms
 loop:FA aa rk
 YW:xQ aa b
 most:∀h∈hd aa,b h<=60
def kS (T1 T2:Addr)(H H':Hp):Prop:=∀b o,b≠T1->b≠T2->H b=some o->H' b=some o
def qA (K:aY)(T1 T2:Addr):Sp:=λvs H Q _=>∃(R S:Addr)(rs ss:List Addr)(aa str:List aB)(rk:Str->Nat)(b:Str->Int),vs=[.ref R,.ref S]/\aD K H R (rs.map V.ref)/\aS K H rs aa/\aa.length<=1000/\(∀ru∈aa,ru.2.length<=8)/\aa≠[] /\
 aD K H S (ss.map V.ref)/\aS K H ss str/\str.length<=1000/\(∀ru∈str,ru.2.length<=8)/\(str.flatMap (·.2)).Nodup/\Good aa rk b/\Tab T1 qQ.2.2.2 xR H/\Tab T2 zr.2.2.2 IG H/\T1≠T2 /\
 ∀H',kS T1 T2 H H'->Tab T1 qQ.2.2.2 xR H'->Tab T2 zr.2.2.2 IG H'->Q .d5 H'
def gQ:aK ["rules","strengths","least","endless","met","unmet","steps","greatest","vast"] ["rules","strengths"] (ax u7):=iI rfl rfl rfl rfl nofun
def BH {T1 T2:Addr}{tm:Tok}(F:ig K "refuse_faults" "refuse_faults" u7 f fd)(T:Txt mg)(hM:mg "MOST_RULES"=some (.int 60 tm))(GT:aH P w K mg base 1 "refuse_twice" ["strengths"] (Ao K))(GL:aH P w K mg base 3 "least_sizes" ["rules"] (pJ K T1))
  (GH:aH P w K mg base 1 "heads_of" ["rules"] (j8 K))(GM:aH P w K mg base 1 "names_met" ["rules"] (Ir K))(GF:aH P w K mg base 3 "find_loop" ["rules"] (Di K))(GG:aH P w K mg base 3 "greatest_empty_sizes" ["rules"] (uT K T2)) :
  bS P w K mg base fu 4 f fd ["rules","strengths"] (qA K T1 T2):=by
 refine F.ok gQ (λvs H Q E h=>?_) (λeB A outer s H vs Q E hr h=>?_)
 .obtain⟨R,S,rs,ss,aa,str,rk,b,rfl,_⟩:=h;rfl
 obtain⟨R,S,rs,ss,aa,str,rk,b,rfl,hR,cK,bM,h8,pR,hS,tS,Te,Od,Tj,gd,HI,Qo,nT,q⟩:=h;have hu:=gp hr;refine⟨_,ak (cN (iF (hZ (pv 0) (λ_=>rfl))) (ar fC) bC)
  (ak (cx (bI (GT.mono (by decide:1<=3)) hr rfl (af (pv 1) aj)))
  (ak (aE (i:=2) gQ.nd rfl (Or.inr rfl) (bI GL hr rfl (af (pv 0) aj)))
  (ak (f_ (iy:=3) ["name"] [(2,"least")] gQ.nd rfl rfl rfl (a9 (bI (GH.mono (by decide:1<=3)) hr rfl (af (pv 0) aj))) (a_ rfl rfl) nofun rfl nofun
   (λ_ _ _ _ _=>au (i:=0) (show (["name","least"]:List Str).Nodup by decide +kernel) rfl (bJ rfl)) (λ_ _ _ _ _=>gh (fq (dP hu (pv 0) (pv 1)))) (λ_ _ _ _ _=>pv 0))
  (ak (cN (hZ (pv 3) (λ_=>rfl)) (ar fC) bC)
  (ak (aE (i:=4) gQ.nd rfl (Or.inr rfl) (bI (GM.mono (by decide:1<=3)) hr rfl (af (pv 0) aj)))
  (ak (f_ (iy:=5) ["name"] [(4,"met")] gQ.nd rfl rfl rfl (a9 (bI (GH.mono (by decide:1<=3)) hr rfl (af (pv 0) aj))) (a_ rfl rfl) nofun rfl nofun
   (λ_ _ _ _ _=>au (i:=0) (show (["name","met"]:List Str).Nodup by decide +kernel) rfl (bJ rfl)) (λ_ _ _ _ _=>gh (fq (dP hu (pv 0) (pv 1)))) (λ_ _ _ _ _=>pv 0))
  (ak (cN (hZ (pv 5) (λ_=>rfl)) (ar fC) bC)
  (ak (aE (i:=6) gQ.nd rfl (bJ rfl) (bI GF hr rfl (af (pv 0) aj)))
  (ak (cN (hZ (pv 6) (λ_=>rfl)) (ar fC) bC)
  (ak (aE (i:=7) gQ.nd rfl (Or.inr rfl) (bI GG hr rfl (af (pv 0) aj)))
  (ak (f_ (iy:=8) ["name"] [(2,"least"),(7,"greatest")] gQ.nd rfl rfl rfl (a9 (bI (GH.mono (by decide:1<=3)) hr rfl (af (pv 0) aj))) (a_ rfl rfl) nofun rfl nofun
   (λ_ _ _ _ _=>au (i:=0) (show (["name","least","greatest"]:List Str).Nodup by decide +kernel) rfl (bJ rfl)) (λ_ _ _ _ _=>gh (bB wL (aV (ub rfl) rfl T.max PyProof.Rows.boot_max (af (fc hu (pv 1) (pv 0) (λ_ _=>rfl)) (af (DQ hu (pv 2) (pv 0) ao ⟨rfl,rfl,rfl,rfl⟩) aj))) (mM (v:=.int 60) rfl hM ⟨tm,rfl⟩) (cf _))) (λ_ _ _ _ _=>pv 0))
  (ar (cN (hZ (pv 8) (λ_=>rfl)) (ar fC) bC))))))))))))),?_⟩
 nofun
 have ll:=bK cK;obtain⟨lW,zD⟩:∃lW,aa[0]?=some lW:=by
  cases aa with
  | nil=>exact absurd rfl pR
  | cons a r=>exact⟨a,rfl⟩
 have eR:(rs.map V.ref).isEmpty=false:=by
  have l0:=(bx.mp zD).1;cases rs with
  | nil=>simp at ll;omega
  | cons a r=>rfl
 refine⟨_,rfl,true,.inl ⟨_,hR,by rw [eR];rfl⟩,?_⟩;refine gI ?_;refine⟨_,rfl,S,ss,str,rfl,hS,tS,Te,Od,Tj,λH1 s1=>?_⟩;have JD:=HI.same s1;have Zx:=Qo.same s1;refine⟨_,rfl,R,rs,aa,rfl,s1.seq hR,cK.same s1,bM,h8,JD,λdl kl ksl gl H2 fl s2 Nd el kkl vl ZA sel _=>?_⟩;have xU:=AF s2 JD (s1.seq hR);have jC:=(cK.same s1).keep λ_ _ z=>Ae s2 JD z;have Zw:=Af s2 JD Zx nT.symm;have hl:=gd.least gl ZA sel;have S02:kS T1 T2 H H2:=λb o n1 _ hb=>s2 b o n1 (s1 b o hb);refine⟨_,rfl,R,rs,aa,rfl,xU,jC,bM,λD3 H3 f3 s3 e3=>⟨D3,rfl,⟨_,aD.of e3⟩,λD4 Qs=>rD rfl (aD.of e3) Qs (λz hz H' Q' s' hQ=>?_) λH4 s4 e4=>?_⟩⟩
 .obtain⟨n,en,_⟩:=hl z hz;have hg:cE H' dl (.str z) (some (.int n)):=by
   have:=cE.k (k:=Sum.inr z) (s' _ _ (s3 _ _ el));rw [vl,en] at this;exact this
  exact⟨_,rfl,_,rfl,dl,_,rfl,hg,_,rfl,hQ⟩
 refine⟨_,rfl,false,.inl ⟨[],aD.of e4,rfl⟩,?_⟩;refine gI ?_;have JP:=s3.trans s4;refine⟨_,rfl,R,rs,aa,lW,rfl,JP.seq xU,jC.same JP,zD,bM,h8,λdm km ms H5 f5 s5 em kkm yp _ mc5=>?_⟩;have RE:=JP.trans s5;refine⟨_,rfl,R,rs,aa,rfl,RE.seq xU,jC.same RE,bM,λD6 H6 f6 s6 e6=>⟨D6,rfl,⟨_,aD.of e6⟩,λD7 OM=>rD rfl (aD.of e6) OM (λz hz H' Q' s' hQ=>?_) λH7 s7 e7=>?_⟩⟩
 .have hm:=gd.met lW ms zD yp mc5 z hz;have hv:(bu km (Sum.inr z)).isSome=true:=by rw [eI,kkm];exact cV.mpr hm
  refine⟨_,rfl,_,rfl,dm,_,rfl,cE.k (k:=Sum.inr z) (s' _ _ (s6 _ _ em)),_,rfl,?_⟩;rw [hv];exact hQ
 refine⟨_,rfl,false,.inl ⟨[],aD.of e7,rfl⟩,?_⟩;refine gI ?_;have RD:=(RE.trans s6).trans s7;refine⟨_,rfl,R,rs,aa,rk,rfl,RD.seq xU,jC.same RD,bM,h8,gd.loop,λD8 H8 f8 s8 e8=>?_⟩;refine⟨_,rfl,false,.inl ⟨[],aD.of e8,rfl⟩,?_⟩;refine gI ?_;have Iv:=RD.trans s8;have Zy:=Nd.same Iv;have Nb:=Zw.same Iv;refine⟨_,rfl,R,rs,aa,b,rfl,Iv.seq xU,jC.same Iv,bM,h8,gd.YW,Nb,λdg kg ksg gg H9 f9 s9 Zv eg kkg vg jg _ _=>?_⟩;have hR9:=AF s9 Nb (Iv.seq xU);have Tp:=(jC.same Iv).keep λ_ _ z=>Ae s9 Nb z;have Rq:=Af s9 Nb Zy nT;have Yg:=Iv _ _ el;have el9:=s9 _ _ (λz=>by obtain⟨ps,a,_⟩:=Nb;rw [<-z,Yg] at a;cases a) Yg;refine⟨_,rfl,R,rs,aa,rfl,hR9,Tp,bM,λVR pG Mm rY CK=>⟨VR,rfl,⟨_,aD.of CK⟩,λD11 Uq=>rD rfl (aD.of CK) Uq (λz hz H' Q' s' hQ=>?_) λsi DA CJ=>?_⟩⟩
 .obtain⟨n,en,aak⟩:=hl z hz;have HC:cE H' dl (.str z) (some (.int n)):=by
   have:=cE.k (k:=Sum.inr z) (s' _ _ (rY _ _ el9));rw [vl,en] at this;exact this
  have Yj:=s' _ _ (rY _ _ eg);obtain⟨v,hv1,hv2⟩:∃v:Int,((gg z).map V.int).getD (.int 0)=.int v/\v<=60:=by
   cases e:gg z with
   | none=>exact⟨0,rfl,nofun⟩
   | some v=>exact⟨v,rfl,Int.le_trans (jg z v e).2.1 (gd.most z hz)⟩
  have TY:cE H' dg (.str z) ((gg z).map V.int):=by
   have:=cE.k (k:=Sum.inr z) Yj;rw [vg] at this;exact this
  refine⟨_,rfl,_,rfl,dl,_,rfl,HC,_,rfl,dg,rfl,.inl ⟨_,.inl Yj⟩,_,rfl,_,TY,?_⟩;rw [hv1];refine⟨n,v,rfl,_,_,rfl,rfl,_,rfl,?_⟩;rw [gy (by split <;> omega)]
  exact hQ
 refine⟨_,rfl,false,.inl ⟨[],aD.of CJ,rfl⟩,?_⟩;refine gI ?_;have JO:=rY.trans DA;exact q si (λc o n1 n2 hc=>JO c o (s9 c o n2 (Iv c o (S02 c o n1 n2 hc)))) (Rq.same JO) (Zv.same JO)
end
end gu
namespace M11
open PySem L2
abbrev Be:=Str×Str×Nat×Nat
def vU (cI:List Be):List (Str×Str):=cI.map λb=>(b.1,b.2.1)
def mZ (cI:List Be)(n:Str):List Str:=(cI.filter λb=>decide (b.1=n)).map (·.2.1)
def pj (names:List Str)(cI:List Be)(z:Str):List Str:=if z∈names then mZ cI z else [z]
inductive vZ (aa:List aB) (names:List Str)(b:Str->Bool):List Be->Prop
 | nil:vZ aa names b []
 | snoc {cI:List Be}{k j:Nat}{ru:aB}{z w:Str}:vZ aa names b cI->aa[k]?=some ru->ru.2[j]?=some z->j < Cf b ru.2->w∈pj names cI z->(ru.1,w)∉vU cI->vZ aa names b (cI++[(ru.1,w,k,j)])
def zN {cI:List Be}{n w:Str}:w∈mZ cI n↔(n,w)∈vU cI:=by
 unfold mZ vU;rw [cM,cM];constructor
 .rintro⟨b,hb,rfl⟩;obtain⟨h1,h2⟩:=fV.mp hb;exact⟨b,h1,by rw [dF h2]⟩
 rintro⟨b,hb,e⟩;cases e;exact⟨b,fV.mpr ⟨hb,fO rfl⟩,rfl⟩
def A5 (cI:List Be)(b:Be)(n:Str):mZ (cI++[b]) n=mZ cI n++(if b.1=n then [b.2.1] else []):=by
 unfold mZ;rw [kM,aQ];by_cases c:b.1=n
 .rw [az c];simp [c]
 rw [ay c];simp [c]
end M11
namespace gu
open PySem L2 M11
def HQ:Stmt->List Stmt
 | .ClassDef _ _ _ b _ _ _ _ _ _ _=>b
 | _=>[]
abbrev LQ (st:Stmt) (i:Nat):Stmt:=(HQ st).getD i (.Pass ⟨0,0,0,0⟩)
abbrev yJ:Stmt:=LQ yI 0
abbrev Dy:Stmt:=LQ yI 1
abbrev yD:Stmt:=LQ yI 2
abbrev vc:Stmt:=LQ wz 0
abbrev yA:Stmt:=LQ wz 1
section
structure BC (K:aY)(C:Addr):Prop where
 cls:Bj K C
 a1:dQ K C "empties"
 a2:dQ K C "empty"
 a3:dQ K C "begins"
 a4:dQ K C "firsts"
structure sM (K:aY)(C:Addr)(H0 H:Hp)(a e d bg:Addr)(kE:List (aN×V))(bw:List (Str×Nat))(ps:List (Str×Addr))(cI:List Be):Prop where
 sm:aC H0 H
 ia:∃dx fs,H a=some (.ins C dx fs)/\fs.lookup ("empty":Str)=some (.ref e)/\fs.lookup ("begins":Str)=some (.ref bg)/\fs.lookup ("firsts":Str)=some (.ref d)/\fs.lookup ("find_begins":Str)=none/\fs.lookup ("words_of_part":Str)=none
 he:H e=some (.dK kE)
 hd:H d=some (.dK (ps.map i4))
 n1:(ps.map (·.1)).Nodup
 n2:(ps.map (·.2)).Nodup
 dk:∀p∈ps,(∃kvs,H p.2=some (.dK kvs)/\kvs.map (·.1)=(mZ cI p.1).map Sum.inr)/\H0 p.2=none/\p.2≠e/\p.2≠d
 lb:∃ts,H bg=some (.lst (ts.map V.ref))/\Paired (λt (b:Be)=>ba K H t [.str b.1,.str b.2.1,.int (b.2.2.1:Int),.int (b.2.2.2:Int)]) ts cI
 fb:H0 bg=none
 em:∃e1 ts,(∃dx fs,H a=some (.ins C dx fs)/\fs.lookup ("empties":Str)=some (.ref e1))/\H e1=some (.lst (ts.map V.ref))/\oM K H ts bw/\e1≠bg
def sM.same {C:Addr}{H0 H H':Hp}{a e d bg:Addr}{kE:List (aN×V)}{bw:List (Str×Nat)}{ps:List (Str×Addr)}{cI:List Be}(h:sM K C H0 H a e d bg kE bw ps cI)(s:aC H H'):sM K C H0 H' a e d bg kE bw ps cI:=by
 refine⟨h.sm.trans s,?_,s _ _ h.he,s _ _ h.hd,h.n1,h.n2,λp hp=>?_,?_,h.fb,?_⟩
 .obtain⟨dx,fs,q,r⟩:=h.ia;exact⟨dx,fs,s _ _ q,r⟩
 .obtain⟨⟨kvs,q,r⟩,t⟩:=h.dk p hp;exact⟨⟨kvs,s _ _ q,r⟩,t⟩
 .obtain⟨ts,q,r⟩:=h.lb;exact⟨ts,s _ _ q,Paired.gS r λ_ _ z=>s.tup z⟩
 obtain⟨e1,ts,⟨dx,fs,q1,q2⟩,q3,q4,q5⟩:=h.em;exact⟨e1,ts,⟨dx,fs,s _ _ q1,q2⟩,s _ _ q3,q4.keep λ_ _ z=>s.tup z,q5⟩
def Au (K:aY)(C:Addr):Sp:=λvs H Q _=>∃(H0:Hp)(a e d bg:Addr)(kE:List (aN×V))(bw:List (Str×Nat))(ps:List (Str×Addr))(cI:List Be)(z:Str),vs=[.ref a,.str z]/\sM K C H0 H a e d bg kE bw ps cI /\
 ∀(D:Addr)(H':Hp),H D=none->aC H H'->H' D=some (.lst ((pj (ps.map (·.1)) cI z).map V.str))->Q (.ref D) H'
def Gv:aK ["self","part"] ["self","part"] (ax yD):=iI rfl rfl rfl rfl nofun
def Eb {C:Addr}(F:ig K "words_of_part" "BeginTable.words_of_part" yD f fd)(T:Txt mg)(B:BC K C):bS P w K mg base fu 1 f fd ["self","part"] (Au K C):=by
 refine F.ok Gv (λvs H Q E h=>?_) (λeB A outer s H vs Q E hr h=>?_)
 .obtain⟨H0,a,e,d,bg,kE,bw,ps,cI,z,rfl,_⟩:=h;rfl
 obtain⟨H0,a,e,d,bg,kE,bw,ps,cI,z,rfl,S,q⟩:=h;have hu:=gp hr;obtain⟨dx,fs,ea,f1,f2,f3,f4,f5⟩:=S.ia;refine⟨_,ar (bf (wH (fq (oh hu (pv 1) (dO (pv 0) rfl))) (a8 (lS rfl) rfl T.lst fI (af (fc hu (dO (pv 0) rfl) (pv 1) (λ_ _=>rfl)) aj)) (bA (af (pv 1) aj)))),?_⟩;dsimp only [oH];have mem:(bu (ps.map i4) (Sum.inr z)).isSome=true↔z∈ps.map (·.1):=by rw [eI,mT];exact cV
 refine⟨_,rfl,_,rfl,a,C,dx,fs,_,rfl,ea,B.cls,B.a4,f3,d,_,rfl,cE.k (k:=Sum.inr z) S.hd,_,rfl,?_⟩;refine dA (λc=>?_) (λc=>?_)
 .have hz:=mem.mp c;obtain⟨p,hp,ep⟩:=cM.mp hz;obtain⟨⟨kvs,hk,kk⟩,_⟩:=S.dk p hp;have vn:=gE ps S.n1 p hp;rw [ep] at vn;have hg:cE H d (.str z) (some (.ref p.2)):=by
   have:=cE.k (k:=Sum.inr z) S.hd;rw [vn] at this;exact this
  refine⟨_,rfl,a,C,dx,fs,_,rfl,ea,B.cls,B.a4,f3,_,rfl,d,_,rfl,hg,p.2,kvs,rfl,hk,λD hD=>?_⟩;refine q D _ hD (ae hD _) ?_;rw [ab,keys_str kk,ep];unfold pj;rw [az hz]
 refine⟨_,rfl,CT,λD hD=>?_⟩;refine q D _ hD (ae hD _) ?_;rw [ab];unfold pj;rw [ay (λh=>c (mem.mpr h))];rfl
def sM.more {C:Addr}{H0 H H2:Hp}{a e d bg t:Addr}{kE kvs:List (aN×V)}{bw:List (Str×Nat)}{ps:List (Str×Addr)}{cI:List Be}{p:Str×Addr}{wd:Str}{k j:Nat}{ts:List Addr}(h:sM K C H0 H a e d bg kE bw ps cI)(hp:p∈ps)(hk:H p.2=some (.dK kvs))(kk:kvs.map (·.1)=(mZ cI p.1).map Sum.inr)
  (hn:(p.1,wd)∉vU cI)(hb:H bg=some (.lst (ts.map V.ref)))(Mc:Paired (λt (b:Be)=>ba K H t [.str b.1,.str b.2.1,.int (b.2.2.1:Int),.int (b.2.2.2:Int)]) ts cI)
  (s:aC (upd H p.2 (.dK (bP kvs (Sum.inr wd) (.bl true)))) H2)(ht:ba K H2 t [.str p.1,.str wd,.int (k:Int),.int (j:Int)]) :
  sM K C H0 (upd H2 bg (.lst (ts.map V.ref++[.ref t]))) a e d bg kE bw ps (cI++[(p.1,wd,k,j)]):=by
 have P2:bg≠p.2:=λz=>by rw [z,hk] at hb;cases hb
 have EZ:H2 bg=some (.lst (ts.map V.ref)):=s _ _ (by rw [ai P2];exact hb);obtain⟨_,fp,Wo,Wq⟩:=h.dk p hp;have up:∀c o,c≠bg->c≠p.2->H c=some o->upd H2 bg (.lst (ts.map V.ref++[.ref t])) c=some o:=λc o n1 n2 q=>by
  rw [ai n1];exact s _ _ (by rw [ai n2];exact q)
 refine⟨λc o hc=>up c o (λz=>by rw [z,h.fb] at hc;cases hc) (λz=>by rw [z,fp] at hc;cases hc) (h.sm c o hc),?_,up _ _ (λz=>by have:=h.he;rw [z,hb] at this;cases this) Wo.symm h.he,up _ _ (λz=>by have:=h.hd;rw [z,hb] at this;cases this) Wq.symm h.hd,h.n1,h.n2,λp' lX=>?_,⟨ts++[t],by rw [ab,aQ];rfl,?_⟩,h.fb,?_⟩
 .obtain⟨dx,fs,q,r⟩:=h.ia;exact⟨dx,fs,up _ _ (λz=>by rw [z,hb] at q;cases q) (λz=>by rw [z,hk] at q;cases q) q,r⟩
 .obtain⟨⟨lM,q,r⟩,t'⟩:=h.dk p' lX;refine⟨?_,t'⟩;by_cases z:p'=p
  .rw [z];refine⟨bP kvs (Sum.inr wd) (.bl true),by rw [ai P2.symm];exact s _ _ ab,?_⟩;rw [ir (by rw [kk];exact λq=>hn (zN.mp (cV.mp q))),kk,A5,az rfl,aQ];rfl
  have n1:p'.1≠p.1:=λq'=>z (by
   have w1:=gE ps h.n1 p' lX;have w2:=gE ps h.n1 p hp;rw [q',w2] at w1;injection w1 with w3;injection w3 with w4;exact Prod.ext q' w4.symm)
  have n2:p'.2≠p.2:=λq'=>by
   obtain⟨i,hi,ei⟩:=oS.mp lX;obtain⟨j',hj,ej⟩:=oS.mp hp;have FY:i=j':=by
    refine(qg (xs:=ps.map (·.2)) (h₀:=by simpa using hi) (h₁:=by simpa using hj) h.n2).mp ?_;rw [nR,nR,ei,ej];exact q'
   subst FY;exact z (ei.symm.trans ej)
  refine⟨lM,up _ _ (λz=>by rw [z,hb] at q;cases q) n2 q,?_⟩;rw [r,A5,ay (λq'=>n1 q'.symm),fh]
 .exact fN (Paired.gS Mc λ_ _ z=>aR EZ (s.tup (gO hk z))) (aR EZ ht)
 obtain⟨e1,te,⟨dx,fs,q1,q2⟩,q3,q4,q5⟩:=h.em;exact⟨e1,te,⟨dx,fs,up _ _ (λz=>by rw [z,hb] at q1;cases q1) (λz=>by rw [z,hk] at q1;cases q1) q1,q2⟩,up _ _ q5 (λz=>by rw [z,hk] at q3;cases q3) q3,q4.keep λ_ _ z=>aR EZ (s.tup (gO hk z)),q5⟩
def Lb (l m:List Be)(n:Str):mZ (l++m) n=mZ l n++mZ m n:=by
 unfold mZ;rw [kM,aQ]
def Gh {names:List Str}(l m:List Be){z x:Str}(h:x∈pj names l z):x∈pj names (l++m) z:=by
 unfold pj at h ⊢
 split
 .rename_i c
  rw [az c] at h;rw [Lb];exact mf _ h
 rename_i c
 rw [ay c] at h;exact h
def La (cI:List Be)(n:Str):(mZ cI n).length<=cI.length:=by
 unfold mZ;rw [av];exact jG _ _
def Lw {n i:Nat}(h:i < n):(cnt n)[i]?=some (.int (i:Int)):=by
 unfold cnt;rw [aZ,List.getElem?_range h];rfl
def Ba (n:Nat):(cnt n).length=n:=by unfold cnt;rw [av,nV]
def Dj (K:aY)(C:Addr):Sp:=λvs H Q _=>∃(H0:Hp)(a e d bg r:Addr)(kE:List (aN×V))(bw:List (Str×Nat))(ps:List (Str×Addr))(cI:List Be) (k:Nat)(ru:aB)(aa:List aB),vs=[.ref a,.int (k:Int),.ref r]/\sM K C H0 H a e d bg kE bw ps cI/\kT K H0 r ru/\aa[k]?=some ru/\ru.2.length<=8 /\
 ru.1∈ps.map (·.1)/\(∀vM:List Be,vZ aa (ps.map (·.1)) (λz=>(bu kE (Sum.inr z)).isSome) vM->vM.length<=900000)/\vZ aa (ps.map (·.1)) (λz=>(bu kE (Sum.inr z)).isSome) cI /\
 ∀(vM:List Be)(H':Hp),sM K C H0 H' a e d bg kE bw ps vM->vZ aa (ps.map (·.1)) (λz=>(bu kE (Sum.inr z)).isSome) vM->cI.length<=vM.length->(vM.length=cI.length->vM=cI/\∀j z,j < Cf (λz=>(bu kE (Sum.inr z)).isSome) ru.2->ru.2[j]?=some z->∀wd∈pj (ps.map (·.1)) cI z,(ru.1,wd)∈vU cI)->Q .d5 H'
def u4:aK ["self","number","rule","own","place","word"] ["self","number","rule"] (ax Dy):=iI rfl rfl rfl rfl nofun
def Hk {C fW:Addr}{XN:FuncData}(F:ig K "find_begins" "BeginTable.find_begins" Dy f fd)(T:Txt mg)(B:BC K C)(GP:aH P w K mg base 1 "first_places" ["parts","empty"] (wo K))(FW:bS P w K mg base fu 1 fW XN ["self","part"] (Au K C))(MW:Meth K C "words_of_part" fW)(BW:Binds K XN ["self","part"] []) :
  bS P w K mg base fu 2 f fd ["self","number","rule"] (Dj K C):=by
 refine F.ok u4 (λvs H Q E h=>?_) (λeB A outer s H vs Q E hr h=>?_)
 .obtain⟨H0,a,e,d,bg,r,kE,bw,ps,cI,k,ru,aa,rfl,_⟩:=h;rfl
 obtain⟨H0,a,e,d,bg,r,kE,bw,ps,cI,k,ru,aa,rfl,S,⟨p,v1,v2⟩,er,h8,hh,hbd,Ud,q⟩:=h;have hu:=gp hr;refine⟨_,ak (aE (i:=3) u4.nd rfl (bJ rfl) (fc hu (dO (pv 0) rfl) (aM b9 (pv 2) ao (λ_ _=>rfl)) (λ_ _=>rfl)))
  (ar (cw cP rfl (a9 (bI GP hr rfl (af (aM b9 (pv 2) ao (λ_ _=>rfl)) (af (dO (pv 0) rfl) aj)))) (au (i:=4) u4.nd rfl (bJ rfl))
   (ar (cw cP rfl (a9 (AM (pv 0) B.cls MW FW hr BW .nil oZ (af (aM b9 (aM b9 (pv 2) ao (λ_ _=>rfl)) (pv 4) (λ_ _=>rfl)) aj))) (au (i:=5) u4.nd rfl (bJ rfl))
    (ar (cN (fq (dP hu (pv 5) (pv 3)))
     (ak (iu hu (pv 3) (pv 5) eV rfl)
     (ar (cx (di fQ gM gN bX (dO (pv 0) rfl) (af (bY (af (aM b9 (pv 2) ao (λ_ _=>rfl)) (af (pv 5) (af (pv 1) (af (pv 4) aj))))) aj))))) bC)))))),?_⟩
 nofun
 obtain⟨pn,w6,xY⟩:=cM.mp hh;have vn:=gE ps S.n1 pn w6;rw [xY] at vn;obtain⟨dx,fs,ea,f1,f2,f3,f4,f5⟩:=S.ia;have hg:cE H d (.str ru.1) (some (.ref pn.2)):=by
  have:=cE.k (k:=Sum.inr ru.1) S.hd;rw [vn] at this;exact this
 refine⟨_,rfl,a,C,dx,fs,_,rfl,ea,B.cls,B.a4,f3,_,rfl,r,_,_,_,rfl,rfl,S.sm.tup v1,rfl,d,_,rfl,hg,?_⟩;refine⟨_,rfl,r,_,_,_,rfl,rfl,S.sm.tup v1,rfl,_,rfl,a,C,dx,fs,_,rfl,ea,B.cls,B.a2,f1,p,e,ru.2,kE,rfl,S.sm.tup v2,∅,S.he,λD5 H5 f6 s5 e5=>⟨D5,rfl,⟨_,aD.of e5⟩,?_⟩⟩;obtain⟨ts0,hb0,_⟩:=S.lb;have nDb:D5≠bg:=λz=>by rw [z,hb0] at f6;cases f6
 have fle:=E7 (λz=>(bu kE (Sum.inr z)).isSome) ru.2;generalize hb:(λz=>(bu kE (Sum.inr z)).isSome)=b at *;generalize hn:Cf b ru.2=n at *
 let z9:z_:=λi σ H6=>∃(dS:List Be)(y4 y5:Option V),σ=[aG a,some (.int (k:Int)),aG r,some (.ref pn.2),y4,y5]/\sM K C H0 H6 a e d bg kE bw ps dS/\H6 D5=some (.lst (cnt n))/\vZ aa (ps.map (·.1)) b dS/\cI.length<=dS.length /\
  (dS.length=cI.length->dS=cI/\∀j z,j < i->ru.2[j]?=some z->∀wd∈pj (ps.map (·.1)) cI z,(ru.1,wd)∈vU cI)
 refine eZ (xs:=cnt n) z9 ⟨cI,none,none,rfl,S.same s5,e5,Ud,aL _,λ_=>⟨rfl,λj z hj=>by omega⟩⟩ ?_ ?_ ?_
 .rintro i σ H6 _ ⟨dS,y4,y5,rfl,S2,e6,_⟩;exact aD.of e6
 .intro i x σ H6 ex Uk
  ac_nf0
  obtain⟨dS,y4,y5,rfl,S2,e6,Vq,l2,c2⟩:=Uk;have li:i < n:=by have:=(bx.mp ex).1;rw [Ba] at this;exact this
  rw [Lw li] at ex;cases ex;have lz:i < ru.2.length:=by omega
  obtain⟨z,ez⟩:∃z,ru.2[i]?=some z:=⟨ru.2[i],dw lz⟩;have Mw:ik (ru.2.map V.str) (i:Int)=some (.str z):=bE (by rw [aZ,ez];rfl);obtain⟨QM,sE,O4,g1,g2,g3,g4,g5⟩:=S2.ia;refine goN ?_
  ac_nf
  refine⟨_,rfl,a,QM,sE,rfl,O4,g5,_,rfl,r,_,_,_,rfl,rfl,S2.sm.tup v1,rfl,_,rfl,p,_,_,_,rfl,rfl,S2.sm.tup v2,Mw,H0,a,e,d,bg,kE,bw,ps,dS,z,rfl,S2,λD6 H7 f7 s7 e7=>⟨D6,rfl,⟨_,aD.of e7⟩,?_⟩⟩;obtain⟨uP,EZ,_⟩:=S2.lb;have nD6:D6≠bg:=λz=>by rw [z,EZ] at f7;cases f7
  generalize WR:pj (ps.map (·.1)) dS z=ws at *
  let Ib:z_:=λm σ H8=>∃(l:List Be)(y5:Option V),σ=[aG a,some (.int (k:Int)),aG r,some (.ref pn.2),some (.int (i:Int)),y5]/\sM K C H0 H8 a e d bg kE bw ps (dS++l)/\H8 D5=some (.lst (cnt n))/\H8 D6=some (.lst (ws.map V.str))/\vZ aa (ps.map (·.1)) b (dS++l) /\
   (l=[]->∀wd∈ws.take m,(ru.1,wd)∈vU dS)
  refine eZ (xs:=ws.map V.str) Ib ⟨[],_,rfl,by rw [fh];exact S2.same s7,s7 _ _ e6,e7,by rw [fh];exact Vq,λ_ wd h=>by simp at h⟩ ?_ ?_ ?_
  .rintro m σ H8 _ ⟨l,y5,rfl,S3,e8,e9,_⟩;exact aD.of e9
  .intro m x σ H8 ex Uk
   ac_nf0
   obtain⟨l,y5,rfl,S3,e8,e9,Pa,c3⟩:=Uk;rw [aZ] at ex;obtain⟨wd,ew,rfl⟩:=b_.mp ex;obtain⟨⟨kvs,hk,kk⟩,fp,Wo,Wq⟩:=S3.dk pn w6;obtain⟨V1,Md,OI⟩:=S3.lb;have lim:=hbd _ Pa;have So:kvs.length<=900000:=by
    have h1:=congrArg List.length kk;rw [av,av] at h1;have:=La (dS++l) pn.1;omega
   have ltt:=bK OI;have mem:(bu kvs (Sum.inr wd)).isSome=true↔(ru.1,wd)∈vU (dS++l):=by rw [eI,kk,cV,zN,xY]
   refine goN ?_
   ac_nf
   refine⟨_,rfl,_,rfl,pn.2,_,rfl,cE.k (k:=Sum.inr wd) hk,_,rfl,?_⟩;refine dA (λc=>?_) (λc=>?_)
   .have nm:(ru.1,wd)∉vU (dS++l):=λh=>by rw [mem.mpr h] at c;exact absurd c nofun
    refine⟨_,rfl,_,rfl,_,_,rfl,oO.k (k:=Sum.inr wd) hk (bo ∅),?_⟩;obtain⟨YR,F4,UY,k1,k2,k3,k4,k5⟩:=S3.ia;have nap:a≠pn.2:=λz=>by rw [z,hk] at UY;cases UY
    have P2:bg≠pn.2:=λz=>by rw [z,hk] at Md;cases Md
    have Lq:upd H8 pn.2 (.dK (bP kvs (Sum.inr wd) (.bl true))) a=some (.ins C YR F4):=by rw [ai nap];exact UY
    have Xs:upd H8 pn.2 (.dK (bP kvs (Sum.inr wd) (.bl true))) bg=some (.lst (V1.map V.ref)):=by rw [ai P2];exact Md
    refine⟨_,rfl,a,C,YR,F4,_,rfl,Lq,B.cls,B.a3,k2,.inl ⟨rfl,_,aD.of Xs⟩,_,rfl,r,_,_,_,rfl,rfl,gO hk (S3.sm.tup v1),rfl,_,rfl,_,rfl,_,rfl,MK,λt4 B9=>?_⟩;have s4:=ae B9 (.tup [.str ru.1,.str wd,.int (k:Int),.int (i:Int)]);have e4:ba K (upd (upd H8 pn.2 (.dK (bP kvs (Sum.inr wd) (.bl true)))) t4 (.tup [.str ru.1,.str wd,.int (k:Int),.int (i:Int)])) t4 [.str ru.1,.str wd,.int (k:Int),.int (i:Int)]:=ba.of ab;generalize upd (upd H8 pn.2 (.dK (bP kvs (Sum.inr wd) (.bl true)))) t4 (.tup [.str ru.1,.str wd,.int (k:Int),.int (i:Int)])=H9 at s4 e4;refine⟨bg,_,_,rfl,rfl,s4 _ _ Xs,bo (by rw [av];omega),?_⟩;have Z_:(pn.1,wd)∉vU (dS++l):=by rw [xY];exact nm
    have S4:=S3.more (k:=k) (j:=i) w6 hk kk Z_ Md OI s4 (by rw [xY];exact e4);have IK:∀D ys,H8 D=some (.lst ys)->D≠bg->upd H9 bg (.lst (V1.map V.ref++[.ref t4])) D=some (.lst ys):=λD ys hD nb=>by
     rw [ai nb];exact s4 _ _ (by rw [ai (λz=>by rw [z,hk] at hD;cases hD)];exact hD)
    rw [gA,xY] at S4;refine⟨l++[(ru.1,wd,k,i)],_,rfl,S4,IK _ _ e8 nDb,IK _ _ e9 nD6,?_,λh=>by simp at h⟩;rw [<-gA];refine .snoc Pa er ez (by rw [hn];exact li) (Gh dS l (by rw [WR];exact cv ew)) nm
   refine⟨l,_,rfl,S3,e8,e9,Pa,λhl x hx=>?_⟩;rw [cY,ew] at hx;rcases aX.mp hx with h | h
   .exact c3 hl x h
   rw [Option.toList_some,bH] at h;subst h;have hm:(ru.1,x)∈vU (dS++l):=mem.mp (by
    cases hq:(bu kvs (Sum.inr x)).isSome with
    | true=>rfl
    | false=>exact absurd (by rw [hq];rfl) c)
   rw [hl,fh] at hm;exact hm
  rintro σ H8 ⟨l,y5,rfl,S3,e8,e9,Pa,c3⟩;rw [av,dB] at c3;refine⟨dS++l,_,_,rfl,S3,e8,Pa,by rw [bW];omega,λOz=>?_⟩;rw [bW] at Oz;have Qf:l=[]:=uI.mp ∅;obtain⟨K2,ny⟩:=c2 ∅;rw [Qf,fh];refine⟨K2,λj z' hj UG wd WT=>?_⟩;by_cases cj:j < i
  .exact ny j z' cj UG wd WT
  have:j=i:=by omega
  subst this;rw [ez] at UG;cases UG;have:=c3 Qf wd (by rw [<-WR,K2];exact WT);rw [K2] at this;exact this
 rintro σ H6 ⟨dS,y4,y5,rfl,S2,e6,Vq,l2,c2⟩;rw [Ba] at c2;exact q dS H6 S2 Vq l2 c2
end
end gu
namespace L2
open PySem M11
def xy {K:aY}{H:Hp}{p D:Addr}{zs:List Str}{σ:St}{x:Str}{Qp:Hp->Prop}(hp:aD K H p (zs.map V.str))(hz:zs.length<=10000)(hD:H D=none)
  (q:∀ts (ps:List (Str×Addr)) H2,aC H H2->H2 D=some (.lst (ts.map V.ref))->ps.map (·.1)=zs->Paired (λt (p:Str×Addr)=>ba K H2 t [.str p.1,.ref p.2]) ts ps->(∀p∈ps,H2 p.2=some (.dK [])/\H p.2=none/\p.2≠D)->(ps.map (·.2)).Nodup->Qp H2) :
  ∃W:Nat->Nat->List V->St->Hp->Prop,(∃m,W 0 m [] (eM [x] [] σ) (upd H D (.lst []))) /\
 ∀i m ys σ' H,W i m ys σ' H->((kW K p).stop i H/\Qp H)\/((kW K p).go i H/\∃m',m' < m/\∀x H',(kW K p).mi i H x H'->eJ 0 x σ' H' λσ2 H2=>iM σ2 H2 λb H3 =>
  if b=true then sk (fZ (gF 0) (fZ (C6) pq)) σ2 H3 λy H4=>H4 D=some (.lst ys)/\ys.length < sizeLine/\W (i+1) m' (ys++[y]) σ2 (upd H4 D (.lst (ys++[y]))) else W (i+1) m' ys σ2 H3):=by
 refine bq (xs:=zs.map V.str) (λi ys σ2 H2=>∃(ts:List Addr)(ps:List (Str×Addr)),ys=ts.map V.ref/\ts.length=i/\ps.map (·.1)=zs.take i/\Paired (λt (p:Str×Addr)=>ba K H2 t [.str p.1,.ref p.2]) ts ps /\
   (∀p∈ps,H2 p.2=some (.dK [])/\H p.2=none/\p.2≠D)/\(ps.map (·.2)).Nodup/\(∃y0,σ2=[y0])/\aC H H2/\H2 D=some (.lst ys))
  ⟨[],[],rfl,rfl,rfl,.nil,by simp,by simp,⟨none,rfl⟩,ae hD _,ab⟩ (λi ys σ2 H2 _ h=>?_) (λi x ys σ2 H2 ex h=>?_) (λys σ2 H2 h=>?_)
 .obtain⟨_,_,_,_,_,_,_,_,_,sm,_⟩:=h;exact sm.seq hp
 .obtain⟨ts,ps,rfl,ht,hm,w5,hl,hn,⟨y0,rfl⟩,sm,hd⟩:=h;rw [aZ] at ex;obtain⟨z,ez,rfl⟩:=b_.mp ex;have li:=(bx.mp ez).1;refine goN (sD ?_);refine⟨_,rfl,λl oy=>⟨lV,λt ij=>?_⟩⟩;have Kj:l≠D:=(aq hd oy).symm;have nt:t≠l:=λe=>by rw [e,ab] at ij;cases ij
  have N9:H2 t=none:=by rw [ai nt] at ij;exact ij
  have Z8:t≠D:=(aq hd N9).symm;have n8:aC H2 (upd (upd H2 l (.dK [])) t (.tup [.str z,.ref l])):=(ae oy _).trans (ae ij _);have gY:=n8 _ _ hd;have el:upd (upd H2 l (.dK [])) t (.tup [.str z,.ref l]) l=some (.dK []):=by rw [ai nt.symm,ab]
  have et:ba K (upd (upd H2 l (.dK [])) t (.tup [.str z,.ref l])) t [.str z,.ref l]:=ba.of ab;generalize upd (upd H2 l (.dK [])) t (.tup [.str z,.ref l])=H4 at n8 gY el et;refine⟨gY,bo (by rw [av];omega),ts++[t],ps++[(z,l)],by rw [aQ];rfl,by rw [bW,ht];rfl,by rw [aQ,hm,cY,ez];rfl,?_,?_,?_,⟨_,rfl⟩,?_,ab⟩
  .exact fN (Paired.gS w5 λt' h' z=>aR gY (n8.tup z)) (aR gY et)
  .intro p' lX;rcases aX.mp lX with h | h
   .obtain⟨a1,a2,a3⟩:=hl p' h;exact⟨by rw [ai a3];exact n8 _ _ a1,a2,a3⟩
   rw [bH.mp h];exact⟨by rw [ai Kj];exact el,sm.free oy,Kj⟩
  .rw [aQ];refine iJ.mpr ⟨hn,by simp,λa ha b hb e=>?_⟩;rw [nX,bH] at hb;obtain⟨p',lX,rfl⟩:=cM.mp ha;have:=(hl p' lX).1;rw [e,hb] at this;rw [show H2 l=none from oy] at this;cases this
  intro b o hb;rw [ai (λz=>by rw [z,hD] at hb;cases hb)];exact n8 _ _ (sm b o hb)
 obtain⟨ts,ps,rfl,ht,hm,w5,hl,hn,_,sm,hd⟩:=h;rw [av,dB] at hm;exact q ts ps H2 sm hd hm w5 hl hn
def gP {K:aY}{H:Hp}{D a C dx:Addr}{xs:List V}{fs:List (Str×V)}{o:HO}(hD:H D=some (.ins C dx fs))(h:ba K H a xs):ba K (upd H D o) a xs:=by
 rcases h with (h | ⟨u,h⟩) | h
 .exact .inl (.inl (by rw [ai (λz=>by rw [z,hD] at h;cases h)];exact h))
 .exact .inl (.inr ⟨u,by rw [ai (λz=>by rw [z,hD] at h;cases h)];exact h⟩)
 exact .inr h
def xx {K:aY}{H:Hp}{R D:Addr}{rs:List Addr}{es:List (Str×Nat)}{σ:St}{x1 x2:Str}{Qp:Hp->Prop}(hR:aD K H R (rs.map V.ref))(cK:Paired (λt (e:Str×Nat)=>ba K H t [.str e.1,.int (e.2:Int)]) rs es)(bM:es.length<=1000)(hD:H D=none)
  (q:∀ts H2,aC H H2->H2 D=some (.lst (ts.map V.ref))->Paired (λt h=>ba K H2 t [.str h,.bl true]) ts (es.map (·.1))->Qp H2) :
  ∃W:Nat->Nat->List V->St->Hp->Prop,(∃m,W 0 m [] (eM [x1,x2] [] σ) (upd H D (.lst []))) /\
 ∀i m ys σ' H,W i m ys σ' H->((kW K R).stop i H/\Qp H)\/((kW K R).go i H/\∃m',m' < m/\∀x H',(kW K R).mi i H x H'->Cd K 2 (j4 (eJ 0) (j4 (eJ 1) E5)) x σ' H' λσ2 H2=>iM σ2 H2 λb H3 =>
  if b=true then sk (fZ (gF 0) (fZ (tC (.bl true)) pq)) σ2 H3 λy H4=>H4 D=some (.lst ys)/\ys.length < sizeLine/\W (i+1) m' (ys++[y]) σ2 (upd H4 D (.lst (ys++[y]))) else W (i+1) m' ys σ2 H3):=by
 have ll:=bK cK;refine bq (xs:=rs.map V.ref) (λi ys σ2 H2=>∃ts:List Addr,ys=ts.map V.ref/\ts.length=i/\Paired (λt h=>ba K H2 t [.str h,.bl true]) ts ((es.take i).map (·.1))/\(∃y0 y1,σ2=[y0,y1])/\aC H H2/\H2 D=some (.lst ys))
  ⟨[],rfl,rfl,.nil,⟨none,none,rfl⟩,ae hD _,ab⟩ (λi ys σ2 H2 _ h=>?_) (λi x ys σ2 H2 ex h=>?_) (λys σ2 H2 h=>?_)
 .obtain⟨_,_,_,_,_,sm,_⟩:=h;exact sm.seq hR
 .obtain⟨ts,rfl,ht,hp,⟨y0,y1,rfl⟩,sm,hd⟩:=h;rw [aZ] at ex;obtain⟨r,er,rfl⟩:=b_.mp ex;have lr:=(bx.mp er).1;obtain⟨ru,e1⟩:∃ru,es[i]?=some ru:=⟨es[i]'∅,dw ∅⟩;obtain⟨r',Lj,v1⟩:=Paired.at_ cK i ru e1;rw [er] at Lj;cases Lj;have li:=(bx.mp e1).1;refine⟨r,_,rfl,sm.tup v1,rfl,_,_,rfl,_,_,rfl,rfl,?_⟩;refine sD ?_;refine⟨_,rfl,lV,λt ij=>⟨?_,bo (by rw [av];omega),ts++[t],?_,?_,?_,⟨_,_,rfl⟩,?_,ab⟩⟩
  .rw [ai (aq hd ij)];exact hd
  .rw [aQ];rfl
  .rw [bW,ht];rfl
  .rw [cY,e1,aQ];have gY:upd H2 t (.tup [.str ru.1,.bl true]) D=some (.lst (ts.map V.ref)):=by rw [ai (aq hd ij)];exact hd
   exact fN (Paired.gS hp λt' h' z=>aR gY ((ae ij _).tup z)) (aR gY (ba.of ab))
  intro b o hb;rw [ai (λz=>by rw [z,hD] at hb;cases hb)];exact ae ij _ _ _ (sm b o hb)
 obtain⟨ts,rfl,ht,hp,_,sm,hd⟩:=h;rw [av,ll,dB] at hp;exact q ts H2 sm hd hp
end L2
namespace M11
open PySem L2
def vZ.sub {aa:List aB}{names:List Str}{b:Str->Bool}{cI:List Be}(h:vZ aa names b cI):∀q∈vU cI,q.1∈aa.map (·.1)/\q.2∈aa.flatMap (·.2):=by
 induction h with
 | nil=>intro q hq;cases hq
 | @snoc cI k j ru z wd hb er ez _ hw _ ih =>
  intro q hq;unfold vU at hq;rw [aQ] at hq;rcases aX.mp hq with hq | hq
  .exact ih q hq
  rw [nX,bH] at hq;rw [hq];have hm:=cv er;refine⟨iK hm,?_⟩;unfold pj at hw
  split at hw
  .exact(ih (z,wd) (zN.mp hw)).2
  rw [bH.mp hw];exact qh.mpr ⟨ru,hm,cv ez⟩
def vZ.nd {aa:List aB}{names:List Str}{b:Str->Bool}{cI:List Be}(h:vZ aa names b cI):(vU cI).Nodup:=by
 induction h with
 | nil=>exact l_
 | @snoc cI k j ru z wd hb er ez _ hw hn ih =>
  unfold vU;rw [aQ];refine iJ.mpr ⟨ih,by simp,λx hx y hy e=>?_⟩;rw [nX,bH] at hy;rw [e,hy] at hx;exact hn hx
theorem wD (m:List Str):∀l:List Str,(l.flatMap λn=>m.map λwd=>(n,wd)).length=l.length * m.length
 | []=>by simp
 | n::l=>by
  rw [List.flatMap_cons,bW,wD m l,av,bV,Nat.add_mul];omega
def vZ.len {aa:List aB}{names:List Str}{b:Str->Bool}{cI:List Be}(h:vZ aa names b cI)(hl:aa.length<=100)(h8:∀ru∈aa,ru.2.length<=8):cI.length<=80000:=by
 have h1:=gX (vU cI) ((aa.map (·.1)).flatMap λn=>(aa.flatMap (·.2)).map λwd=>(n,wd)) h.nd λq hq=>by
  obtain⟨a,c⟩:=h.sub q hq;exact qh.mpr ⟨q.1,a,cM.mpr ⟨q.2,c,rfl⟩⟩
 rw [wD] at h1;have h2:=gu.iX aa 100 hl h8;unfold vU at h1;rw [av,av] at h1;have h3:aa.length * (aa.flatMap (·.2)).length<=100 * 800:=Nat.mul_le_mul hl h2;omega
def Ii (aa:List aB) (names:List Str)(b:Str->Bool) (n:Nat)(cI:List Be):Prop:=∀k ru,k < n->aa[k]?=some ru->∀j z,j < Cf b ru.2->ru.2[j]?=some z->∀wd∈pj names cI z,(ru.1,wd)∈vU cI
end M11
namespace gu
open PySem L2 M11
section
def AA (K:aY)(C:Addr):Sp:=λvs H Q _=>∃(H0:Hp)(a dx R:Addr)(rs:List Addr)(aa:List aB),vs=[.ref a,.ref R]/\aC H0 H/\H0 a=none/\H a=some (.ins C dx [])/\aD K H0 R (rs.map V.ref)/\aS K H0 rs aa/\aa.length<=100/\(∀ru∈aa,ru.2.length<=8) /\
 ∀(e d bg:Addr)(kE:List (aN×V))(bw:List (Str×Nat))(ps:List (Str×Addr))(cI:List Be)(H':Hp),sM K C H0 H' a e d bg kE bw ps cI->ps.map (·.1)=hd aa->vY aa bw->xO aa aa.length bw->(∀z,(bu kE (Sum.inr z)).isSome=decide (z∈bw.map (·.1))) ->
  vZ aa (hd aa) (λz=>decide (z∈bw.map (·.1))) cI->Ii aa (hd aa) (λz=>decide (z∈bw.map (·.1))) aa.length cI->Q .d5 H'
def mC:aK ["self","rules","number","many","rule"] ["self","rules"] (ax yJ):=iI rfl rfl rfl rfl nofun
def Ej {C fF:Addr}{XS:FuncData}(F:ig K "__init__" "BeginTable.__init__" yJ f fd)(T:Txt mg)(B:BC K C)(GE:aH P w K mg base 1 "found_empties" ["rules"] (n6 K))(GH:aH P w K mg base 1 "heads_of" ["rules"] (j8 K))
  (FF:bS P w K mg base fu 2 fF XS ["self","number","rule"] (Dj K C))(MF:Meth K C "find_begins" fF)(BF:Binds K XS ["self","number","rule"] []):bS P w K mg base fu 3 f fd ["self","rules"] (AA K C):=by
 refine F.ok mC (λvs H Q E h=>?_) (λeB A outer s H vs Q E hr h=>?_)
 .obtain⟨H0,a,dx,R,rs,aa,rfl,_⟩:=h;rfl
 obtain⟨H0,a,dx,R,rs,aa,rfl,s0,f0,ea,hR,cK,bM,h8,q⟩:=h;refine⟨_,ak (gb (pv 0) (bI (GE.mono (by decide:1<=2)) hr rfl (af (pv 1) aj)) rfl)
  (ak (gb (pv 0) (a8 (dY rfl) rfl T.vV fJ (af (bL ["name","number"] [] rfl (a9 (dO (pv 0) rfl)) (a_ rfl rfl) nofun rfl nofun
   (λ_ _ _ _ _=>je (n:=2) K rfl (aF (au (i:=0) (show (["name","number"]:List Str).Nodup by decide +kernel) rfl (bJ rfl)) (aF (au (i:=1) (show (["name","number"]:List Str).Nodup by decide +kernel) rfl (bJ rfl)) cy))) (λ_ _ _ _ _=>cb)
   (λ_ _ _ _ _=>bY (af (pv 0) (af eV aj)))) aj)) rfl)
  (ak (gb (pv 0) (bA aj) rfl)
  (ak (gb (pv 0) (a8 (dY rfl) rfl T.vV fJ (af (bL ["name"] [] rfl (a9 (bI (GH.mono (by decide:1<=2)) hr rfl (af (pv 1) aj))) (a_ rfl rfl) nofun rfl nofun
   (λ_ _ _ _ _=>au (i:=0) (show (["name"]:List Str).Nodup by decide +kernel) rfl (bJ rfl)) (λ_ _ _ _ _=>cb)
   (λ_ _ _ _ _=>bY (af (pv 0) (af gi aj)))) aj)) rfl)
  (ak (aE (i:=3) mC.nd rfl (bJ rfl) (qJ lh ao))
  (ar (iP cP (bB mP (pv 3) (aV bD rfl T.len fw (af (dO (pv 0) rfl) aj)) (cf _))
   (ak (aE (i:=3) mC.nd rfl (bJ rfl) (aV bD rfl T.len fw (af (dO (pv 0) rfl) aj)))
   (ar (cw cP rfl (mK rfl T.F6 (af (pv 1) aj)) (eU rfl (aF (au (i:=2) mC.nd rfl (bJ rfl)) (aF (au (i:=4) mC.nd rfl (bJ rfl)) cy)))
    (ar (cx (AM (pv 0) B.cls MF FF hr BF .nil oZ (af (pv 2) (af (pv 4) aj)))))))))))))),?_⟩
 nofun
 have ll:=bK cK;refine⟨_,rfl,R,rs,aa,rfl,s0.seq hR,cK.same s0,∅,h8,λD1 Bp bw H1 f1 s1 e1 w1 emp Fd=>?_⟩;have UZ:=s1 _ _ ea;refine⟨_,rfl,a,C,dx,[],rfl,UZ,B.cls,B.a1,(by show 0 < 1000;decide),?_⟩;have e2:upd H1 a (.ins C dx (dN "empties" (.ref D1) [])) D1=some (.lst (Bp.map V.ref)):=by rw [ai (λz=>by rw [z,UZ] at e1;cases e1)];exact e1
 have w2:oM K (upd H1 a (.ins C dx (dN "empties" (.ref D1) []))) Bp bw:=w1.keep λ_ _ z=>gP UZ z;have JS:aC H0 (upd H1 a (.ins C dx (dN "empties" (.ref D1) []))):=λc o hc=>by rw [ai (λz=>by rw [z,f0] at hc;cases hc)];exact s1 _ _ (s0 c o hc)
 have O4:upd H1 a (.ins C dx (dN "empties" (.ref D1) [])) a=some (.ins C dx (dN "empties" (.ref D1) [])):=ab;generalize upd H1 a (.ins C dx (dN "empties" (.ref D1) []))=H2 at e2 w2 JS O4;have lets:=emp.len;refine⟨_,rfl,a,C,dx,_,_,rfl,O4,B.cls,B.a1,rfl,D1,rfl,⟨_,aD.of e2⟩,λD2 ic=>xx (aD.of e2) w2 ∅ ic λuP H3 s3 e3 p3=>?_⟩;have kp:Paired (λt (kv:aN×V)=>ba K H3 t [kV kv.1,kv.2]) uP ((bw.map (·.1)).map λh=>((Sum.inr h:aN),V.bl true)):=cQ p3 λ_ _ z=>z;refine⟨D2,uP,_,rfl,e3,kp,λe he=>?_⟩;have BY:∀z,(bu (cT ((bw.map (·.1)).map λh=>((Sum.inr h:aN),V.bl true)) []) (Sum.inr z)).isSome=decide (z∈bw.map (·.1)):=λz=>by
  rw [qt];by_cases c:z∈bw.map (·.1)
  .rw [az c,fO c];rfl
  rw [ay c,gy c];rfl
 generalize cT ((bw.map (·.1)).map λh=>((Sum.inr h:aN),V.bl true)) []=kE at BY;have Wg:=(JS.trans s3).trans (ae he (.dK kE));have Lq:=ae he (.dK kE) _ _ (s3 _ _ O4);have QF:upd H3 e (.dK kE) e=some (.dK kE):=ab;have JP:aC H2 (upd H3 e (.dK kE)):=s3.trans (ae he (.dK kE));generalize upd H3 e (.dK kE)=H4 at Wg Lq QF JP;have Vi:=JP _ _ e2;have Zg:oM K H4 Bp bw:=w2.keep λ_ _ z=>JP.tup z;refine⟨_,rfl,a,C,dx,_,rfl,Lq,B.cls,B.a2,(by show 1 < 1000;decide),?_⟩;generalize T6:dN "empty" (.ref e) (dN "empties" (.ref D1) [])=I8;have O3:upd H4 a (.ins C dx I8) e=some (.dK kE):=by rw [ai (λz=>by rw [z,Lq] at QF;cases QF)];exact QF
 have RF:aC H0 (upd H4 a (.ins C dx I8)):=λc o hc=>by rw [ai (λz=>by rw [z,f0] at hc;cases hc)];exact Wg c o hc
 have Yq:upd H4 a (.ins C dx I8) a=some (.ins C dx I8):=ab;have Vh:upd H4 a (.ins C dx I8) D1=some (.lst (Bp.map V.ref)):=by rw [ai (λz=>by rw [z,Lq] at Vi;cases Vi)];exact Vi
 have VW:oM K (upd H4 a (.ins C dx I8)) Bp bw:=Zg.keep λ_ _ z=>gP Lq z;generalize upd H4 a (.ins C dx I8)=H5 at O3 RF Yq Vh VW;refine⟨sj,λbg K1=>?_⟩;have fbg:H0 bg=none:=RF.free K1;have QG:upd H5 bg (.lst []) bg=some (.lst []):=ab;have Wf:=RF.trans (ae K1 (.lst []));have Lo:=ae K1 (.lst []) _ _ O3;have Mt:=ae K1 (.lst []) _ _ Yq;have Si:D1≠bg:=aq Vh K1;have QN:=ae K1 (.lst []) _ _ Vh;have VU:oM K (upd H5 bg (.lst [])) Bp bw:=VW.keep λ_ _ z=>(ae K1 (.lst [])).tup z;generalize upd H5 bg (.lst [])=H6 at QG Wf Lo Mt QN VU;refine⟨_,rfl,a,C,dx,_,rfl,Mt,B.cls,B.a3,(by rw [<-T6];show 2 < 1000;decide),?_⟩;generalize Xm:dN "begins" (.ref bg) I8=HJ;have Ln:upd H6 a (.ins C dx HJ) e=some (.dK kE):=by rw [ai (λz=>by rw [z,Mt] at Lo;cases Lo)];exact Lo
 have Yn:upd H6 a (.ins C dx HJ) bg=some (.lst []):=by rw [ai (λz=>by rw [z,Mt] at QG;cases QG)];exact QG
 have JR:aC H0 (upd H6 a (.ins C dx HJ)):=λc o hc=>by rw [ai (λz=>by rw [z,f0] at hc;cases hc)];exact Wf c o hc
 have Yp:upd H6 a (.ins C dx HJ) a=some (.ins C dx HJ):=ab;have YT:upd H6 a (.ins C dx HJ) D1=some (.lst (Bp.map V.ref)):=by rw [ai (λz=>by rw [z,Mt] at QN;cases QN)];exact QN
 have VT:oM K (upd H6 a (.ins C dx HJ)) Bp bw:=VU.keep λ_ _ z=>gP Mt z;generalize upd H6 a (.ins C dx HJ)=H7 at Ln Yn JR Yp YT VT;refine⟨_,rfl,R,rs,aa,rfl,JR.seq hR,cK.same JR,∅,λD4 H8 f8 s8 e8=>?_⟩;have Ks:=iA (aa.map (·.1)) [];simp only [jq,av] at Ks;refine⟨D4,rfl,⟨_,aD.of e8⟩,λD5 I0=>xy (aD.of e8) ∅ I0 λts ps H9 s9 e9 m9 p9 l9 n9=>?_⟩;have n1:(ps.map (·.1)).Nodup:=by rw [m9];exact oF _ l_
 have EF:Paired (λt (kv:aN×V)=>ba K H9 t [kV kv.1,kv.2]) ts (ps.map i4):=cQ p9 λ_ _ z=>z;refine⟨D5,ts,_,rfl,e9,EF,λd sh=>?_⟩;have OZ:cT (ps.map i4) []=ps.map i4:=m_ _ [] (by
  rw [oP,mT];exact vp n1)
 rw [OZ];have LO:=s8.trans s9;have sd:=ae sh (.dK (ps.map i4));have yM:=LO.trans sd;have pD:upd H9 d (.dK (ps.map i4)) d=some (.dK (ps.map i4)):=ab;have Kr:∀p∈ps,upd H9 d (.dK (ps.map i4)) p.2=some (.dK [])/\p.2≠d:=λp hp=>⟨sd _ _ (l9 p hp).1,λz=>by have:=(l9 p hp).1;rw [z,sh] at this;cases this⟩;generalize upd H9 d (.dK (ps.map i4))=pG at yM pD Kr;have zU:=yM _ _ Yp;have vH:=yM _ _ Ln;have Lp:=yM _ _ Yn;have RG:=JR.trans yM;have Lv:=yM _ _ YT;have Q8:oM K pG Bp bw:=VT.keep λ_ _ z=>yM.tup z;refine⟨_,rfl,a,C,dx,_,rfl,zU,B.cls,B.a4,(by rw [<-Xm,<-T6];show 3 < 1000;decide),?_⟩;have fp:∀p∈ps,H0 p.2=none/\p.2≠e:=λp hp=>by
  have XE:H8 p.2=none:=(l9 p hp).2.1;refine⟨(JR.trans s8).free XE,λz=>?_⟩;have:=s8 _ _ Ln;rw [<-z,XE] at this;cases this
 have hfs:∃fs,dN "firsts" (.ref d) HJ=fs/\fs.lookup ("empty":Str)=some (.ref e)/\fs.lookup ("begins":Str)=some (.ref bg)/\fs.lookup ("firsts":Str)=some (.ref d)/\fs.lookup ("find_begins":Str)=none/\fs.lookup ("words_of_part":Str)=none/\fs.lookup ("empties":Str)=some (.ref D1):=by
  refine⟨_,rfl,?_⟩;rw [<-Xm,<-T6];refine⟨?_,?_,?_,?_,?_,?_⟩ <;> rfl
 obtain⟨fs,efs,k1,k2,k3,k4,k5,k6⟩:=hfs;rw [efs];have CQ:sM K C H0 (upd pG a (.ins C dx fs)) a e d bg kE bw ps []:=by
  refine⟨λc o hc=>by rw [ai (λz=>by rw [z,f0] at hc;cases hc)];exact RG c o hc,⟨dx,fs,ab,k1,k2,k3,k4,k5⟩,?_,?_,n1,n9,λp hp=>⟨⟨[],?_,rfl⟩,(fp p hp).1,(fp p hp).2,(Kr p hp).2⟩,⟨[],?_,.nil⟩,fbg,⟨D1,Bp,⟨dx,fs,ab,k6⟩,by rw [ai (λz=>by rw [z,zU] at Lv;cases Lv)];exact Lv,Q8.keep λ_ _ z=>gP zU z,Si⟩⟩
  .rw [ai (λz=>by rw [z,zU] at vH;cases vH)];exact vH
  .rw [ai (λz=>by rw [z,zU] at pD;cases pD)];exact pD
  .have:=(Kr p hp).1;rw [ai (λz=>by rw [z,zU] at this;cases this)];exact this
  rw [ai (λz=>by rw [z,zU] at Lp;cases Lp)];exact Lp
 generalize upd pG a (.ins C dx fs)=si at CQ;have eb:(λz=>(bu kE (Sum.inr z)).isSome)=λz=>decide (z∈bw.map (·.1)):=funext BY;refine⟨1,rfl,?_⟩;refine⟨λmm σ nE=>∃(cI:List Be) (many:Int)(y2 y4:Option V),σ=[aG a,aG R,y2,some (.int many),y4]/\sM K C H0 nE a e d bg kE bw ps cI/\vZ aa (hd aa) (λz=>decide (z∈bw.map (·.1))) cI/\-1<=many/\many<=cI.length /\
  (many=cI.length->Ii aa (hd aa) (λz=>decide (z∈bw.map (·.1))) aa.length cI)/\(mm:Int)=80001 - many,⟨80002,[],-1,none,none,rfl,CQ,.nil,∅,by simp,by simp,∅⟩,?_⟩
 rintro mm σ nE ⟨cI,many,y2,y4,rfl,Ga,Lz,b1,b2,cl,em⟩;obtain⟨QM,sE,q1,q2,q3,q4,q5,q6⟩:=Ga.ia;obtain⟨tb,Qm,EZ⟩:=Ga.lb;have lb:=bK EZ;have Kw:=Lz.len bM h8;refine⟨_,rfl,_,rfl,a,C,QM,sE,_,rfl,q1,B.cls,B.a3,q3,bg,_,rfl,.inl (aD.of Qm),_,_,rfl,rfl,_,rfl,?_⟩;refine dA (λc=>?_) (λc=>?_)
 .have c':=dF c;rw [av,lb] at c';refine⟨λσ vX=>∃(dS:List Be)(y2 y4:Option V),σ=[aG a,aG R,y2,some (.int (cI.length:Int)),y4]/\sM K C H0 vX a e d bg kE bw ps dS/\vZ aa (hd aa) (λz=>decide (z∈bw.map (·.1))) dS/\cI.length<=dS.length /\
   (dS.length=cI.length->dS=cI/\Ii aa (hd aa) (λz=>decide (z∈bw.map (·.1))) aa.length cI),?_,?_⟩
  .rintro σ vX ⟨dS,y2,y4,rfl,Fw,Cw,Sy,HR⟩;have:=Cw.len bM h8;refine⟨(80001 - cI.length:Int).toNat,∅,dS,_,_,_,rfl,Fw,Cw,∅,∅,λz=>?_,∅⟩;obtain⟨HM,Cn⟩:=HR ∅;rw [HM];exact Cn
  refine⟨_,rfl,a,C,QM,sE,_,rfl,q1,B.cls,B.a3,q3,bg,_,rfl,.inl (aD.of Qm),?_⟩;rw [av,lb];refine⟨_,rfl,R,_,rfl,Ga.sm.seq hR,?_⟩;refine j5 (xs:=rs.map V.ref) (λi σ vX=>∃(dS:List Be)(y2 y4:Option V),σ=[aG a,aG R,y2,some (.int (cI.length:Int)),y4]/\sM K C H0 vX a e d bg kE bw ps dS/\vZ aa (hd aa) (λz=>decide (z∈bw.map (·.1))) dS/\cI.length<=dS.length /\
   (dS.length=cI.length->dS=cI/\Ii aa (hd aa) (λz=>decide (z∈bw.map (·.1))) i cI)) ⟨cI,_,_,rfl,Ga,Lz,aL _,λ_=>⟨rfl,λk ru hk=>by omega⟩⟩ ?_ ?_ ?_
  .rintro i σ vX _ ⟨dS,y2,y4,rfl,Fw,_⟩;exact Fw.sm.seq hR
  .rintro i x σ vX t ex ⟨dS,y2,y4,rfl,Fw,Cw,Sy,HR⟩ ht
   ac_nf0
   rw [aZ] at ex;obtain⟨r,er,rfl⟩:=b_.mp ex;obtain⟨ru,pC,rv⟩:=cK.get er;have ox:=cv pC;have Pn:=Fw.same (ae ht (.tup [.int (i:Int),.ref r]));have N7:ba K (upd vX t (.tup [.int (i:Int),.ref r])) t [.int (i:Int),.ref r]:=ba.of ab;generalize upd vX t (.tup [.int (i:Int),.ref r])=Zb at Pn N7;obtain⟨dx4,Mj,r1,r2,r3,r4,r5,r6⟩:=Pn.ia;refine⟨t,_,rfl,N7,rfl,_,_,rfl,_,_,rfl,rfl,?_⟩;refine⟨_,rfl,a,dx4,Mj,rfl,r1,r5,_,rfl,_,rfl,H0,a,e,d,bg,r,kE,bw,ps,dS,i,ru,aa,rfl,Pn,rv,pC,h8 ru ox,by rw [m9];exact(gJ _ _ _).mpr (.inr (iK ox)),?_,?_,?_⟩
   .intro vM AY;have:=AY.len bM h8;omega
   .rw [m9,eb];exact Cw
   rw [m9,eb];intro Vs H15 VJ Vr l15 Vo;refine⟨Vs,_,_,rfl,VJ,Vr,∅,λhl3=>?_⟩;obtain⟨x1,x2⟩:=HR ∅;obtain⟨x3,x4⟩:=Vo ∅;refine⟨x3.trans x1,λk rZ hk UJ j z hj ez wd hw=>?_⟩;by_cases ck:k < i
   .exact x2 k rZ ck UJ j z hj ez wd hw
   have:k=i:=by omega
   subst this;rw [pC] at UJ;cases UJ;rw [<-x1] at hw ⊢;exact x4 j z hj ez wd hw
  rintro σ vX ⟨dS,y2,y4,rfl,Fw,Cw,Sy,HR⟩;rw [av,ll] at HR;exact⟨dS,_,_,rfl,Fw,Cw,Sy,HR⟩
 have c':=of_decide_eq_false (kJ.mpr c);rw [av,lb] at c';exact q e d bg kE bw ps cI nE Ga m9 emp Fd BY Lz (cl ∅)
end
end gu
namespace L2
open PySem PySem.W
section
variable {X:Cx}{ah:List (Addr×Obj)}{σ:St}{H:Hp}{s:Shared}{a:Addr}{kvs:List (aN×V)}{k:aN}{u:Value}{A:Around}{E:Value->Shared->Prop}
def Ls {z:V}{r:Value}{Q:Value->Shared->Prop}(I:Inv X ah σ H s)(e:H a=some (.dK kvs))(hl:kvs.length < sizeLine)(ry:RelV (kV k) u)(rz:RelV z r)
  (h1:∀v w' s',bu kvs k=some v->Inv X ah σ H s'->RelV v w'->Q w' s')(h2:bu kvs k=none->∀s',Inv X ah σ (upd H a (.dK (bP kvs k z))) s'->Q r s') :
  wpAny (model X.prog X.w) A (call (.builtin "dict.setdefault") [.ref a,u,r]) Q E s:=by
 obtain⟨zl,hd,vs,rel,dd⟩:=xn I.bU e;refine call_meetsIn PySem.F.slot_dict_setdefault dd.typeIs PySem.F.entry_dict_setdefault (PySem.F.args_dict_setdefault_3 _ _ _) (kt_meets_setdefault (a7 X.prog X.w) a (kP ry) hd r)
  ⟨vs,dd,by rw [<-rel.length];exact zl,λv hv=>?_,λhn h' F7 hs=>?_⟩
 .have rv:=rel.val k;rw [hv] at rv;cases e2:bu kvs k with
  | none=>rw [e2] at rv;cases rv
  | some x=>rw [e2] at rv;exact h1 x v _ e2 (I.tok _) rv
 have IU:bu kvs k=none:=by
  have rv:=rel.val k;rw [hn] at rv;cases e2:bu kvs k with
  | none=>rfl
  | some x=>rw [e2] at rv;cases rv
 have he:∃q,h'.get? a=some q:=let ⟨q,_,_,hq,_⟩:=F7;⟨q,hq⟩;exact h2 IU _ (pU I (by rw [e];exact True.intro) hs he (rq (by have:=eW kvs k z;omega) hd (rel.put k rz) F7))
end
section
variable {X:Cx}{o e f:Expr}{apos fE:Pos}{td ty tx:TE}
def Jz (td ty tx:TE):TE:=λσ H Q=>td σ H λx H1=>∃a,x=.ref a/\QV H1 a/\ty σ H1 λy H2=>tx σ H2 λz H3=>∃kvs k,H3 a=some (.dK kvs)/\y=kV k/\kvs.length < sizeLine /\
 (∀v,bu kvs k=some v->Q v H3)/\(bu kvs k=none->Q z (upd H3 a (.dK (bP kvs k z))))
def DP (ho:PE X o td)(he:PE X e ty)(hf:PE X f tx)(m:M2 X o "setdefault" apos e f fE):PE X (.Call (.Attribute o "setdefault" apos) [e,f] [] fE) (Jz td ty tx):=by
 intro ah s σ H Q I h;refine wpAny_Call_method m.base m.Qv m.line ya PySem.F.slot_dict_setdefault PySem.F.type_dict_setdefault (cS (ho ah s σ H _ I h) λu s1 bh=>?_);obtain⟨x,H1,I1,rx,a,ex,d,q1⟩:=bh;subst ex;obtain rfl:u=Value.ref a:=rx;obtain⟨t1,t2,_⟩:=zB I1 d;refine⟨t1,t2,?_⟩;rw [m.trees];refine uD rfl (uw (nS (cS (he ah s1 σ H1 _ I1 q1) λiv s2 ⟨y,H2,I2,ry,q2⟩ =>
  nS (cS (hf ah s2 σ H2 _ I2 q2) λfv s3 ⟨z,H3,I3,rz,kvs,k,ea,ey,hl,q3,q4⟩=>Calls.spliced_nil ?_))))
 subst ey;exact Ls I3 ea hl ry rz (λv w' s4 l I4 yN=>⟨v,_,I4,yN,q3 v l⟩) λl s4 I4=>⟨z,_,I4,rz,q4 l⟩
end
end L2
namespace gu
open PySem L2 M11
section
def Nu {ps:List (Str×Addr)}(n1:(ps.map (·.1)).Nodup)(n2:(ps.map (·.2)).Nodup){p p':Str×Addr}(hp:p∈ps)(lX:p'∈ps)(z:p'≠p):p'.1≠p.1/\p'.2≠p.2:=by
 refine⟨λq=>z ?_,λq=>z ?_⟩
 .have w1:=gE ps n1 p' lX;have w2:=gE ps n1 p hp;rw [q,w2] at w1;injection w1 with w3;injection w3 with w4;exact Prod.ext q w4.symm
 obtain⟨i,hi,ei⟩:=oS.mp lX;obtain⟨j,hj,ej⟩:=oS.mp hp;have FY:i=j:=by
  refine(qg (xs:=ps.map (·.2)) (h₀:=by simpa using hi) (h₁:=by simpa using hj) n2).mp ?_;rw [nR,nR,ei,ej];exact q
 subst FY;exact ei.symm.trans ej
structure Gb (ps:List (Str×Addr))(st:Str->List Int)(H:Hp)(d:Addr):Prop where
 hd:H d=some (.dK (ps.map i4))
 n1:(ps.map (·.1)).Nodup
 n2:(ps.map (·.2)).Nodup
 lst:∀p∈ps,H p.2=some (.lst ((st p.1).map V.int))
def Gb.same {ps:List (Str×Addr)}{st:Str->List Int}{H H':Hp}{d:Addr}(h:Gb ps st H d)(s:aC H H'):Gb ps st H' d:=⟨s _ _ h.hd,h.n1,h.n2,λp hp=>s _ _ (h.lst p hp)⟩
def Bf (st:Str->List Int)(n:Str) (k:Int):Str->List Int:=λz=>if z=n then st z++[k] else st z
def Gb.more {ps:List (Str×Addr)}{st:Str->List Int}{H:Hp}{d:Addr}(h:Gb ps st H d){p:Str×Addr}(hp:p∈ps) (k:Int):Gb ps (Bf st p.1 k) (upd H p.2 (.lst ((st p.1).map V.int++[.int k]))) d:=by
 have a:=h.lst p hp;have nd:d≠p.2:=λz=>by have:=h.hd;rw [z,a] at this;cases this
 refine⟨by rw [ai nd];exact h.hd,h.n1,h.n2,λp' lX=>?_⟩;by_cases z:p'=p
 .rw [z,ab];have e1:Bf st p.1 k p.1=st p.1++[k]:=az rfl;rw [e1,aQ];rfl
 obtain⟨a1,a2⟩:=Nu h.n1 h.n2 hp lX z;have e1:Bf st p.1 k p'.1=st p'.1:=ay a1;rw [ai a2,e1];exact h.lst p' lX
def Dh (K:aY):Sp:=λvs H Q _=>∃(R:Addr)(rs:List Addr)(aa:List aB),vs=[.ref R]/\aD K H R (rs.map V.ref)/\aS K H rs aa/\aa.length<=1000 /\
 ∀(d:Addr)(ps:List (Str×Addr))(H':Hp),H d=none->aC H H'->Gb ps (λn=>nums aa n aa.length) H' d->ps.map (·.1)=hd aa->(∀p∈ps,H p.2=none)->Q (.ref d) H'
def uZ:aK ["rules","numbers","number","rule"] ["rules"] (ax Dw):=iI rfl rfl rfl rfl nofun
def Hi (F:ig K "numbers_by_name" "numbers_by_name" Dw f fd)(T:Txt mg)(GH:aH P w K mg base 1 "heads_of" ["rules"] (j8 K)):bS P w K mg base fu 2 f fd ["rules"] (Dh K):=by
 refine F.ok uZ (λvs H Q E h=>?_) (λeB A outer s H vs Q E hr h=>?_)
 .obtain⟨R,rs,aa,rfl,_⟩:=h;rfl
 obtain⟨R,rs,aa,rfl,hR,cK,bM,q⟩:=h;have hu:=gp hr;refine⟨_,ak (aE (i:=1) uZ.nd rfl (bJ rfl) (a8 (dY rfl) rfl T.vV fJ (af
   (bL ["name"] [] rfl (a9 (bI GH hr rfl (af (pv 0) aj))) (a_ rfl rfl) nofun rfl nofun
    (λ_ _ _ _ _=>au (i:=0) (show (["name"]:List Str).Nodup by decide +kernel) rfl (bJ rfl)) (λ_ _ _ _ _=>cb)
    (λ_ _ _ _ _=>bY (af (pv 0) (af (bA aj) aj)))) aj)))
  (ak (cw cP rfl (mK rfl T.F6 (af (pv 0) aj)) (eU rfl (aF (au (i:=2) uZ.nd rfl (bJ rfl)) (aF (au (i:=3) uZ.nd rfl (bJ rfl)) cy)))
   (ar (cx (di fQ gM gN bX (fc hu (pv 1) (aM b9 (pv 3) ao (λ_ _=>rfl)) (λ_ _=>rfl)) (af (pv 2) aj)))))
  (ar (bf (pv 1)))),?_⟩
 nofun
 have ll:=bK cK;refine⟨_,rfl,R,rs,aa,rfl,hR,cK,bM,λD2 H3 f3 s3 e3=>?_⟩;have Ks:=iA (aa.map (·.1)) [];simp only [jq,av] at Ks;refine⟨D2,rfl,⟨_,aD.of e3⟩,λD3 F3=>rF (aD.of e3) ∅ F3 λts ps H4 s4 e4 m4 p4 l4 n4=>?_⟩;have n1:(ps.map (·.1)).Nodup:=by rw [m4];exact oF _ l_
 have EF:Paired (λt (kv:aN×V)=>ba K H4 t [kV kv.1,kv.2]) ts (ps.map i4):=cQ p4 λ_ _ z=>z;refine⟨D3,ts,_,rfl,e4,EF,λd sh=>?_⟩;have OZ:cT (ps.map i4) []=ps.map i4:=m_ _ [] (by
  rw [oP,mT];exact vp n1)
 rw [OZ];have s5:=(s3.trans s4).trans (ae sh (.dK (ps.map i4)));have Bu:=ae sh (.dK (ps.map i4));have xX:H d=none:=(s3.trans s4).free sh;have S5:Gb ps (λn=>nums aa n 0) (upd H4 d (.dK (ps.map i4))) d:=⟨ab,n1,n4,λp hp=>Bu _ _ (l4 p hp).1⟩;have Ml:∀p∈ps,H p.2=none:=λp hp=>s3.free (l4 p hp).2.1;generalize upd H4 d (.dK (ps.map i4))=H5 at s5 S5;clear Bu;refine⟨_,rfl,R,_,rfl,s5.seq hR,?_⟩
 let z9:z_:=λi σ H6=>∃(y2 y3:Option V),σ=[aG R,aG d,y2,y3]/\aC H H6/\Gb ps (λn=>nums aa n i) H6 d
 refine j5 (xs:=rs.map V.ref) z9 ⟨none,none,rfl,s5,S5⟩ ?_ ?_ ?_
 .rintro i σ H6 _ ⟨y2,y3,rfl,s6,_⟩;exact s6.seq hR
 .rintro i x σ H6 t ex ⟨y2,y3,rfl,s6,S6⟩ ht
  ac_nf0
  rw [aZ] at ex;obtain⟨r,er,rfl⟩:=b_.mp ex;obtain⟨ru,pC,p,v1,v2⟩:=cK.get er;have ox:=cv pC;have li:=(bx.mp pC).1;have FP:=ae ht (.tup [.int (i:Int),.ref r]);have IT:ba K (upd H6 t (.tup [.int (i:Int),.ref r])) t [.int (i:Int),.ref r]:=ba.of ab;have s7:=s6.trans FP;have S7:=S6.same FP;generalize upd H6 t (.tup [.int (i:Int),.ref r])=H7 at IT s7 S7;obtain⟨pn,w6,xY⟩:∃pn∈ps,pn.1=ru.1:=by
   have:ru.1∈ps.map (·.1):=by rw [m4];exact(gJ _ _ _).mpr (.inr (iK ox))
   obtain⟨pn,a,b⟩:=cM.mp this;exact⟨pn,a,b⟩
  have an:=S7.lst pn w6;have vn:=gE ps n1 pn w6;rw [xY] at vn;have hg:cE H7 d (.str ru.1) (some (.ref pn.2)):=by
   have:=cE.k (k:=Sum.inr ru.1) S7.hd;rw [vn] at this;exact this
  have ln:=wN aa pn.1 i;refine⟨t,_,rfl,IT,rfl,_,_,rfl,_,_,rfl,rfl,?_⟩;refine⟨_,rfl,_,rfl,r,_,_,_,rfl,rfl,s7.tup v1,rfl,d,_,rfl,hg,.inl ⟨rfl,_,aD.of an⟩,_,rfl,pn.2,_,_,rfl,rfl,an,bo (by rw [av];omega),?_⟩;have S8:=S7.more w6 (i:Int);refine⟨_,_,rfl,λb o hb=>by rw [ai (λz=>by rw [z,Ml pn w6] at hb;cases hb)];exact s7 b o hb,S8.hd,S8.n1,S8.n2,λp' lX=>?_⟩;have:=S8.lst p' lX;rw [this]
  congr 3
  unfold Bf;rw [BN];by_cases c:p'.1=pn.1
  .rw [az c,az];unfold LV;rw [pC,c,xY];simp
  rw [ay c,ay,fh];unfold LV;rw [pC];intro z;have z2:=dF z;injection z2 with z3;exact c (by rw [xY];exact z3.symm)
 rintro σ H6 ⟨y2,y3,rfl,s6,S6⟩;rw [av,ll] at S6;exact⟨_,rfl,q d ps H6 xX s6 S6 m4 Ml⟩
def Iq (K:aY):Sp:=λvs H Q _=>∃(R:Addr)(rs:List Addr)(aa:List aB),vs=[.ref R]/\aD K H R (rs.map V.ref)/\aS K H rs aa/\aa.length<=1000/\(∀ru∈aa,ru.2.length<=8) /\
 ∀(d:Addr)(H':Hp),H d=none->aC H H'->Q (.ref d) H'
structure CO (H0 H:Hp)(d:Addr)(kvs:List (aN×V)) (n:Nat):Prop where
 hd:H d=some (.dK kvs)
 ln:kvs.length<=n
 lst:∀kv∈kvs,∃a xs,kv.2=.ref a/\H a=some (.lst xs)/\H0 a=none/\xs.length<=n
def CO.same {H0 H H':Hp}{d:Addr}{kvs:List (aN×V)}{n:Nat}(h:CO H0 H d kvs n)(s:aC H H'):CO H0 H' d kvs n:=⟨s _ _ h.hd,h.ln,λkv hk=>let ⟨a,xs,e1,e2,e3,e4⟩:=h.lst kv hk;⟨a,xs,e1,s _ _ e2,e3,e4⟩⟩
def CO.more {H0 H:Hp}{d a:Addr}{kvs:List (aN×V)}{n:Nat}{xs:List V}{y:V}(h:CO H0 H d kvs (n+1))(ha:H a=some (.lst xs))(lx:xs.length<=n)(l2:∀kv∈kvs,∃a xs,kv.2=.ref a/\H a=some (.lst xs)/\H0 a=none/\xs.length<=n):CO H0 (upd H a (.lst (xs++[y]))) d kvs (n+1):=by
 have nd:d≠a:=λz=>by have:=h.hd;rw [z,ha] at this;cases this
 refine⟨by rw [ai nd];exact h.hd,h.ln,λkv hk=>?_⟩;obtain⟨b,ys,e1,e2,e3,e4⟩:=l2 kv hk;by_cases c:b=a
 .exact⟨b,xs++[y],e1,by rw [c,ab],e3,by rw [bW];simp;omega⟩
 exact⟨b,ys,e1,by rw [ai c];exact e2,e3,∅⟩
def Js {kvs:List (aN×V)}{k:aN}{v:V}(h:bu kvs k=some v):∃kv∈kvs,kv.2=v:=by
 unfold bu at h;obtain⟨kv,e1,e2⟩:=b_.mp h;exact⟨kv,List.mem_of_find?_eq_some e1,e2⟩
def s_:aK ["rules","standings","number","rule","place","part"] ["rules"] (ax JL):=iI rfl rfl rfl rfl nofun
def Ke (F:ig K "standings_by_part" "standings_by_part" JL f fd)(T:Txt mg):bS P w K mg base fu 1 f fd ["rules"] (Iq K):=by
 refine F.ok s_ (λvs H Q E h=>?_) (λeB A outer s H vs Q E hr h=>?_)
 .obtain⟨R,rs,aa,rfl,_⟩:=h;rfl
 obtain⟨R,rs,aa,rfl,hR,cK,bM,h8,q⟩:=h;have hu:=gp hr;refine⟨_,ak (aE (i:=1) s_.nd rfl (bJ rfl) gi)
  (ak (cw cP rfl (mK rfl T.F6 (af (pv 0) aj)) (eU rfl (aF (au (i:=2) s_.nd rfl (bJ rfl)) (aF (au (i:=3) s_.nd rfl (bJ rfl)) cy)))
   (ar (cw cP rfl (mJ rfl T.F6 (af (aM b9 (pv 3) ao (λ_ _=>rfl)) aj)) (eU rfl (aF (au (i:=4) s_.nd rfl (bJ rfl)) (aF (au (i:=5) s_.nd rfl (bJ rfl)) cy)))
    (ar (cx (di fQ gM gN bX (DP (pv 1) (pv 5) (bA aj) ⟨rfl,rfl,rfl,rfl⟩) (af (bY (af (pv 2) (af (pv 4) aj))) aj)))))))
  (ar (bf (pv 1)))),?_⟩
 nofun
 have ll:=bK cK;intro d sh;have s1:=ae sh (.dK []);have S1:CO H (upd H d (.dK [])) d [] (8 * 0):=⟨ab,aL _,λkv hk=>by cases hk⟩;generalize upd H d (.dK [])=H1 at s1 S1;refine⟨_,rfl,R,_,rfl,s1.seq hR,?_⟩
 let Ib:z_:=λi σ H6=>∃(kvs:List (aN×V))(y2 y3 y4 y5:Option V),σ=[aG R,aG d,y2,y3,y4,y5]/\aC H H6/\CO H H6 d kvs (8 * i)
 refine j5 (xs:=rs.map V.ref) Ib ⟨[],none,none,none,none,rfl,s1,S1⟩ ?_ ?_ ?_
 .rintro i σ H6 _ ⟨kvs,y2,y3,y4,y5,rfl,s6,_⟩;exact s6.seq hR
 .rintro i x σ H6 t ex ⟨kvs,y2,y3,y4,y5,rfl,s6,S6⟩ ht
  ac_nf0
  rw [aZ] at ex;obtain⟨r,er,rfl⟩:=b_.mp ex;obtain⟨ru,pC,p,v1,v2⟩:=cK.get er;have ox:=cv pC;have Mh:=h8 ru ox;have li:=(bx.mp pC).1;have FP:=ae ht (.tup [.int (i:Int),.ref r]);have IT:ba K (upd H6 t (.tup [.int (i:Int),.ref r])) t [.int (i:Int),.ref r]:=ba.of ab;have s7:=s6.trans FP;have S7:=S6.same FP;generalize upd H6 t (.tup [.int (i:Int),.ref r])=H7 at IT s7 S7;refine⟨t,_,rfl,IT,rfl,_,_,rfl,_,_,rfl,rfl,?_⟩;refine⟨_,rfl,r,_,_,_,rfl,rfl,s7.tup v1,rfl,p,_,rfl,s7.tup v2,?_⟩
  let VO:z_:=λj σ H9=>∃(kvs:List (aN×V))(y4 y5:Option V),σ=[aG R,aG d,some (.int (i:Int)),aG r,y4,y5]/\aC H H9/\CO H H9 d kvs (8 * i+j)
  refine oA (xs:=ru.2.map V.str) VO ⟨kvs,_,_,rfl,s7,S7⟩ ?_ ?_ ?_
  .rintro j σ H9 _ ⟨kvs,y4,y5,rfl,s9,_⟩;exact s9.tup v2
  .rintro j x σ H9 t2 Fb ⟨kvs,y4,y5,rfl,s9,S9⟩ ij
   ac_nf0
   rw [aZ] at Fb;obtain⟨z,ez,rfl⟩:=b_.mp Fb;have lj:=(bx.mp ez).1;have wA:=ae ij (.tup [.int (j:Int),.str z]);have EK:ba K (upd H9 t2 (.tup [.int (j:Int),.str z])) t2 [.int (j:Int),.str z]:=ba.of ab;have rY:=s9.trans wA;have Jk:=S9.same wA;generalize upd H9 t2 (.tup [.int (j:Int),.str z])=pG at EK rY Jk;refine⟨t2,_,rfl,EK,rfl,_,_,rfl,_,_,rfl,rfl,?_⟩;have lk:=Jk.ln;refine⟨_,rfl,d,rfl,.inl ⟨kvs,.inl Jk.hd⟩,_,rfl,sj,λl hl=>?_⟩;have DA:=ae hl (.lst []);have CJ:upd pG l (.lst []) l=some (.lst []):=ab;have fl:H l=none:=rY.free hl;have CQ:=Jk.same DA;have sA:=rY.trans DA;generalize upd pG l (.lst [])=si at DA CJ CQ sA;have fin:∀(a:Addr)(xs:List V)(lM:List (aN×V))(nE:Hp),nE a=some (.lst xs)->H a=none->xs.length<=8 * i+j->CO H nE d lM (8 * i+j+1)->(∀kv∈lM,∃a xs,kv.2=.ref a/\nE a=some (.lst xs)/\H a=none/\xs.length<=8 * i+j)->aC H nE ->
     ∀t4,nE t4=none->xs.length < sizeLine/\∃(kvs:List (aN×V))(y4 y5:Option V),[some (V.ref R),aG d,some (.int (i:Int)),aG r,some (.int (j:Int)),some (.str z)]=[aG R,aG d,some (.int (i:Int)),aG r,y4,y5]/\aC H (upd (upd nE t4 (.tup [.int (i:Int),.int (j:Int)])) a (.lst (xs++[.ref t4])))/\CO H (upd (upd nE t4 (.tup [.int (i:Int),.int (j:Int)])) a (.lst (xs++[.ref t4]))) d kvs (8 * i+(j+1)) :=
    λa xs lM nE ea fa lx Ga NQ Iw t4 B9=>by
     have wB:=ae B9 (.tup [.int (i:Int),.int (j:Int)]);refine⟨bo ∅,lM,_,_,rfl,λb o hb=>by rw [ai (λz=>by rw [z,fa] at hb;cases hb)];exact wB _ _ (Iw b o hb),?_⟩;exact(Ga.same wB).more (wB _ _ ea) lx λkv hk=>let ⟨b,ys,e1,e2,e3,e4⟩:=NQ kv hk;⟨b,ys,e1,wB _ _ e2,e3,e4⟩
   refine⟨kvs,Sum.inr z,CQ.hd,rfl,bo ∅,λv hv=>?_,λhn=>?_⟩
   .obtain⟨kv,hk,ek⟩:=Js hv;obtain⟨a,xs,e1,e2,e3,e4⟩:=CQ.lst kv hk;rw [e1] at ek;subst ek;refine⟨.inl ⟨rfl,_,aD.of e2⟩,_,rfl,_,rfl,lV,λt4 B9=>?_⟩;obtain⟨g1,g2⟩:=fin a xs kvs si e2 e3 e4 ⟨CQ.hd,∅,λkv hk=>let ⟨b,ys,e1,e2,e3,e4⟩:=CQ.lst kv hk;⟨b,ys,e1,e2,e3,∅⟩⟩ CQ.lst sA t4 B9;exact⟨a,_,_,rfl,rfl,ae B9 _ _ _ e2,g1,g2⟩
   have nd:d≠l:=λz=>by have:=CQ.hd;rw [z,CJ] at this;cases this
   have Jb:upd si d (.dK (bP kvs (Sum.inr z) (.ref l))) l=some (.lst []):=by rw [ai nd.symm];exact CJ
   have xX:H d=none:=sh;have Iw:aC H (upd si d (.dK (bP kvs (Sum.inr z) (.ref l)))):=λb o hb=>by rw [ai (λz=>by rw [z,xX] at hb;cases hb)];exact sA b o hb
   have NQ:∀kv∈bP kvs (Sum.inr z) (.ref l),∃a xs,kv.2=.ref a/\upd si d (.dK (bP kvs (Sum.inr z) (.ref l))) a=some (.lst xs)/\H a=none/\xs.length<=8 * i+j:=λkv hk=>by
    rw [wC _ hn] at hk;rcases aX.mp hk with h | h
    .obtain⟨b,ys,e1,e2,e3,e4⟩:=CQ.lst kv h;exact⟨b,ys,e1,by rw [ai (λz=>by rw [z,CQ.hd] at e2;cases e2)];exact e2,e3,e4⟩
    rw [bH.mp h];exact⟨l,[],rfl,Jb,fl,by simp⟩
   have lp:=eW kvs (Sum.inr z:aN) (.ref l);have Ga:CO H (upd si d (.dK (bP kvs (Sum.inr z) (.ref l)))) d (bP kvs (Sum.inr z) (.ref l)) (8 * i+j+1):=⟨ab,∅,λkv hk=>let ⟨b,ys,e1,e2,e3,e4⟩:=NQ kv hk;⟨b,ys,e1,e2,e3,∅⟩⟩;generalize upd si d (.dK (bP kvs (Sum.inr z) (.ref l)))=nE at Jb Iw NQ Ga;refine⟨.inl ⟨rfl,_,aD.of Jb⟩,_,rfl,_,rfl,lV,λt4 B9=>?_⟩;obtain⟨g1,g2⟩:=fin l [] _ nE Jb fl (by simp) Ga NQ Iw t4 B9;exact⟨l,_,_,rfl,rfl,ae B9 _ _ _ Jb,g1,g2⟩
  rintro σ H9 ⟨kvs,y4,y5,rfl,s9,S9⟩;rw [av] at S9;refine⟨kvs,_,_,_,_,rfl,s9,S9.hd,by have:=S9.ln;omega,λkv hk=>let ⟨b,ys,e1,e2,e3,e4⟩:=S9.lst kv hk;⟨b,ys,e1,e2,e3,∅⟩⟩
 rintro σ H6 ⟨kvs,y2,y3,y4,y5,rfl,s6,S6⟩;exact⟨_,rfl,q d H6 sh s6⟩
end
end gu
namespace L2
open PySem PySem.W PyProof.Rows
section
variable {n:Nat}{lt:Nat->Nat->Bool}{cmp:Nat->Nat->(Bool->Shared->Prop)->Shared->Prop}{s:Shared}
structure Ia (n:Nat)(lt:Nat->Nat->Bool):Prop where
 trans:∀a b c,a < n->b < n->c < n->lt b a=false->lt c b=false->lt c a=false
 VB:∀a b,a < n->b < n->lt a b=true->lt b a=false
structure MA (n:Nat)(p:Array Nat):Prop where
 pm:p.Perm (List.range n).toArray
theorem MA.size {p:Array Nat}(h:MA n p):p.size=n:=by
 have:=h.pm.size_eq;simpa using this
def MA.IP {p:Array Nat}(h:MA n p){i:Nat}(hi:i < n):p.getD i 0 < n:=by
 have hs:=h.size;have e:p.getD i 0=p[i]'∅:=by simp [Array.getD,hs,hi]
 rw [e];have:p[i]'∅∈(List.range n).toArray:=h.pm.mem_iff.mp (Array.getElem_mem _);simpa using this
abbrev at_ (p:Array Nat) (i:Nat):Nat:=p.getD i 0
def LD (lt:Nat->Nat->Bool)(p:Array Nat) (k:Nat):Prop:=∀i j,i<=j->j < k->lt (at_ p j) (at_ p i)=false
def LI (lt:Nat->Nat->Bool)(p:Array Nat) (k:Nat):Prop:=∀i j,i<=j->j < k->lt (at_ p i) (at_ p j)=false
def Ia.WN (o:Ia n lt){a:Nat}(h:a < n):lt a a=false:=by
 cases e:lt a a with
 | false=>rfl
 | true=>rw [<-o.VB a a h h e,e]
def LD.more {p:Array Nat}{m:Nat}(o:Ia n lt)(P:MA n p)(h:LD lt p m)(hm:1<=m)(hn:m < n)(c:lt (at_ p m) (at_ p (m - 1))=false):LD lt p (m+1):=by
 intro i j FY hj;by_cases e:j=m
 .subst e;by_cases e2:i=j
  .subst e2;exact o.WN (P.IP hn)
  exact o.trans _ (at_ p (j - 1)) _ (P.IP ∅) (P.IP ∅) (P.IP hn) (h i (j - 1) ∅ ∅) c
 exact h i j FY ∅
def LI.more {p:Array Nat}{m:Nat}(o:Ia n lt)(P:MA n p)(h:LI lt p m)(hm:1<=m)(hn:m < n)(c:lt (at_ p (m - 1)) (at_ p m)=false):LI lt p (m+1):=by
 intro i j FY hj;by_cases e:j=m
 .subst e;by_cases e2:i=j
  .subst e2;exact o.WN (P.IP hn)
  exact o.trans _ (at_ p (j - 1)) _ (P.IP hn) (P.IP ∅) (P.IP ∅) c (h i (j - 1) ∅ ∅)
 exact h i j FY ∅
end
open PySem PySem.Spec PyProof.Rows
def Inv.NP {X:Cx}{ah:List (Addr×Obj)}{σ:St}{H:Hp}{s:Shared}{h':Heap}{a:Addr}{o:HO}{t':Nat}(I:Inv X ah σ H s)(k:∀b u,b≠X.env.locals->s.heap.get? b=some u->h'.get? b=some u)
  (ns:∀m,s.heap.Ns X.env.locals m->h'.Ns X.env.locals m)(hp:s.heap.get? a=none)(hn:H a=none)(new:cC X.prog X.w (upd H a o) h' a o):Inv X ah σ (upd H a o) { s with heap:=h',toks:=t' }:=by
 have ne:∀b u,s.heap.get? b=some u->b≠a:=λb u q z=>by rw [z,hp] at q;cases q
 refine I.step (g':=s.gens) (d':=s.drawn) (ch:=[]) (λ_ z=>nomatch z) (λb u hb _ _ e _=>k b u hb e) (λb u hb _ _ e _=>⟨u.slots,k b u hb e⟩) (λb u _ e n=>by rw [ai (ne b u e)];exact n)
  (λb u _ e=>?_) (λb xs q=>by rw [ai (aq q hn)];exact q) (λb u xs q=>by rw [ai (aq q hn)];exact q) (λb ps q=>⟨#[],by rw [ai (aq q hn),q];simp⟩) ns (λb u e=>?_) I.bare
 .by_cases hb:b=X.env.locals
  .obtain⟨m,hm,_⟩:=I.loc;obtain⟨o',_,_,HB,_⟩:=ns m hm;exact⟨o',by rw [hb];exact HB⟩
  exact⟨u,k b u hb e⟩
 by_cases hb:b=a
 .subst hb;rw [ab] at e;cases e;exact new
 rw [ai hb] at e;refine(I.bU b u e).g7 (λc v hc q=>k c v ?_ q) (λc q=>by rw [ai (aq q hn)];exact q) λc xs q=>by rw [ai (aq q hn)];exact q
 rintro rfl;rcases hc with rfl | hc
 .rw [I.free] at e;cases e
 rw [I.free] at hc;cases hc
def DY {P:Program}{w:World}{H:Hp}{h:Heap}{a:Addr}{o:HO}(x:cC P w H h a o):∃u,h.get? a=some u:=by
 cases o with
 | lst xs=>obtain⟨_,_,_,_,e⟩:=x;exact⟨_,e⟩
 | tup xs=>obtain⟨_,_,_,ob,e,_⟩:=x;exact⟨_,e⟩
 | dK kvs=>obtain⟨_,_,_,_,o,_,_,e,_⟩:=x;exact⟨_,e⟩
 | dT kvs=>obtain⟨_,_,_,_,o,_,_,e,_⟩:=x;exact⟨_,e⟩
 | set S n=>obtain⟨o,_,_,_,e,_⟩:=x;exact⟨_,e⟩
 | ins C dx fs=>obtain⟨_,_,_,e,_⟩:=x;exact⟨_,e⟩
 | own y=>obtain⟨_,e⟩:=x;exact⟨_,e⟩
 | xd fs=>obtain⟨_,⟨_,_,_,e,_⟩,_⟩:=x;exact⟨_,e⟩
 | FR lo hi=>obtain⟨_,_,_,e⟩:=x;exact⟨_,e⟩
 | jD ob u=>obtain⟨e,_⟩:=x;exact⟨_,e⟩
 | rW ps=>exact⟨_,(show h.get? a=some _ from x)⟩
 | met f y=>exact⟨_,(show h.get? a=some _ from x)⟩
 | ext φ=>obtain⟨_,⟨_,e⟩,_⟩:=x;exact⟨_,e⟩
open PySem PySem.Spec PyProof.Rows PySem.W
section
variable {P:Program}{w:World}{A:Around}{E:Value->Shared->Prop}{s:Shared}
def EG {f c' c d:Addr}{q:Str}{params:Arguments}{scope:Scope}{cl:List (Str×Addr)}{pm fU:Value}{p1 p2 p3:Pos}{xs xh:Str}{vs:List (aN×Value)}{z:Str}{t:Tok}{u:Value}{oc:Obj}{Q:Value->Shared->Prop}
  (Og:A.depth < recursionLimit)(nl:s.heap.NoLimit)(hf:s.heap.get? f=some (kla_obj "<lambda>" q params (.Subscript (.Name xs p1) (.Name xh p2) p3) scope cl pm c' fU))(hc:s.heap.CodeRec (.ref c') q)
  (hb:∀us:List Value,us.length=1->bindArgs (kla_fn "<lambda>" q params (.Subscript (.Name xs p1) (.Name xh p2) p3) scope cl pm (.ref c') fU) ⟨us,[]⟩=pure ([xh].zip us))
  (hk:scope.kind=.function)(Ub:scope.isCoroutine=false)(KU:scope.isGenerator=false)(TJ:∀x∈scope.names,x.2≠.cell)(hh:scope.names.lookup xh=some .local)(hs:scope.names.lookup xs=some .free)
  (ny:cl.lookup xs=some c)(ho:s.heap.get? c=some oc)(xT:oc.data=.cell (some (.ref d)))(dd:s.heap.DictOf (a7 P w) d vs)(hv:valueAt vs (Sum.inr z)=some u)
  (d1:(xs == ("__debug__":Str))=false)(d2:(xh == ("__debug__":Str))=false)(d3:(xs == ("__classdict__":Str))=false)
  (h:∀h' tk,(∀b o,s.heap.get? b=some o->h'.get? b=some o)->Q u { s with heap:=h',toks:=tk }):wpAny (model P w) A (call (.ref f) [.str z t]) Q E s:=by
 refine jH (kla_callFunE Og hf rfl Ub KU rfl hc ?_);rw [hb [.str z t] rfl];refine bj (wpAny_newFunctionEnv TJ (λx hx=>?_) (λh₁ vC WX=>⟨nl.fresh _ WX,?_⟩) hk)
 .have:x=(xh,Value.str z t):=by simpa using hx
  rw [this];exact hh
 show codeAny _ _ (.expr (.Subscript (.Name xs p1) (.Name xh p2) p3) (envX q scope s.heap.objs.size f (.ref c') cl)) _ _;have k1:∀b o,s.heap.get? b=some o->h₁.get? b=some o:=λb o e=>WX.extBut b o (bT (bc e)) (bZ _ e);refine kla_codeExpr (Aj PySem.F.slot_dict_getitem.lookup (λ_ _=>rfl) ?_);refine wpAny_Name (wpAny_loadName_free hk hs ny ⟨oc,k1 _ _ ho,xT⟩ ?_ d3) d1;refine wpAny_Name (uy hk hh vC (show ([(xh,Value.str z t)]:List (Str×Value)).reverse.lookup xh=some (.str z t) by simp [List.lookup]) ?_) d2;have YS:h₁.DictOf (a7 P w) d vs:=by
  obtain⟨o,es,ep,g,r⟩:=dd;exact⟨o,es,ep,k1 _ _ g,r⟩
 refine⟨YS.typeIs,wpAny_getItem_of (kP (k:=Sum.inr z) ⟨t,rfl⟩) YS.mapOf hv ?_⟩;exact h h₁ _ k1
end
section
variable {X:Cx}{params:Arguments}{body:Expr}{scope:Scope}{pos:Pos}{c T:Addr}
abbrev iw (X:Cx)(params:Arguments)(body:Expr)(scope:Scope)(cl:List (Str×Addr))(c':Addr)(fU:Value):Obj:=kla_obj "<lambda>" (X.env.qual ++ "<lambda>") params body scope cl ((X.mg "__name__").getD .none) c' fU
def M5 (X:Cx)(params:Arguments)(body:Expr)(scope:Scope)(pos:Pos)(T:Addr):TE:=λσ H Q=>Tab T pos (X.env.qual ++ "<lambda>") H /\
 ∀f c' fU cl H',Ig X.env scope cl->fK T H H'->Tab T pos (X.env.qual ++ "<lambda>") H'->H f=none->H' f=some (om f (iw X params body scope cl c' fU))->H' c'=some (jz c' (X.env.qual ++ "<lambda>"))->Q (.ref f) H'
def G8 (qZ:X.env.code=.ref c)(hC:codeHdIn X.K c T=true)(hB:rV X.mg X.base)(mW:∀y,(y,NameKind.free)∈scope.names->X.env.scope.names.lookup y=some .cell)(EW:defaultsOf params X.env=([],[]):=by rfl):PE X (.Lambda params body scope pos) (M5 X params body scope pos T):=by
 intro ah s σ H Q I h;obtain⟨⟨ps,hT,ht,EX⟩,q⟩:=h;refine kla_eval EW ?_;obtain⟨cl,ny⟩:=vK (env:=X.env) (scope:=scope) λy hy=>I.ok.has y (.inl (mW y hy));have K3:s.heap.get? T=some (tabObj ps):=(show cC X.prog X.w H s.heap T (.rW ps) from I.bU T _ hT);have hg:=I.mod.glob.keeps I.bk;have C:=codeHd_of_K I.sC hC;obtain⟨bm,ob,b1,b2,b3,b4,b5,b6,b7⟩:=hB;have Vz:=I.bk _ _ b4;have Sf:bm≠T:=λz=>by
  have:=(I.bs _ _ b4).2;rw [z,hT] at this;cases this
 have R_:mainGlobals≠T:=λz=>by
  obtain⟨o,es,ep,e,d,_⟩:=hg;rw [z,K3] at e;cases e;cases d
 have OQ:s.heap.BuiltinsAt X.mg T:=⟨bm,ob,b1,b2,b3,Sf,Vz,b5,b6,b7⟩;have FK:∀b v,H b=some v->b < s.heap.objs.size:=λb v e=>I.bU.lt e;rcases EX with Ov | ⟨c',hf,iz⟩
 .refine kla_makeFunction ny.eq I.ok.glob hg qZ C K3 ht Ov R_ OQ λc' fU h' tk hx KW gT EM N8=>?_;have hcr:∃oc,h'.get? c'=some oc:=by
   obtain⟨c2,oc,vs,t,e,xT,_⟩:=EM;cases e;exact⟨oc,xT⟩
  have qY:h'.objs.size > s.heap.objs.size:=oR KW gT;have keep:∀b o,b≠T->s.heap.get? b=some o->(h'.push (iw X params body scope cl c' fU)).get? b=some o:=λb o n e=>bZ _ (hx b o n e)
  let H':Hp:=upd (upd (upd H T (.rW (ps++#[rawInt pos.line,rawInt pos.col,.ref c']))) c' (jz c' (X.env.qual ++ "<lambda>"))) h'.objs.size (om h'.objs.size (iw X params body scope cl c' fU))
  have zo:∀b v,H b=some v->b≠c'/\b≠h'.objs.size:=λb v e=>⟨bT (fP (FK b v e) KW),bT (kZ (FK b v e) qY)⟩;have Se:c'≠h'.objs.size:=bT gT;have NG:=zo T _ hT;have eT:H' T=some (.rW (ps++#[rawInt pos.line,rawInt pos.col,.ref c'])):=by
   show upd (upd (upd H T _) c' _) h'.objs.size _ T=_;rw [ai NG.2,ai NG.1,ab]
  have ec:H' c'=some (jz c' (X.env.qual ++ "<lambda>")):=by
   show upd (upd (upd H T _) c' _) h'.objs.size _ c'=_;rw [ai Se,ab]
  have ef:H' h'.objs.size=some (om h'.objs.size (iw X params body scope cl c' fU)):=ab;have eo:∀b,b≠T->b≠c'->b≠h'.objs.size->H' b=H b:=λb n1 n2 n3=>by
   show upd (upd (upd H T _) c' _) h'.objs.size _ b=_;rw [ai n3,ai n2,ai n1]
  have sT:fK T H H':=λb o n e=>by rw [eo b n (zo b o e).1 (zo b o e).2];exact e
  have I2:Inv X ah σ H' { s with heap:=h'.push (iw X params body scope cl c' fU),toks:=tk }:=by
   refine I.call (g':=s.gens) (t':=tk) (d':=s.drawn) (ch:=[]) ⟨λb o e n _ _=>keep b o (λz=>by rw [z,hT] at n;cases n) e,λb o e n _ _=>⟨o.slots,keep b o (λz=>by rw [z,hT] at n;cases n) e⟩,λb o e n _=>?_,λb o e _=>?_,λb xs e=>?_,λb o u e=>?_,λb RR e=>?_⟩ (λb v e=>?_) I.bare (λb hb=>nomatch hb)
   .have lb:=bc e;rw [eo b (λz=>by rw [z,hT] at n;cases n) (bT (fP lb KW)) (bT (kZ lb qY))];exact n
   .by_cases z:b=T
    .exact⟨_,by rw [z];exact bZ _ N8⟩
    exact⟨o,keep b o z e⟩
   .exact sT b _ (λz=>by rw [z,hT] at e;cases e) e
   .exact sT b _ (λz=>by rw [z,hT] at e;cases e) e
   .by_cases z:b=T
    .subst z;rw [hT] at e;cases e;exact⟨_,eT⟩
    exact⟨#[],by rw [Array.append_empty];exact sT b _ z e⟩
   by_cases z1:b=h'.objs.size
   .subst z1;rw [ef] at e;cases e;exact pN (de _ rfl)
   by_cases z2:b=c'
   .subst z2;rw [ec] at e;cases e;refine xD ?_;obtain⟨c2,oc,vs,t,e',xT,hd,hv⟩:=EM;cases e';exact⟨_,oc,vs,t,rfl,bZ _ xT,hd,hv⟩
   by_cases z3:b=T
   .subst z3;rw [eT] at e;cases e;exact bZ _ N8
   rw [eo b z3 z2 z1] at e;refine(I.bU b v e).g7 (λd o Ca e'=>?_) (λd e'=>sT d _ (λz=>by rw [z,hT] at e';cases e') e') λd ys e'=>sT d _ (λz=>by rw [z,hT] at e';cases e') e';rcases Ca with rfl | Ca
   .exact keep d o z3 e'
   exact keep d o (λz=>by rw [z,hT] at Ca;cases Ca) e'
  have fresh:H h'.objs.size=none:=I.bU.fresh (i5 qY);exact⟨.ref h'.objs.size,H',I2,rfl,q _ c' fU cl H' ny sT ⟨_,eT,by rw [qm];exact i9 _ ht,.inr ⟨c',by rw [qm];exact codeAmong_snoc _ ht Ov,ec⟩⟩ fresh ef ec⟩
 refine kla_makeFunctionHit ny.eq I.ok.glob hg qZ C K3 ht hf OQ λfU h' tk hk hsz=>?_;have keep:∀b o,s.heap.get? b=some o->(h'.push (iw X params body scope cl c' fU)).get? b=some o:=λb o e=>bZ _ (hk b o e);have fresh:H h'.objs.size=none:=I.bU.fresh hsz;refine⟨.ref h'.objs.size,_,I.laid (a:=h'.objs.size) (o:=om h'.objs.size (iw X params body scope cl c' fU)) (t':=tk) keep hsz (pN (de _ rfl)),rfl,?_⟩;refine q _ c' fU cl _ ny (λb o _ e=>by rw [ai (aq e fresh)];exact e) ⟨ps,by rw [ai (aq hT fresh)];exact hT,ht,.inr ⟨c',hf,by rw [ai (aq iz fresh)];exact iz⟩⟩ fresh ab (by rw [ai (aq iz fresh)];exact iz)
end
theorem Ak:∀{zs:List Str}{aJ:List Value},aT (zs.map V.str) aJ->∀(i:Nat)(v:Value),aJ[i]?=some v->∃z t,zs[i]?=some z/\v=.str z t
 | [],[],_,i,v,h=>by simp at h
 | z::r,u::aJ,h,i,v,hi=>by
  cases h with
  | cons a b =>
   cases i with
   | zero =>
    cases hi;obtain⟨t,e⟩:=(show ∃t,u=Value.str z t from a);exact⟨z,t,rfl,e⟩
   | succ i=>exact Ak b i v hi
theorem sS:∀(ps:List (Str×Tok)),aT ((ps.map (·.1)).map V.str) (ps.map λp=>Value.str p.1 p.2)
 | []=>.nil
 | p::r=>.cons ⟨p.2,rfl⟩ (sS r)
theorem sU:∀{zs:List Str}{aJ:List Value},aT (zs.map V.str) aJ->∃ps:List (Str×Tok),ps.map (·.1)=zs/\aJ=ps.map λp=>Value.str p.1 p.2
 | [],[],_=>⟨[],rfl,rfl⟩
 | z::r,u::aJ,h=>by
  cases h with
  | cons a b =>
   obtain⟨t,e⟩:=(show ∃t,u=Value.str z t from a);obtain⟨ps,e1,e2⟩:=sU b;exact⟨(z,t)::ps,by rw [br,e1],by rw [br,e2,e]⟩
def yU {α β:Type}{f:α->β}{l m:List β}(h:l.Perm m):∀ps:List α,m=ps.map f->∃qs:List α,l=qs.map f/\qs.Perm ps:=by
 induction h with
 | nil =>
  intro ps e;cases ps with
  | nil=>exact⟨[],rfl,.nil⟩
  | cons p r=>cases e
 | cons x h ih =>
  intro ps e;cases ps with
  | nil=>cases e
  | cons p r =>
   rw [br] at e;injection e with e1 e2;obtain⟨qs,a,b⟩:=ih r e2;exact⟨p::qs,by rw [br,a,e1],b.cons p⟩
 | swap x y l =>
  intro ps e
  match ps,e with
  | [],e=>cases e
  | [_],e=>cases e
  | p::p2::r,e =>
   rw [br,br] at e;injection e with e1 e2;injection e2 with e3 e4;exact⟨p2::p::r,by rw [br,br,e1,e3,e4],.swap p p2 r⟩
 | trans h1 h2 i1 i2 =>
  intro ps e;obtain⟨qs,a,b⟩:=i2 ps e;obtain⟨rs,c,d⟩:=i1 qs a;exact⟨rs,c,d.trans b⟩
def DT {g:Str->Int}{ps:List (Str×Tok)}{out:List Value}(h:KskOut false ((ps.map (·.1)).map g) (ps.map λp=>Value.str p.1 p.2) out) :
  ∃qs:List (Str×Tok),out=qs.map (λp=>Value.str p.1 p.2)/\(qs.map (·.1)).Perm (ps.map (·.1))/\(qs.map (·.1)).Pairwise λx y=>g x<=g y:=by
 obtain⟨rs,h1,h2,h3⟩:=h;have ez:((ps.map (·.1)).map g).zip (ps.map λp=>Value.str p.1 p.2)=ps.map λp=>(g p.1,Value.str p.1 p.2):=by
  rw [gZ,List.zip_map,List.zip_eq_zipWith]
  induction ps with
  | nil=>rfl
  | cons p r ih=>simp_all
 rw [ez] at h1;obtain⟨qs,q1,q2⟩:∃qs:List (Str×Tok),rs=qs.map (λp=>(g p.1,Value.str p.1 p.2))/\qs.Perm ps:=by
  exact yU h1 ps rfl
 subst q1;refine⟨qs,by rw [h2,gZ];rfl,q2.map _,?_⟩;rw [List.pairwise_map] at h3 ⊢;exact h3.imp λh=>by simpa using h
section
variable {X:Cx}{i:Nat}{xs xh:Str}{params:Arguments}{scope:Scope}{p pos zq kp p1 p2 p3:Pos}{e:Expr}{ta:TA}{c T:Addr}{k:Nat}
abbrev Bc (xs xh:Str)(p1 p2 p3:Pos):Expr:=.Subscript (.Name xs p1) (.Name xh p2) p3
def Jw (X:Cx) (i:Nat)(zq:Pos)(T:Addr)(ta:TA):TE:=λσ H Q=>ta σ H λvs H1=>Tab T zq (X.env.qual ++ "<lambda>") H1/\∃(a:Addr) (zs:List Str)(d:Addr)(kvs:List (aN×V))(g:Str->Int),vs=[.ref a]/\aD X.K H1 a (zs.map V.str)/\zs.length < 64/\σ[i]?=some (some (.ref d))/\Rd H1 d (.dK kvs) /\
 (∀z∈zs,bu kvs (Sum.inr z)=some (.int (g z)))/\∀(l:Addr) (Jn:List Str)(H':Hp),fK T H1 H'->Tab T zq (X.env.qual ++ "<lambda>") H'->H1 l=none->Jn.Perm zs->Jn.Pairwise (λx y=>g x<=g y)->H' l=some (.lst (Jn.map V.str))->Q (.ref l) H'
def DN (hr:eP (k+1) X.A)(qZ:X.env.code=.ref c)(hC:codeHdIn X.K c T=true)(hB:rV X.mg X.base)(hg:Gl X "sorted")(hm:X.mg "sorted"=none)(ha:PA X [e] ta)
  (hN:X.N[i]?=some xs)(hx:X.env.scope.names.lookup xs=some .cell)(mW:∀y,(y,NameKind.free)∈scope.names->X.env.scope.names.lookup y=some .cell)
  (hb:∀(q:Str)(cl:List (Str×Addr))(pm fU:Value)(c':Addr)(us:List Value),us.length=1->bindArgs (kla_fn "<lambda>" q params (Bc xs xh p1 p2 p3) scope cl pm (.ref c') fU) ⟨us,[]⟩=pure ([xh].zip us))
  (hk:scope.kind=.function)(Ub:scope.isCoroutine=false)(KU:scope.isGenerator=false)(TJ:∀x∈scope.names,x.2≠.cell)(hh:scope.names.lookup xh=some .local)(hs:scope.names.lookup xs=some .free)
  (d1:(xs == ("__debug__":Str))=false:=by decide)(d2:(xh == ("__debug__":Str))=false:=by decide)(d3:(xs == ("__classdict__":Str))=false:=by decide)
  (EW:defaultsOf params X.env=([],[]):=by rfl)
  (he:backTo pos (starEach [e] X.env)=(false,eval e X.env)::backTo pos (starEach [] X.env):=by rfl)(hp:(backTo pos (starEach [e] X.env)).any (·.1)=false:=by rfl) :
  PE X (.Call (.Name "sorted" p) [e] [⟨some "key",.Lambda params (Bc xs xh p1 p2 p3) scope zq,kp⟩] pos) (Jw X i zq T ta):=by
 intro ah s σ H Q I h;refine me (ib I hg hm boot_sorted ?_);refine callWith_kw (cS (ha pos ah s σ H _ I h) λus s1 bh=>?_) he hp rfl rfl;obtain⟨vs,H1,I1,r1,HI,a,zs,d,kvs,g,ev,hq,Ut,hσ,hd,hv,q1⟩:=bh;subst ev;have low:=G8 (X:=X) (params:=params) (body:=Bc xs xh p1 p2 p3) (scope:=scope) (pos:=zq) (c:=c) (T:=T) qZ hC hB mW EW ah s1 σ H1
  (λfv H2=>∃f c' fU cl,fv=.ref f/\Ig X.env scope cl/\fK T H1 H2/\Tab T zq (X.env.qual ++ "<lambda>") H2/\H2 f=some (om f (iw X params (Bc xs xh p1 p2 p3) scope cl c' fU))/\H2 c'=some (jz c' (X.env.qual ++ "<lambda>"))) I1
  ⟨HI,λf c' fU cl H' a1 a2 a3 a4 a5 a6=>⟨f,c',fU,cl,rfl,a1,a2,a3,a5,a6⟩⟩
 refine kws_cons (cS low λu2 s2 bh=>?_);obtain⟨fv,H2,I2,r2,f,c',fU,cl,ef,ny,st,Qo,hf,iz⟩:=bh;refine kws_nil ?_;subst ef;cases (show u2=Value.ref f from r2);obtain⟨u,rfl,rx⟩:=vals1 r1;cases (show u=Value.ref a from rx);obtain⟨pt,eT,_⟩:=id HI;have Tt:aD X.K H2 a (zs.map V.str):=by
  rcases hq with (h | ⟨o,h⟩) | h
  .exact .inl (.inl (st _ _ (λz=>by rw [z,eT] at h;cases h) h))
  .exact .inl (.inr ⟨o,st _ _ (λz=>by rw [z,eT] at h;cases h) h⟩)
  exact .inr h
 have hd2:Rd H2 d (.dK kvs):=by
  rcases hd with h | ⟨o,h⟩
  .exact .inl (st _ _ (λz=>by rw [z,eT] at h;cases h) h)
  exact .inr ⟨o,st _ _ (λz=>by rw [z,eT] at h;cases h) h⟩
 obtain⟨aJ,rv,pl,hz⟩:=I2.list Tt;obtain⟨pzs,ez,ei⟩:=sU rv;have wF:=pl.isList;obtain⟨oa,ga,ca,na,da⟩:=id wF;obtain⟨m,vC,lk⟩:=id I2.loc;have Hn:∀b o,H2 b=some o->b≠X.env.locals:=λb o hb z=>by rw [z,I2.free] at hb;cases hb
 have Nz:d≠X.env.locals:=by
  rcases hd2 with h | ⟨o,h⟩
  .exact Hn d _ h
  exact Hn d _ h
 have neA:a≠X.env.locals:=λz=>by
  obtain⟨o,es,ep,ho,vE,_⟩:=vC;rw [<-z,ga] at ho;cases ho;rw [da] at vE;cases vE
 obtain⟨ud,rd,lkd⟩:=lk i xs (.ref d) hN hσ (.inr (.inl hx));cases (show ud=Value.ref d from rd);obtain⟨cc,ecc,oc,Ot,Oq⟩:∃cc,X.env.cells.lookup xs=some cc/\s2.heap.IsCell cc (some (.ref d)):=by
  rcases lkd with ⟨l,_⟩ | ⟨_,c2,e2,h2⟩
  .have l':X.env.scope.names.lookup xs=some .local:=l;rw [hx] at l';cases l'
  exact⟨c2,e2,h2⟩
 obtain⟨cc',Yl⟩:=ny.all xs (vv hs);have e3:=ny.sub _ _ Yl;rw [ecc] at e3;cases e3;have LP:cc≠X.env.locals:=λz=>by
  obtain⟨o,es,ep,ho,vE,_⟩:=vC;rw [<-z,Ot] at ho;cases ho;rw [Oq] at vE;cases vE
 obtain⟨gf,_⟩:=I2.bU f _ hf;obtain⟨gc,_⟩:=I2.bU c' _ iz;obtain⟨zl,WW,pT,rel,dd⟩:=ni I2.bU hd2;obtain⟨m0,F0⟩:=I2.fr;refine ksk_sorted (kz:=zs.map g) (f:=.ref f) (b:=false) (vs:=aJ) (h₀:=Gd.qM s2.heap) (L:=X.env.locals) (m:=m) (news:=(a,oa)::Gd.ledger s2.heap X.env.locals a) (Gd.Lc vC) (Gd.wR neA ga) wF (by rw [av,<-rv.length,av]) (by rw [<-rv.length,av];exact Ut)
  (ksk_s1 _ _) (λx=>ksk_l1 _ _) (λx=>ksk_t1 f x) (λj v kk hj Xe o8 tk own F N=>?_) λD h' tk out cnt F' N' lt' ko=>?_
 .obtain⟨z,t,QB,rfl⟩:=Ak rv j v hj;rw [aZ,QB] at Xe;cases Xe;have keep:∀b u,b≠X.env.locals->s2.heap.get? b=some u->o8.get? b=some u:=λb u nb hb=>by
   by_cases e:b=a
   .subst e;rw [ga] at hb;cases hb;exact(N (b,oa) (by simp)).1
   exact(N (b,u) (mf _ (cJ _ (Gd.jh.mpr ⟨nb,e,hb⟩)))).1
  have hvz:=hv z (cv QB);obtain⟨w',hw,yN⟩:=jk.some_of (v:=.int (g z)) (o:=valueAt pT (Sum.inr z)) (by rw [<-hvz];exact rel.val (Sum.inr z));obtain⟨tw,rfl⟩:=(show ∃t,w'=Value.int (g z) t from yN);have dd2:o8.DictOf (a7 X.prog X.w) d pT:=by
   obtain⟨o,es,ep,g1,r⟩:=dd;exact⟨o,es,ep,keep _ _ Nz g1,r⟩
  have gc2:o8.CodeRec (.ref c') (X.env.qual ++ "<lambda>"):=by
   obtain⟨c2,Z4,VX,t2,e2,xT,gY,LX⟩:=gc;cases e2;exact⟨_,Z4,VX,t2,rfl,keep _ _ (Hn c' _ iz) xT,gY,LX⟩
  have nl:o8.NoLimit:=I2.mod.nolimit.keeps λb o e=>keep b o (bT (fP (bc e) F0.above)) (I2.bk b o e);exact EG (s:={ s2 with heap:=o8,toks:=tk }) (A:=X.A.in1.in1) hr.depth nl (keep _ _ (Hn f _ hf) gf) gc2 (λus hl=>hb _ _ _ _ _ us hl) hk Ub KU TJ hh hs Yl (keep _ _ LP Ot) Oq dd2 hw d1 d2 d3
   λh3 tk3 WM=>KskEnd.intro (F.kept WM) (N.grown WM) λp hp=>hp
 have keep:∀b u,b≠X.env.locals->s2.heap.get? b=some u->h'.get? b=some u:=λb u nb hb=>by
  by_cases e:b=a
  .subst e;rw [ga] at hb;cases hb;exact(N' (b,oa) (by simp)).1
  exact(N' (b,u) (cJ _ (cJ _ (Gd.jh.mpr ⟨nb,e,hb⟩)))).1
 have hD:s2.heap.get? D=none:=by
  cases e:s2.heap.get? D with
  | none=>rfl
  | some o =>
   exfalso;have nD:D≠X.env.locals:=(N' (D,_) bG).2.1;by_cases ea:D=a
   .have:=lt' (a,oa) bG;rw [ea] at this;exact absurd this (jM _)
   exact absurd (lt' (D,o) (cJ _ (Gd.jh.mpr ⟨nD,ea,e⟩))) (jM _)
 have fD:H2 D=none:=by
  cases e:H2 D with
  | none=>rfl
  | some u =>
   obtain⟨ob,g⟩:=DY (I2.bU D u e);rw [hD] at g;cases g
 have fD1:H1 D=none:=by
  cases e:H1 D with
  | none=>rfl
  | some u =>
   by_cases z:D=T
   .obtain⟨pt2,eT2,_⟩:=Qo;rw [z,eT2] at fD;cases fD
   rw [st _ _ z e] at fD;cases fD
 rw [ei,<-ez] at ko;obtain⟨qs,eo,pe,ps⟩:=DT ko;rw [ez] at pe;have gD:=(N' (D,_) bG).1;have lq:qs.length=zs.length:=by have:=pe.length_eq;rw [av] at this;exact this
 have sl:=ae fD (.lst ((qs.map (·.1)).map V.str));refine⟨.ref D,_,I2.NP (t':=tk) keep (λm' hm=>?_) hD fD (show cC X.prog X.w _ _ _ (.lst ((qs.map (·.1)).map V.str)) from ⟨by rw [av,av];exact fits ∅,qs.map (λp=>Value.str p.1 p.2),cnt,sS qs,by rw [<-eo];simpa using gD⟩),rfl,q1 D (qs.map (·.1)) _ (λb o n hb=>sl _ _ (st b o n hb)) ?_ fD1 pe ps ab⟩
 .have:=F'.ns;have e:m'=m:=by
   obtain⟨o,es,ep,ho,vE,_,hf⟩:=hm;obtain⟨o2,es2,ep2,W9,OG,_,FZ⟩:=vC;rw [ho] at W9;cases W9;rw [vE] at OG;cases OG
   funext x
   rw [<-hf x,<-FZ x]
  rw [e];exact this
 obtain⟨PZ,b1,b2,b3⟩:=Qo;refine⟨PZ,sl _ _ b1,b2,b3.imp id λbh=>?_⟩;obtain⟨c3,e3,g3⟩:=bh;exact⟨c3,e3,sl _ _ g3⟩
end
open PySem M11
def zX {K:aY}{H:Hp}{p D d:Addr}{zs:List Str}{kvs:List (aN×V)}{g:G}{σ:St}{js:List (Nat×Str)}{Qp:Hp->Prop}(hσ:eM ["part"] js σ=[none,aG d])(hp:ba K H p (zs.map V.str))(hz:zs.length<=1000)
  (hd:Rd H d (.dK kvs))(hv:∀z,bu kvs (Sum.inr z)=(g z).map V.int)(ha:∀z∈zs,(g z).isSome=true)(hD:H D=none)(q:∀H2,aC H H2->H2 D=some (.lst ((zs.map λz=>(g z).getD 0).map V.int))->Qp H2) :
  ∃W:Nat->Nat->List V->St->Hp->Prop,(∃m,W 0 m [] (eM ["part"] js σ) (upd H D (.lst []))) /\
 ∀i m ys σ' H,W i m ys σ' H->((rR K p).stop i H/\Qp H)\/((rR K p).go i H/\∃m',m' < m/\∀x H',(rR K p).mi i H x H'->eJ 0 x σ' H' λσ2 H2=>iM σ2 H2 λb H3 =>
  if b=true then Ah (gF 1) (gF 0) σ2 H3 λy H4=>H4 D=some (.lst ys)/\ys.length < sizeLine/\W (i+1) m' (ys++[y]) σ2 (upd H4 D (.lst (ys++[y]))) else W (i+1) m' ys σ2 H3):=by
 refine iZ (xs:=zs.map V.str) (λi ys σ2 H2=>ys=(((zs.take i).map λz=>(g z).getD 0).map V.int)/\(∃y0,σ2=[y0,aG d])/\aC H H2/\H2 D=some (.lst ys))
  ⟨rfl,⟨none,hσ⟩,ae hD _,ab⟩ (λi ys σ2 H2 _ h=>h.2.2.1.tup hp) (λi x ys σ2 H2 ex h=>?_) (λys σ2 H2 h=>?_)
 .obtain⟨rfl,⟨y0,rfl⟩,sm,hd2⟩:=h;rw [aZ] at ex;obtain⟨z,ez,rfl⟩:=b_.mp ex;have li:=(bx.mp ez).1;obtain⟨n,en⟩:=mh.mp (ha z (cv ez));have hg:cE H2 d (.str z) (some (.int n)):=by
   have:=cE.r (k:=Sum.inr z) (gu.Rd.same hd sm);rw [hv,en] at this;exact this
  refine goN (sD ?_);refine⟨_,rfl,_,rfl,d,_,rfl,hg,hd2,bo (by rw [av,av,cX];omega),?_,⟨_,rfl⟩,?_,ab⟩
  .rw [cY,ez,aQ,aQ];show _=_++[V.int ((g z).getD 0)];rw [en];rfl
  intro b o hb;rw [ai (λz=>by rw [z,hD] at hb;cases hb)];exact sm b o hb
 obtain⟨rfl,_,sm,hd2⟩:=h;rw [av,dB] at hd2;exact q H2 sm hd2
end L2
namespace gu
open PySem L2 M11
section
def qz (K:aY):Sp:=λvs H Q _=>∃(d r:Addr)(kvs:List (aN×V))(g:G)(ru:aB),vs=[.ref d,.ref r]/\Rd H d (.dK kvs)/\(∀z,bu kvs (Sum.inr z)=(g z).map V.int)/\kT K H r ru/\ru.2.length<=8/\(∀z∈ru.2,(g z).isSome=true)/\∀H',aC H H'->Q (.int (aO g ru)) H'
def yu:aK ["sizes","rule"] ["sizes","rule"] (ax n_):=iI rfl rfl rfl rfl nofun
def wM (F:ig K "rule_size" "rule_size" n_ f fd)(T:Txt mg):bS P w K mg base fu 1 f fd ["sizes","rule"] (qz K):=by
 refine F.ok yu (λvs H Q E h=>?_) (λeB A outer s H vs Q E hr h=>?_)
 .obtain⟨d,r,kvs,g,ru,rfl,_⟩:=h;rfl
 obtain⟨d,r,kvs,g,ru,rfl,hd,hv,⟨p,v1,v2⟩,h8,al,q⟩:=h;have hu:=gp hr;refine⟨_,ar (bf (aI dC ao (aV (ua rfl) rfl T.sum PyProof.Rows.boot_sum (af (bL ["part"] [(0,"sizes")] rfl (iG (aM b9 (pv 1) ao (λ_ _=>rfl))) (a_ rfl rfl) nofun rfl nofun
   (λ_ _ _ _ _=>au (i:=0) (show (["part","sizes"]:List Str).Nodup by decide +kernel) rfl (bJ rfl)) (λ_ _ _ _ _=>cb) (λ_ _ _ _ _=>fc hu (pv 1) (pv 0) (λ_ _=>rfl))) aj)))),?_⟩
 dsimp only [oH];refine⟨_,rfl,r,_,_,_,rfl,rfl,v1,rfl,p,rfl,⟨_,v2⟩,λD hD=>zX (g:=g) rfl v2 ∅ hd hv al hD λH2 s2 e2=>?_⟩;refine⟨D,_,rfl,aD.of e2,_,_,rfl,rfl,?_⟩;exact q H2 s2
end
end gu
namespace M11
open PySem
def vY.at_ {aa:List aB}{bw:List (Str×Nat)}(h:vY aa bw):∀(i:Nat)(x:Str) (k:Nat),bw[i]?=some (x,k)->∃b8,aa[k]?=some (x,b8)/\∀p∈b8,p∈(bw.take i).map (·.1):=by
 induction h with
 | nil=>intro i x k e;simp at e
 | @snoc bw k2 ru h e n p ih =>
  intro i x k ei;by_cases hi:i < bw.length
  .rw [sN hi] at ei;obtain⟨b8,a,b⟩:=ih i x k ei;exact⟨b8,a,λq hq=>by rw [List.take_append_of_le_length (i5 hi)];exact b q hq⟩
  have li:=(bx.mp ei).1;rw [bW,uE] at li;have e2:i=bw.length:=by omega
  subst e2;rw [sO (aL _),Nat.sub_self] at ei;cases ei;exact⟨ru.2,e,λq hq=>by rw [List.take_left'];exact p q hq;rfl⟩
end M11
namespace gu
open PySem L2 M11
section
def rC {H:Hp}{p D d:Addr}{zs:List Str}{kvs:List (aN×V)}{σ:St}{js:List (Nat×Str)}{Qp:Hp->Prop}(hσ:eM ["part"] js σ=[none,aG d])(hp:ba K H p (zs.map V.str))(hz:zs.length<=1000)
  (hd:H d=some (.dK kvs))(ha:∀z∈zs,(Sum.inr z:aN)∈kvs.map (·.1))(hD:H D=none)(q:∀ys H2,ys.length=zs.length->aC H H2->H2 D=some (.lst ys)->Qp H2) :
  ∃W:Nat->Nat->List V->St->Hp->Prop,(∃m,W 0 m [] (eM ["part"] js σ) (upd H D (.lst []))) /\
 ∀i m ys σ' H,W i m ys σ' H->((rR K p).stop i H/\Qp H)\/((rR K p).go i H/\∃m',m' < m/\∀x H',(rR K p).mi i H x H'->eJ 0 x σ' H' λσ2 H2=>iM σ2 H2 λb H3 =>
  if b=true then Ah (gF 1) (gF 0) σ2 H3 λy H4=>H4 D=some (.lst ys)/\ys.length < sizeLine/\W (i+1) m' (ys++[y]) σ2 (upd H4 D (.lst (ys++[y]))) else W (i+1) m' ys σ2 H3):=by
 refine iZ (xs:=zs.map V.str) (λi ys σ2 H2=>ys.length=i/\(∃y0,σ2=[y0,aG d])/\aC H H2/\H2 D=some (.lst ys))
  ⟨rfl,⟨none,hσ⟩,ae hD _,ab⟩ (λi ys σ2 H2 _ h=>h.2.2.1.tup hp) (λi x ys σ2 H2 ex h=>?_) (λys σ2 H2 h=>?_)
 .obtain⟨rfl,⟨y0,rfl⟩,sm,hd2⟩:=h;rw [aZ] at ex;obtain⟨z,ez,rfl⟩:=b_.mp ex;have li:=(bx.mp ez).1;obtain⟨v,ev⟩:=mh.mp ((eI kvs (Sum.inr z)).mpr (ha z (cv ez)));have hg:cE H2 d (.str z) (some v):=by
   have:=cE.k (k:=Sum.inr z) (sm _ _ hd);rw [ev] at this;exact this
  refine goN (sD ?_);refine⟨_,rfl,_,rfl,d,_,rfl,hg,hd2,bo ∅,by rw [bW];rfl,⟨_,rfl⟩,?_,ab⟩;intro b o hb;rw [ai (λz=>by rw [z,hD] at hb;cases hb)];exact sm b o hb
 obtain⟨e,_,sm,hd2⟩:=h;rw [av] at e;exact q ys H2 e sm hd2
def sZ (K:aY):Sp:=λvs H Q _=>∃(R D:Addr)(rs ts:List Addr)(aa:List aB)(bw:List (Str×Nat)),vs=[.ref R,.ref D]/\aD K H R (rs.map V.ref)/\aS K H rs aa/\aa.length<=1000/\(∀ru∈aa,ru.2.length<=8)/\aD K H D (ts.map V.ref)/\oM K H ts bw/\vY aa bw/\bw.length<=1000 /\
 ∀(d:Addr)(kvs:List (aN×V))(H':Hp),H d=none->aC H H'->H' d=some (.dK kvs)->kvs.map (·.1)=(bw.map (·.1)).map Sum.inr->Q (.ref d) H'
def kb:aK ["rules","empties","trees","name","number"] ["rules","empties"] (ax qG):=iI rfl rfl rfl rfl nofun
def zf (F:ig K "empty_by_name" "empty_by_name" qG f fd)(T:Txt mg):bS P w K mg base fu 1 f fd ["rules","empties"] (sZ K):=by
 refine F.ok kb (λvs H Q E h=>?_) (λeB A outer s H vs Q E hr h=>?_)
 .obtain⟨R,D,rs,ts,aa,bw,rfl,_⟩:=h;rfl
 obtain⟨R,D,rs,ts,aa,bw,rfl,hR,cK,bM,h8,hD,Xo,OE,Xp,q⟩:=h;have hu:=gp hr;refine⟨_,ak (aE (i:=2) kb.nd rfl (Or.inr rfl) gi)
  (ak (cw cP rfl (a9 (pv 1)) (je (n:=2) K rfl (aF (au (i:=3) kb.nd rfl (bJ rfl)) (aF (au (i:=4) kb.nd rfl (bJ rfl)) cy)))
   (ar (iu hu (pv 2) (pv 3) (bY (af (pv 4) (af (a8 eC rfl T.tup oW (af (bL ["part"] [(2,"trees")] rfl (iG (aM b9 (aM aP (pv 0) (pv 4) (λ_ _=>rfl)) ao (λ_ _=>rfl))) (a_ rfl rfl) nofun rfl nofun
    (λ_ _ _ _ _=>au (i:=0) (show (["part","trees"]:List Str).Nodup by decide +kernel) rfl (bJ rfl)) (λ_ _ _ _ _=>cb) (λ_ _ _ _ _=>fc hu (pv 1) (pv 0) (λ_ _=>rfl))) aj)) aj))) rfl)))
  (ar (bf (pv 2)))),?_⟩
 nofun
 refine λd xX=>?_;have s1:=ae xX (.dK []);have e1:upd H d (.dK []) d=some (.dK []):=ab;generalize upd H d (.dK [])=H1 at s1 e1;refine goN ?_
 ac_rfl
 have lt:=bK Xo;have ll:=bK cK;have nd:=OE.nd
 let z9:z_:=λi σ H3=>∃(kvs:List (aN×V))(y3 y4:Option V),σ=[aG R,aG D,aG d,y3,y4]/\aC H H3/\H3 d=some (.dK kvs)/\kvs.map (·.1)=((bw.take i).map (·.1)).map Sum.inr
 refine⟨_,rfl,D,rfl,⟨_,s1.seq hD⟩,eZ (xs:=ts.map V.ref) z9 ⟨[],_,_,rfl,s1,e1,rfl⟩ ?_ ?_ ?_⟩
 .rintro i σ H3 _ ⟨kvs,y3,y4,rfl,s3,_⟩;exact s3.seq hD
 .rintro i x σ H3 ex ⟨kvs,y3,y4,rfl,s3,ed,ek⟩
  ac_nf0
  rw [aZ] at ex;obtain⟨t,et,rfl⟩:=b_.mp ex;have li:=(bx.mp et).1;obtain⟨e,ee⟩:∃e,bw[i]?=some e:=⟨bw[i]'∅,dw ∅⟩;obtain⟨t',X5,vt⟩:=Paired.at_ Xo i e ee;rw [et] at X5;cases X5;obtain⟨x,k⟩:=e;obtain⟨b8,hk,W6⟩:=OE.at_ i x k ee;obtain⟨r,er,p,v1,v2⟩:=Paired.at_ cK k _ hk;have Pd:ik (rs.map V.ref) (k:Int)=some (.ref r):=bE (by rw [aZ,er];rfl);have W8:b8.length<=8:=h8 _ (cv hk);refine⟨t,_,rfl,s3.tup vt,rfl,_,_,rfl,_,_,rfl,rfl,?_⟩;refine⟨_,rfl,_,rfl,_,rfl,R,_,_,_,rfl,rfl,s3.seq hR,Pd,r,_,_,_,rfl,rfl,s3.tup v1,rfl,p,rfl,⟨_,s3.tup v2⟩,λD2 ic=>rC (zs:=b8) rfl (s3.tup v2) ∅ ed (λz hz=>by rw [ek];exact cV.mpr (W6 z hz)) ic λys H4 ly s4 e4=>?_⟩;refine⟨D2,ys,rfl,.inl ⟨aD.of e4,λt2 Uy=>⟨lV,λEs Lh=>?_⟩⟩⟩;have k5:=(ae Uy (.tup ys)).trans (ae Lh (.tup [.int (k:Int),.ref t2]));generalize upd (upd H4 t2 (.tup ys)) Es (.tup [.int (k:Int),.ref t2])=H5 at k5;have ed5:=k5 _ _ (s4 _ _ ed);have lkv:kvs.length=i:=by
   have:=congrArg List.length ek;rw [av,av,av,cX] at this;omega
  have nx:x∉(bw.take i).map (·.1):=λz=>by
   obtain⟨e2,m2,q2⟩:=cM.mp z;obtain⟨j,hj⟩:=jF m2;rw [List.getElem?_take] at hj
   split at hj
   .rename_i Xg
    have a1:(bw.map (·.1))[j]?=some x:=by rw [aZ,hj];exact congrArg some q2
    have a2:(bw.map (·.1))[i]?=some x:=by rw [aZ,ee];rfl
    have:=(List.getElem?_inj (by rw [av];omega) nd).mp (a1.trans a2.symm);omega
   cases hj
  refine⟨_,rfl,_,rfl,d,_,rfl,.inl ⟨kvs,Sum.inr x,ed5,rfl,bo ∅,rfl⟩,?_⟩;refine⟨_,_,_,rfl,λb o hb=>?_,ab,?_⟩
  .rw [ai (λz=>by rw [z,xX] at hb;cases hb)];exact k5 _ _ (s4 _ _ (s3 b o hb))
  rw [ir (by rw [ek];exact λz=>nx (cV.mp z)),ek,cY,ee,aQ,aQ];rfl
 rintro σ H3 ⟨kvs,y3,y4,rfl,s3,ed,ek⟩;rw [av,lt,dB] at ek;exact⟨_,rfl,q d kvs H3 xX s3 ed ek⟩
end
end gu
namespace M11
open PySem
def Le (g' g:G):Prop:=∀z n,g z=some n->∃m,g' z=some m/\m<=n
def xi {g:G}{ru:aB}(f:cD bl g ru=true):jB g ru=true/\∀n,g ru.1=some n->aO g ru < n:=by
 unfold cD at f;rw [nP] at f;refine⟨f.1,λn e=>?_⟩;have:=f.2;rw [e] at this;have:(!(some n:Option Int).isSome || bl (aO g ru) n)=true:=this
 simpa [bl] using this
def le_step {g:G}{ru:aB}(f:cD bl g ru=true):Le (dW g ru.1 (aO g ru)) g:=λz n e=>by
 unfold dW;by_cases c:z=ru.1
 .rw [az c];subst c;exact⟨_,rfl,Int.le_of_lt ((xi f).2 n e)⟩
 rw [ay c];exact⟨n,e,jI _⟩
theorem qw {g g':G}(h:Le g' g):∀ps:List Str,(∀p∈ps,(g p).isSome=true)->(∀p∈ps,(g' p).isSome=true)/\(ps.map λp=>(g' p).getD 0).sum<=(ps.map λp=>(g p).getD 0).sum
 | [],_=>⟨λp hp=>(by cases hp),jI _⟩
 | p::r,a=>by
  obtain⟨h1,h2⟩:=qw h r λq hq=>a q (cJ _ hq);obtain⟨n,en⟩:=mh.mp (a p bG);obtain⟨m,em,lm⟩:=h p n en;refine⟨λq hq=>?_,?_⟩
  .rcases aW.mp hq with rfl | hq
   .rw [em];rfl
   exact h1 q hq
  rw [br,br,gw,gw,en,em];show m+_<=n+_;omega
def uj {g:G}{ru:aB}:jB g ru=true↔∀p∈ru.2,(g p).isSome=true:=by
 unfold jB;rw [gL]
def size_le {g g':G}{ru:aB}(h:Le g' g)(a:jB g ru=true):jB g' ru=true/\aO g' ru<=aO g ru:=by
 obtain⟨h1,h2⟩:=qw h ru.2 (uj.mp a);exact⟨uj.mpr h1,by unfold aO;omega⟩
def My (aa:List aB) (hs:List Str)(g:G):Prop:=∀h n,g h=some n->h∉hs\/∃ru∈aa,ru.1=h/\jB g ru=true/\aO g ru<=n
def CW {aa:List aB}{hs:List Str}(g:G)(ru:aB)(j:My aa hs g)(m:ru∈aa)(f:cD bl g ru=true):My aa hs (dW g ru.1 (aO g ru)):=λh n e=>by
 have le:=le_step f;by_cases c:h=ru.1
 .have e2:n=aO g ru:=by
   unfold dW at e;rw [az c] at e;exact(g6 e).symm
  obtain⟨a1,a2⟩:=size_le le (xi f).1;exact .inr ⟨ru,m,c.symm,a1,∅⟩
 have e2:g h=some n:=by
  unfold dW at e;rw [ay c] at e;exact e
 rcases j h n e2 with h1 | ⟨PR,m2,q2,a2,l2⟩
 .exact .inl h1
 obtain⟨b1,b2⟩:=size_le le a2;exact .inr ⟨PR,m2,q2,b1,∅⟩
def B2 {aa:List aB}{hs:List Str}{g0 g:G}(j0:My aa hs g0)(st:dU bl aa g0 g)(se:iB bl aa g){h:Str}{n:Int}(hh:h∈hs)(e:g h=some n):∃ru∈aa,ru.1=h/\jB g ru=true/\aO g ru=n:=by
 have j:My aa hs g:=dU.keep (J:=My aa hs) (λg ru j m f=>CW g ru j m f) st j0;rcases j h n e with z | ⟨ru,m,q,a,l⟩
 .exact absurd hh z
 refine⟨ru,m,q,a,?_⟩;have f:=se ru m;unfold cD at f;rw [a,q,e] at f;have f:(true && (!(some n:Option Int).isSome || bl (aO g ru) n))=false:=f
 have f2:¬aO g ru < n:=by simpa [bl] using f
 omega
theorem AN {g:G}(nn:NN g):∀(ps:List Str)(p:Str) (m:Int),p∈ps->g p=some m->m<=(ps.map λp=>(g p).getD 0).sum
 | q::r,p,m,hp,e=>by
  rw [br,gw];have h1:=i_ g nn r;rcases aW.mp hp with rfl | hp
  .rw [e];show m<=m+_;omega
  have h2:=AN nn r p m hp e;have h3:0<=(g q).getD 0:=by
   cases eq:g q with
   | none=>exact jI _
   | some n=>exact nn q n eq
  omega
def Bx {g:G}(nn:NN g){ru:aB}{p:Str}{m:Int}(hp:p∈ru.2)(e:g p=some m):m < aO g ru:=by
 have:=AN nn ru.2 p m hp e;unfold aO;omega
theorem Ab:∀(cR ps bF:List Str),(∀z∈bF,z∉cR)->∀z∈jO cR bF ps,z∉cR
 | _,[],bF,h=>h
 | cR,p::r,bF,h=>by
  show ∀z∈jO cR (addW cR bF p) r,z∉cR;refine Ab cR r _ ?_;unfold addW
  split
  .exact h
  rename_i hp
  unfold gR
  split
  .exact h
  intro z hz;rcases aX.mp hz with hz | hz
  .exact h z hz
  rw [bH.mp hz];exact hp
def uV {g:Str->Int}{zs:List Str}(h:zs.Pairwise λx y=>g x<=g y){i:Nat}{x p:Str}(e:zs[i]?=some x)(hp:p∈zs)(l:g p < g x):p∈zs.take i:=by
 obtain⟨j,ej⟩:=jF hp;obtain⟨li,ei⟩:=bx.mp e;obtain⟨lj,ej2⟩:=bx.mp ej;have Xg:j < i:=by
  rcases Nat.lt_trichotomy j i with h1 | h1 | h1
  .exact h1
  .subst h1;rw [e] at ej;cases ej;omega
  have:=List.pairwise_iff_getElem.mp h i j li lj h1;rw [ei,ej2] at this;omega
 rw [List.mem_iff_getElem?];exact⟨j,by rw [List.getElem?_take,az Xg];exact ej⟩
end M11
namespace gu
open PySem L2 M11
def Q7 (aa:List aB):My aa (hd aa) (xV aa):=λh n e=>by
 unfold xV at e;by_cases c:h∈jO (hd aa) [] (aa.flatMap (·.2))
 .exact .inl (Ab _ _ [] (λz hz=>by cases hz) h c)
 rw [ay c] at e;cases e
def Z9 (aa:List aB):NN (xV aa):=λh n e=>by
 unfold xV at e;by_cases c:h∈jO (hd aa) [] (aa.flatMap (·.2))
 .rw [az c] at e;cases e;exact jI _
 rw [ay c] at e;cases e
def Ki {aa:List aB}{g:G}(st:dU M11.bl aa (xV aa) g):NN g:=dU.keep (J:=NN) (λg ru j m f=>vm j ru) st (Z9 aa)
theorem Ad (cR:List Str):∀(ps bF:List Str)(x:Str),(x∈bF\/(x∈ps/\x∉cR))->x∈jO cR bF ps
 | [],bF,x,h=>by
  rcases h with h | ⟨h,_⟩
  .exact h
  cases h
 | p::r,bF,x,h=>by
  show x∈jO cR (addW cR bF p) r;apply Ad cR r;unfold addW;by_cases c:p∈cR
  .rw [az c];rcases h with h | ⟨h,n⟩
   .exact .inl h
   rcases aW.mp h with z | z
   .exact absurd (z ▸ c) n
   exact .inr ⟨z,n⟩
  rw [ay c];rcases h with h | ⟨h,n⟩
  .exact .inl ((i0 _ _ _).mpr (.inl h))
  rcases aW.mp h with z | z
  .exact .inl ((i0 _ _ _).mpr (.inr z))
  exact .inr ⟨z,n⟩
def Nv:List Stmt->Pos
 | [_,_,_,.For _ (.Call _ _ [⟨_,.Lambda _ _ _ pos,_⟩] _) _ _ _,_]=>pos
 | _=>⟨0,0,0,0⟩
abbrev posB:Pos:=Nv (cg mE)
abbrev FU:Str := "least_by_part" ++ ".<locals>." ++ "<lambda>"
section
def n5 (K:aY)(T1 T3:Addr):Sp:=λvs H Q _=>∃(R:Addr)(rs:List Addr)(aa:List aB),vs=[.ref R]/\aD K H R (rs.map V.ref)/\aS K H rs aa/\aa.length < 64/\(∀ru∈aa,ru.2.length<=8)/\(∀g,dU M11.bl aa (xV aa) g->iB M11.bl aa g->∀h∈hd aa,∃n,g h=some n/\n<=60)/\Tab T1 qQ.2.2.2 xR H/\Tab T3 posB FU H/\T1≠T3 /\
 ∀(d:Addr)(kvs:List (aN×V))(H':Hp),H d=none->kS T1 T3 H H'->Tab T1 qQ.2.2.2 xR H'->Tab T3 posB FU H'->H' d=some (.dK kvs)->(∀z,z∈hd aa->(Sum.inr z:aN)∈kvs.map (·.1))->Q (.ref d) H'
structure LB (K:aY)(rs:List Addr)(aa:List aB)(pO:List (aN×V))(ps:List (Str×Addr))(R dz dn T1 T3:Addr)(H5:Hp):Prop where
 hR:aD K H5 R (rs.map V.ref)
 cK:aS K H5 rs aa
 nm:Gb ps (λn=>nums aa n aa.length) H5 dn
 rz:Rd H5 dz (.dK pO)
 t1:Tab T1 qQ.2.2.2 xR H5
 t3:Tab T3 posB FU H5
theorem LB.same {rs:List Addr}{aa:List aB}{pO:List (aN×V)}{ps:List (Str×Addr)}{R dz dn T1 T3:Addr}{H5 H6:Hp}(h:LB K rs aa pO ps R dz dn T1 T3 H5)(s:aC H5 H6):LB K rs aa pO ps R dz dn T1 T3 H6 :=
 ⟨s.seq h.hR,h.cK.same s,h.nm.same s,gu.Rd.same h.rz s,h.t1.same s,h.t3.same s⟩
def LB.IJ {rs:List Addr}{aa:List aB}{pO:List (aN×V)}{ps:List (Str×Addr)}{R dz dn T1 T3 d:Addr}{H5 H6:Hp}{kv:List (aN×V)}(h:LB K rs aa pO ps R dz dn T1 T3 H5)(e:H5 d=some (.dK kv))(n1:dn≠d)(n2:dz≠d)(s:fK d H5 H6):LB K rs aa pO ps R dz dn T1 T3 H6:=by
 have tk:∀a xs,ba K H5 a xs->ba K H6 a xs:=λa xs z=>by
  rcases z with (z | ⟨u,z⟩) | z
  .exact .inl (.inl (s _ _ (λy=>by rw [y,e] at z;cases z) z))
  .exact .inl (.inr ⟨u,s _ _ (λy=>by rw [y,e] at z;cases z) z⟩)
  exact .inr z
 have tb:∀{T':Addr}{pos':Pos}{FT:Str},Tab T' pos' FT H5->Tab T' pos' FT H6:=λ{T' pos' FT} ⟨p,a,b,cc⟩=>⟨p,s _ _ (λy=>by rw [y,e] at a;cases a) a,b,cc.imp id λ⟨c',e1,e2⟩=>⟨c',e1,s _ _ (λy=>by rw [y,e] at e2;cases e2) e2⟩⟩;refine⟨?_,h.cK.keep tk,⟨s _ _ n1 h.nm.hd,h.nm.n1,h.nm.n2,λp hp=>s _ _ (λy=>by have a:=h.nm.lst p hp;rw [y,e] at a;cases a) (h.nm.lst p hp)⟩,?_,tb h.t1,tb h.t3⟩
 .rcases h.hR with (z | ⟨u,z⟩) | z
  .exact .inl (.inl (s _ _ (λy=>by rw [y,e] at z;cases z) z))
  .exact .inl (.inr ⟨u,s _ _ (λy=>by rw [y,e] at z;cases z) z⟩)
  exact .inr z
 rcases h.rz with z | ⟨u,z⟩
 .exact .inl (s _ _ n2 z)
 exact .inr ⟨u,s _ _ n2 z⟩
def LB.Ni {rs:List Addr}{aa:List aB}{pO:List (aN×V)}{ps:List (Str×Addr)}{R dz dn T1 T3:Addr}{H5 H6:Hp}(h:LB K rs aa pO ps R dz dn T1 T3 H5)(nT:T1≠T3)(s:fK T3 H5 H6)(t:Tab T3 posB FU H6):LB K rs aa pO ps R dz dn T1 T3 H6:=by
 obtain⟨pt,eT,_⟩:=id h.t3;refine⟨AF s h.t3 h.hR,h.cK.keep λ_ _ z=>Ae s h.t3 z,⟨s _ _ (λy=>by have a:=h.nm.hd;rw [y,eT] at a;cases a) h.nm.hd,h.nm.n1,h.nm.n2,λp hp=>s _ _ (λy=>by have a:=h.nm.lst p hp;rw [y,eT] at a;cases a) (h.nm.lst p hp)⟩,?_,Af s h.t3 h.t1 nT,t⟩;rcases h.rz with z | ⟨u,z⟩
 .exact .inl (s _ _ (λy=>by rw [y,eT] at z;cases z) z)
 exact .inr ⟨u,s _ _ (λy=>by rw [y,eT] at z;cases z) z⟩
theorem ot:∀(hs:List Str)(bF:List (aN×V)) (as:List Str),bF.map (·.1)=as.map Sum.inr->(cT (hs.map λh=>((Sum.inr h:aN),V.str h)) bF).map (·.1)=(M11.vJ as hs).map Sum.inr
 | [],bF,as,e=>e
 | h::r,bF,as,e=>ot r (bP bF (Sum.inr h) (.str h)) (M11.gR as h) (gu.jZ e h)
def gW:aK ["rules","numbers","trees","name","least","sizes"] ["rules"] (ax mE):=iI rfl rfl rfl rfl nofun
def ze {T1 T3:Addr}(F:xM K "least_by_part" "least_by_part" mE f fd T3)(T:Txt mg)(hB:rV mg base)(hS:mg "sorted"=none)(GH:aH P w K mg base 3 "heads_of" ["rules"] (j8 K))(GL:aH P w K mg base 3 "least_sizes" ["rules"] (pJ K T1))(GN:aH P w K mg base 3 "numbers_by_name" ["rules"] (Dh K))(GZ:aH P w K mg base 3 "rule_size" ["sizes","rule"] (qz K)):bS P w K mg base fu 4 f fd ["rules"] (n5 K T1 T3):=by
 refine F.ok gW (λvs H Q E h=>?_) (λc A outer s H vs Q E hC hr h=>?_)
 .obtain⟨R,rs,aa,rfl,_⟩:=h;rfl
 obtain⟨R,rs,aa,rfl,hR,cK,bM,h8,EU,HI,Uh,nT,q⟩:=h;have hu:=gp hr;refine⟨_,ak (aE (i:=5) gW.nd rfl (Or.inr rfl) (bI GL hr rfl (af (pv 0) aj)))
  (ak (aE (i:=1) gW.nd rfl (Or.inr rfl) (bI GN hr rfl (af (pv 0) aj)))
  (ak (aE (i:=2) gW.nd rfl (Or.inr rfl) (a8 (dY rfl) rfl T.vV fJ (af (bL ["part"] [(1,"numbers")] rfl (AL (pv 5)) (a_ rfl rfl) nofun rfl nofun
    (λ_ _ _ _ _=>au (i:=0) (show (["part","numbers"]:List Str).Nodup by decide +kernel) rfl (bJ rfl)) (λ_ _ _ _ _=>gh (fq (dP hu (pv 0) (pv 1)))) (λ_ _ _ _ _=>bY (af (pv 0) (af (pv 0) aj)))) aj)))
  (ak (cw cP rfl (a9 (DN (i:=5) (T:=T3) hr rfl hC hB rfl hS (af (bI GH hr rfl (af (pv 0) aj)) aj) rfl rfl (λy hy=>by
    rcases aW.mp hy with h | h
    .cases h
    rcases aW.mp h with h | h
    .cases h;rfl
    cases h) (λq cl pm fU c' us hl=>match us,hl with | [_],_=>rfl) rfl rfl rfl nofun rfl rfl)) (au (i:=3) gW.nd rfl (Or.inr rfl))
   (ak (f_ (iy:=4) ["number"] [(5,"sizes"),(0,"rules"),(3,"name")] gW.nd rfl rfl rfl (a9 (fc hu (pv 1) (pv 3) (λ_ _=>rfl))) (a_ rfl rfl) nofun rfl nofun
    (λ_ _ _ _ _=>au (i:=0) (show (["number","sizes","rules","name"]:List Str).Nodup by decide +kernel) rfl (bJ rfl)) (λ_ _ _ _ _=>gh (bB mQ (bI GZ hr rfl (af (pv 1) (af (aM (j3 K) (pv 2) (pv 0) (λ_ _=>rfl)) aj))) (fc hu (pv 1) (pv 3) (λ_ _=>rfl)) (cf _))) (λ_ _ _ _ _=>pv 0))
   (ar (iu hu (pv 2) (pv 3) (bY (af (aM aP (pv 4) ao (λ_ _=>rfl)) (af (a8 eC rfl T.tup oW (af (bL ["part"] [(2,"trees")] rfl (iG (aM b9 (aM aP (pv 0) (aM aP (pv 4) ao (λ_ _=>rfl)) (λ_ _=>rfl)) ao (λ_ _=>rfl))) (a_ rfl rfl) nofun rfl nofun
    (λ_ _ _ _ _=>au (i:=0) (show (["part","trees"]:List Str).Nodup by decide +kernel) rfl (bJ rfl)) (λ_ _ _ _ _=>cb) (λ_ _ _ _ _=>fc hu (pv 1) (pv 0) (λ_ _=>rfl))) aj)) aj))) rfl))))
  (ar (bf (pv 2)))))),?_⟩
 nofun
 refine⟨_,rfl,R,rs,aa,rfl,hR,cK,∅,h8,HI,λdz pO IH g H1 fz s1 t1 ez kz vz PK V_ lz=>?_⟩;refine goN ?_
 ac_rfl
 have Xv:=AF s1 HI hR;have Oj:=cK.keep λ_ _ z=>Ae s1 HI z;have V5:=Af s1 HI Uh (fY nT);refine⟨_,rfl,R,rs,aa,rfl,Xv,Oj,∅,λdn ps H2 fn s2 nm pk pf=>?_⟩;refine goN ?_
 ac_rfl
 have Mn:=s2 _ _ ez;refine⟨_,rfl,dz,pO,rfl,Mn,λo D hD=>?_⟩;have R5:∀p∈ps,p.2≠dz:=λp hp z=>by
  have a:=nm.lst p hp;rw [z,Mn] at a;cases a
 have ndz:dn≠dz:=λz=>by rw [z,ez] at fn;cases fn
 have Z7:T1≠dz:=λz=>by
  obtain⟨p,a,_⟩:=t1;rw [z,ez] at a;cases a
 have Z6:T3≠dz:=λz=>by
  obtain⟨p,a,_⟩:=V5;rw [z,ez] at a;cases a
 have MU:∀{T':Addr}{pos':Pos}{FT:Str},T'≠dz->Tab T' pos' FT H2->Tab T' pos' FT (upd H2 dz (.jD o (.dK pO))):=λ{T' pos' FT} n ⟨p,a,b,cc⟩=>⟨p,by rw [ai n];exact a,b,cc.imp id λ⟨c',e1,e2⟩=>⟨c',e1,by rw [ai (λz=>by rw [z,Mn] at e2;cases e2)];exact e2⟩⟩;have L3:LB K rs aa pO ps R dz dn T1 T3 (upd H2 dz (.jD o (.dK pO))):=by
  refine⟨?_,(Oj.same s2).keep λ_ _ z=>gO Mn z,⟨by rw [ai ndz];exact nm.hd,nm.n1,nm.n2,λp hp=>by rw [ai (R5 p hp)];exact nm.lst p hp⟩,.inr ⟨o,ab⟩,MU Z7 (t1.same s2),MU Z6 (V5.same s2)⟩;rcases s2.seq Xv with (h | ⟨u,h⟩) | h
  .exact .inl (.inl (by rw [ai (λz=>by rw [z,Mn] at h;cases h)];exact h))
  .exact .inl (.inr ⟨u,by rw [ai (λz=>by rw [z,Mn] at h;cases h)];exact h⟩)
  exact .inr h
 have e3:upd H2 dz (.jD o (.dK pO)) dz=some (.jD o (.dK pO)):=ab;have FQ:kS T1 T3 H (upd H2 dz (.jD o (.dK pO))):=λb u n1 n3 hb=>by
  rw [ai (λz=>by rw [z,fz] at hb;cases hb)];exact s2 _ _ (s1 b u n1 hb)
 generalize upd H2 dz (.jD o (.dK pO))=H3 at hD L3 e3 FQ ⊢;have lkz:pO.length=IH.length:=by
  have:=congrArg List.length kz;rwa [av,av] at this
 refine rG (λi ys σ2 H4=>∃ts:List Addr,ys=ts.map V.ref/\(∃y0,σ2=[y0,aG dn])/\aC H3 H4/\H4 D=some (.lst ys)/\ts.length<=i/\Paired (λt h=>ba K H4 t [.str h,.str h]) ts ((IH.take i).filter λz=>!decide (z∈hd aa)))
  ⟨[],rfl,⟨none,rfl⟩,ae hD _,ab,aL _,.nil⟩ (λi ys σ2 H4 _ h=>?_) (λi kv ys σ2 H4 ex h=>?_) (λys σ2 H4 h=>?_)
 .obtain⟨_,_,_,sm,_⟩:=h;exact sm _ _ e3
 .obtain⟨ts,rfl,⟨y0,rfl⟩,sm,e4,lts,pt⟩:=h;obtain⟨z,ezz,ekz⟩:∃z,IH[i]?=some z/\kv.1=Sum.inr z:=by
   have a1:(pO.map (·.1))[i]?=some kv.1:=by rw [aZ,ex];rfl
   rw [kz,aZ] at a1;obtain⟨z,a2,a3⟩:=b_.mp a1;exact⟨z,a2,a3.symm⟩
  rw [ekz];have L4:=L3.same sm;have TU:(bu (ps.map i4) (Sum.inr z)).isSome=decide (z∈hd aa):=by
   rw [il,eI,decide_eq_true_iff,<-pk];rw [gZ];constructor
   .intro h;obtain⟨p,hp,e⟩:=cM.mp h;exact cM.mpr ⟨p,hp,kY e⟩
   intro h;obtain⟨p,hp,e⟩:=cM.mp h;exact cM.mpr ⟨p,hp,congrArg Sum.inr e⟩
  refine goN ?_;refine⟨_,rfl,_,rfl,dn,_,rfl,cE.k (k:=Sum.inr z) L4.nm.hd,_,rfl,?_⟩;rw [TU];have OX:((IH.take (i+1)).filter λz=>!decide (z∈hd aa))=((IH.take i).filter λz=>!decide (z∈hd aa))++(if (!decide (z∈hd aa))=true then [z] else []):=by
   rw [cY,ezz,kM]
   congr 1
   by_cases c:z∈hd aa <;> simp [c]
  refine dA (λcc=>?_) (λcc=>?_)
  .refine⟨_,rfl,_,rfl,lV,λt ht=>?_⟩;have k5:=ae ht (.tup [kV (Sum.inr z),kV (Sum.inr z)]);have v5:ba K (upd H4 t (.tup [kV (Sum.inr z),kV (Sum.inr z)])) t [.str z,.str z]:=ba.of ab;generalize upd H4 t (.tup [kV (Sum.inr z),kV (Sum.inr z)])=H5 at k5 v5;have li:=(bx.mp ex).1;have e5:=k5 _ _ e4;refine⟨e5,bo (by rw [av];omega),ts++[t],by rw [aQ];rfl,⟨_,rfl⟩,λb u hb=>?_,ab,by rw [bW,uE];omega,?_⟩
   .rw [ai (λz=>by rw [z,hD] at hb;cases hb)];exact k5 _ _ (sm b u hb)
   rw [OX,az cc];exact fN (Paired.gS pt λ_ _ z=>aR e5 (k5.tup z)) (aR e5 v5)
  refine⟨ts,rfl,⟨_,rfl⟩,sm,e4,∅,?_⟩;rw [OX,ay cc,fh];exact pt
 obtain⟨ts,rfl,_,s4,e4,lts,pt⟩:=h;rw [lkz,dB] at pt;have WS:∀z,z∉hd aa->(g z).isSome=true->z∈IH.filter λz=>!decide (z∈hd aa):=λz hz gz=>by
  refine fV.mpr ⟨?_,by simpa using hz⟩;have a1:(bu pO (Sum.inr z)).isSome=true:=by rw [vz,nW];exact gz
  rw [eI,kz] at a1;exact cV.mp a1
 have Kn:(IH.filter λz=>!decide (z∈hd aa)).length<=20000:=dI (jG _ _) ∅;generalize IH.filter (λz=>!decide (z∈hd aa))=ws at pt WS Kn;have kp:Paired (λt (kv:aN×V)=>ba K H4 t [kV kv.1,kv.2]) ts (ws.map λh=>((Sum.inr h:aN),V.str h)):=cQ pt λ_ _ z=>z;refine⟨D,ts,_,rfl,e4,kp,λdt vE=>?_⟩;have kt:∀z∈ws,(Sum.inr z:aN)∈(cT (ws.map λh=>((Sum.inr h:aN),V.str h)) []).map (·.1):=λz hz=>by
  rw [ot ws [] [] rfl];exact cV.mpr ((gJ ws [] z).mpr (.inr hz))
 have lkt:(cT (ws.map λh=>((Sum.inr h:aN),V.str h)) []).length<=20000:=by
  have a:=congrArg List.length (ot ws [] [] rfl);rw [av,av] at a;have:=iA ws [];simp only [jq] at this;omega
 generalize cT (ws.map λh=>((Sum.inr h:aN),V.str h)) []=NS at kt lkt;have s5:=s4.trans (ae vE (.dK NS));have e5:upd H4 dt (.dK NS) dt=some (.dK NS):=ab;have I_:H3 dt=none:=s4.free vE;generalize upd H4 dt (.dK NS)=H5 at s5 e5;have L5:=L3.same s5;refine goN ?_
 ac_rfl
 refine⟨_,rfl,R,rs,aa,rfl,L5.hR,L5.cK,∅,λDH H6 fH s6 eH=>?_⟩;have L6:=L5.same s6;have Ks:=iA (aa.map (·.1)) [];simp only [jq,av] at Ks;have gz:∀z∈hd aa,∃n,g z=some n:=λz hz=>by
  obtain⟨n,e,_⟩:=EU g PK V_ z hz;exact⟨n,e⟩
 refine⟨L6.t3,DH,hd aa,dz,pO,λz=>(g z).getD 0,rfl,aD.of eH,by unfold hd;omega,rfl,L6.rz,λz hz=>by obtain⟨n,e⟩:=gz z hz;rw [vz,e];show _=some (V.int ((g z).getD 0));rw [e];rfl,λl Jn H7 s7 Zt fl pe pw el=>?_⟩;have L7:=L6.Ni nT s7 Zt;have Sd:dt≠T3:=λz=>by
  obtain⟨p,a,_⟩:=L5.t3;rw [<-z,e5] at a;cases a
 have e7:=s7 _ _ Sd (s6 _ _ e5);have Wu:dn≠dt:=λz=>by have a:=L3.nm.hd;rw [z,I_] at a;cases a
 have Wn:dz≠dt:=λz=>by rw [<-z,e3] at I_;cases I_
 have JR:kS T1 T3 H H7:=λb u n1 n3 hb=>s7 _ _ n3 (s6 _ _ (s5 _ _ (FQ b u n1 n3 hb)));have R8:l≠dt:=λz=>by rw [z,s6 _ _ e5] at fl;cases fl
 have nn:=Ki PK;have hlz:Jn.length < 64:=by rw [pe.length_eq];unfold hd;omega
 have Ph:∀ru∈aa,∀p∈ru.2,(g p).isSome=true:=λru jj p hp=>by
  by_cases hh:p∈hd aa
  .obtain⟨n,e⟩:=gz p hh;rw [e];rfl
  have j0:∃n,xV aa p=some n:=⟨0,az (Ad _ _ [] p (.inr ⟨qh.mpr ⟨ru,jj,hp⟩,hh⟩))⟩;have:∃n,g p=some n:=dU.keep (J:=λg=>∃n,g p=some n) (λg ru ⟨n,e⟩ m f=>by obtain⟨k,a,_⟩:=le_step f p n e;exact⟨k,a⟩) PK j0;obtain⟨n,e⟩:=this;rw [e];rfl
 have ll:=bK cK
 let z9:z_:=λi σ H8=>∃(kvs:List (aN×V))(y3 y4:Option V),σ=[aG R,aG dn,aG dt,y3,y4,aG dz]/\fK dt H7 H8/\H8 dt=some (.dK kvs)/\kvs.length<=20000+i/\(∀z∈ws,(Sum.inr z:aN)∈kvs.map (·.1))/\(∀z∈Jn.take i,(Sum.inr z:aN)∈kvs.map (·.1))
 refine⟨l,rfl,⟨_,aD.of el⟩,eZ (xs:=Jn.map V.str) z9 ⟨NS,_,_,rfl,λ_ _ _ h=>h,e7,∅,kt,λz hz=>by cases hz⟩ ?_ ?_ ?_⟩
 .rintro i σ H8 _ ⟨kvs,y3,y4,rfl,s8,_⟩;exact aD.of (s8 _ _ R8 el)
 .rintro i x σ H8 ex ⟨kvs,y3,y4,rfl,s8,e8,Su,SA,NR⟩
  ac_nf0
  rw [aZ] at ex;obtain⟨z,Qw,rfl⟩:=b_.mp ex;have li:=(bx.mp Qw).1;have hz:z∈hd aa:=pe.mem_iff.mp (cv Qw);obtain⟨n,UQ⟩:=gz z hz;have L8:=L7.IJ e7 Wu Wn s8;obtain⟨p,hp,Tu⟩:=cM.mp (show z∈ps.map (·.1) by rw [pk];exact hz);refine goN ?_
  ac_rfl
  have hgn:cE H8 dn (.str z) (some (.ref p.2)):=by
   have:=cE.k (k:=Sum.inr z) L8.nm.hd;rw [<-Tu,gE ps L8.nm.n1 p hp] at this;rw [Tu] at this;exact this
  have Qe:=L8.nm.lst p hp;have Qe:H8 p.2=some (.lst ((nums aa z aa.length).map V.int)):=by rw [<-Tu];exact Qe
  have numOf:∀(m:Nat) (v:Int),(nums aa z aa.length)[m]?=some v->∃(j:Nat)(ru:aB),v=(j:Int)/\aa[j]?=some ru/\ru.1=z:=λm v e=>by
   unfold nums at e;rw [aZ] at e;obtain⟨j,e1,rfl⟩:=b_.mp e;have hj:=(fV.mp (cv e1)).2;have hj:(aa[j]?.map (·.1))=some z:=dF hj;obtain⟨ru,e2,e3⟩:=b_.mp hj;exact⟨j,ru,rfl,e2,e3⟩
  have aaa:=wN aa z aa.length
  let good:Int->Bool:=λv=>match aa[v.toNat]? with | some ru=>decide (aO g ru=n) | none=>false
  have wit:∃v∈nums aa z aa.length,good v=true:=by
   obtain⟨ru,jj,q1,_,q3⟩:=B2 (Q7 aa) PK V_ hz UQ;obtain⟨j,ej⟩:=jF jj;have lj:=(bx.mp ej).1;refine⟨(j:Int),cM.mpr ⟨j,fV.mpr ⟨lZ.mpr lj,fO (by rw [ej];exact congrArg some q1)⟩,rfl⟩,?_⟩;show (match aa[(j:Int).toNat]? with | some ru=>decide (aO g ru=n) | none=>false)=true
   rw [kK,ej];exact fO q3
  refine⟨_,rfl,_,rfl,dn,_,rfl,hgn,p.2,rfl,⟨_,aD.of Qe⟩,λD9 IZ=>bq (xs:=(nums aa z aa.length).map V.int) (λm ys σ2 H9=>ys=(((nums aa z aa.length).take m).filter good).map V.int/\(∃y0,σ2=[y0,aG dz,aG R,some (.str z)])/\aC H8 H9/\H9 D9=some (.lst ys))
   ⟨rfl,⟨none,rfl⟩,ae IZ _,ab⟩ (λm ys σ2 H9 _ h=>?_) (λm x ys σ2 H9 em h=>?_) (λys σ2 H9 h=>?_)⟩
  .obtain⟨_,_,sm,_⟩:=h;exact aD.of (sm _ _ Qe)
  .obtain⟨rfl,⟨y0,rfl⟩,sm,e9⟩:=h;rw [aZ] at em;obtain⟨v,ev,rfl⟩:=b_.mp em;have lm:=(bx.mp ev).1;obtain⟨j,ru,rfl,ej,QB⟩:=numOf m v ev;have L9:=L8.same sm;obtain⟨r,er,rv⟩:=Paired.at_ L9.cK j ru ej;have Pd:ik (rs.map V.ref) (j:Int)=some (.ref r):=bE (by rw [aZ,er];rfl);have gj:good (j:Int)=decide (V.int (aO g ru)=V.int n):=by
    show (match aa[(j:Int).toNat]? with | some ru=>decide (aO g ru=n) | none=>false)=_
    rw [kK,ej];show decide (aO g ru=n)=_;by_cases c:aO g ru=n
    .rw [fO c,fO (congrArg V.int c)]
    rw [gy c,gy (λy=>c (by injection y))]
   refine goN ?_;refine⟨_,rfl,_,rfl,_,rfl,R,_,_,_,rfl,rfl,L9.hR,Pd,dz,r,pO,g,ru,rfl,L9.rz,vz,rv,h8 ru (cv ej),Ph ru (cv ej),λpG rY=>?_⟩;have hgz:cE pG dz (.str z) (some (.int n)):=by
    have:=cE.r (k:=Sum.inr z) (L9.same rY).rz;rw [vz,UQ] at this;exact this
   refine⟨_,rfl,_,rfl,dz,_,rfl,hgz,rfl,_,rfl,?_⟩;rw [<-gj];have OX:((nums aa z aa.length).take (m+1)).filter good=((nums aa z aa.length).take m).filter good++(if good (j:Int)=true then [(j:Int)] else []):=by
    rw [cY,ev,kM]
    congr 1
    show List.filter good [(j:Int)]=_;by_cases c:good (j:Int)=true
    .rw [az c,qf,az c,List.filter_nil]
    rw [ay c,qf,ay c,List.filter_nil]
   have lf:(((nums aa z aa.length).take m).filter good).length<=1000:=dI (jG _ _) (by rw [cX];omega);refine dA (λcc=>?_) (λcc=>?_)
   .refine⟨_,rfl,rY _ _ e9,bo (by rw [av];omega),by rw [OX,az cc,aQ];rfl,⟨_,rfl⟩,λb u hb=>?_,ab⟩;rw [ai (λz=>by rw [z,IZ] at hb;cases hb)];exact rY _ _ (sm b u hb)
   exact⟨by rw [OX,ay cc,fh],⟨_,rfl⟩,sm.trans rY,rY _ _ e9⟩
  obtain⟨rfl,_,s9,e9⟩:=h;rw [av,dB] at e9;refine goN ?_
  ac_rfl
  have L9:=L8.same s9;cases hf:(nums aa z aa.length).filter good with
  | nil =>
   obtain⟨v,hv,gv⟩:=wit;have:v∈(nums aa z aa.length).filter good:=fV.mpr ⟨hv,gv⟩;rw [hf] at this;cases this
  | cons v0 vr =>
   rw [hf] at e9;have TK:v0∈(nums aa z aa.length).filter good:=by rw [hf];exact bG
   obtain⟨hm1,Qg⟩:=fV.mp TK;obtain⟨m0,UN⟩:=jF hm1;obtain⟨j,ru,rfl,ej,QB⟩:=numOf m0 v0 UN;have hsz:aO g ru=n:=by
    have Qg:(match aa[(j:Int).toNat]? with | some ru=>decide (aO g ru=n) | none=>false)=true:=Qg
    rw [kK,ej] at Qg;exact dF Qg
   have jj:=cv ej;obtain⟨r,er,pp,v1,v2⟩:=Paired.at_ L9.cK j ru ej;have Pd:ik (rs.map V.ref) (j:Int)=some (.ref r):=bE (by rw [aZ,er];rfl);have lY:ik (V.int (j:Int)::vr.map V.int) 0=some (.int (j:Int)):=bE (j:=0) rfl;have e9:H9 D9=some (.lst (V.int (j:Int)::vr.map V.int)):=e9;have e89:=s9 _ _ e8;have r8:=h8 ru jj;have SG:∀p∈ru.2,(Sum.inr p:aN)∈kvs.map (·.1):=λy hy=>by
    obtain⟨my,ey⟩:=mh.mp (Ph ru jj y hy);by_cases hh:y∈hd aa
    .refine NR y (uV pw Qw (pe.mem_iff.mpr hh) ?_);show (g y).getD 0 < (g z).getD 0;rw [ey,UQ];show my < n;rw [<-hsz];exact Bx nn hy ey
    exact SA y (WS y hh (by rw [ey];rfl))
   refine⟨_,rfl,D9,_,_,_,rfl,rfl,aD.of e9,lY,_,rfl,_,rfl,D9,_,_,_,rfl,rfl,aD.of e9,lY,R,_,_,_,rfl,rfl,L9.hR,Pd,r,_,_,_,rfl,rfl,v1,rfl,pp,rfl,⟨_,v2⟩,λVR Ur=>rC (zs:=ru.2) rfl v2 ∅ e89 SG Ur λys pG ly rY CK=>?_⟩;refine⟨VR,ys,rfl,.inl ⟨aD.of CK,λt2 Uy=>⟨lV,λEs Lh=>?_⟩⟩⟩;have IL:=(ae Uy (.tup ys)).trans (ae Lh (.tup [.int (j:Int),.ref t2]));generalize upd (upd pG t2 (.tup ys)) Es (.tup [.int (j:Int),.ref t2])=si at IL;have Nn:=(s9.trans rY).trans IL;have CJ:=Nn _ _ e8;refine⟨_,rfl,_,rfl,dt,_,rfl,.inl ⟨kvs,Sum.inr z,CJ,rfl,bo ∅,rfl⟩,?_⟩;have EF:∀y:aN,(y∈kvs.map (·.1)\/y=Sum.inr z)->y∈(bP kvs (Sum.inr z) (.ref Es)).map (·.1):=λy hy=>by
    by_cases hk:(Sum.inr z:aN)∈kvs.map (·.1)
    .rw [yQ hk];rcases hy with hy | rfl
     .exact hy
     exact hk
    rw [ir hk];rcases hy with hy | rfl
    .exact mf _ hy
    exact fX _ bG
   have aad:(bP kvs (Sum.inr z) (.ref Es)).length<=kvs.length+1:=by
    have a:=congrArg List.length (Eq.refl ((bP kvs (Sum.inr z) (.ref Es)).map (·.1)));by_cases hk:(Sum.inr z:aN)∈kvs.map (·.1)
    .have b:=congrArg List.length (yQ (v:=.ref Es) hk);rw [av,av] at b;omega
    have b:=congrArg List.length (ir (v:=.ref Es) hk);rw [av,bW,av,uE] at b;omega
   refine⟨_,_,_,rfl,λb u nb hb=>?_,ab,∅,λy hy=>EF _ (.inl (SA y hy)),λy hy=>?_⟩
   .rw [ai nb];exact Nn _ _ (s8 b u nb hb)
   rw [cY,Qw] at hy;rcases aX.mp hy with hy | hy
   .exact EF _ (.inl (NR y hy))
   exact EF _ (.inr (by rw [bH.mp (show y∈[z] from hy)]))
 rintro σ H8 ⟨kvs,y3,y4,rfl,s8,e8,Su,SA,NR⟩;rw [av,dB] at NR;have L8:=L7.IJ e7 Wu Wn s8;refine⟨_,rfl,q dt kvs H8 ?_ (λb u n1 n3 hb=>?_) L8.t1 L8.t3 e8 λz hz=>NR z (pe.mem_iff.mpr hz)⟩
 .cases c:H dt with
  | none=>rfl
  | some u =>
   by_cases h1:dt=T1
   .obtain⟨pp,a,_⟩:=L3.t1;rw [<-h1,I_] at a;cases a
   rw [FQ dt u h1 Sd c] at I_;cases I_
 refine s8 _ _ (λz=>?_) (JR b u n1 n3 hb);rw [z] at hb;rw [FQ dt u (λy=>n1 (z.trans y)) Sd hb] at I_;cases I_
end
end gu
namespace L2
open PySem PySem.Spec PyProof.Rows
section
variable {prog:Program}{w:World}{A:Around}{E:Value->Shared->Prop}
def uQ {h h':Heap}{ks:List aN}{a:Addr}(p:(tupleKind (a7 prog w)).is h ks a)(k:∀b o,o.cls=.type "tuple" -> h.get? b=some o->h'.get? b=some o):(tupleKind (a7 prog w)).is h' ks a :=
 let ⟨o,aJ,n,h1,h2,h3,h4⟩:=p;⟨o,aJ,n,k a o h2 h1,h2,h3,h4⟩
def vI {h h':Heap}{d:Addr}{xs:List (List aN×Addr×Value)}(hd:h.DictOfH (tupleKind (a7 prog w)) d xs)(kd:∀o,h.get? d=some o->h'.get? d=some o)(k:∀b o,o.cls=.type "tuple" -> h.get? b=some o->h'.get? b=some o) :
  h'.DictOfH (tupleKind (a7 prog w)) d xs :=
 let ⟨o,es,ep,q,c,dd,e,is,n⟩:=hd;⟨o,es,ep,kd o q,c,dd,e,λx hx=>uQ (is x hx) k,n⟩
def ku (prog:Program)(w:World)(h:Heap)(u:Value)(kv:List aN×Addr×Value):Prop :=
 ∃t n o,u=.ref t/\(tupleKind (a7 prog w)).is h kv.1 kv.2.1/\h.get? t=some o/\o.cls=.type "tuple" /\ o.data=.seq #[.ref kv.2.1,kv.2.2] n
def ku.keep {h h':Heap}{u:Value}{kv:List aN×Addr×Value}(p:ku prog w h u kv)(k:∀b o,o.cls=.type "tuple" -> h.get? b=some o->h'.get? b=some o):ku prog w h' u kv :=
 let ⟨t,n,o,a,b,c,d,e⟩:=p;⟨t,n,o,a,uQ b k,k t o d c,d,e⟩
def A7 (more xs:List (List aN×Addr×Value)):List (List aN×Addr×Value):=more.foldl (λa p=>storedH a p.1 p.2.1 p.2.2) xs
def HN {R:Result->Shared->Prop}{d it l:Addr}{items:Array Value}(hh:A.handled=none)(hu:A.units+1 < cLine):∀(more:List (List aN×Addr×Value)) (i:Nat)(s:Shared)(kvs:List (List aN×Addr×Value)) (j:Int)(tk:Tok),items.size=i+more.length ->
  s.heap.DictOfH (tupleKind (a7 prog w)) d kvs->s.heap.IsListIter it l i->s.heap.IsList l items->(∀m kv,more[m]?=some kv->∃u,items[i+m]?=some u/\ku prog w s.heap u kv)->kvs.length+more.length<=sizeLine ->
  (∀h' t',h'.DictOfH (tupleKind (a7 prog w)) d (A7 more kvs)->(∀b o,b≠d->b≠it->s.heap.get? b=some o->h'.get? b=some o)->R (.ok (.ret .none)) { s with heap:=h',toks:=t' }) ->
  codeAny (model prog w) A (.builtin "dict.update.loop" ⟨[.ref d,.ref it,.int j tk,.none],[]⟩) R s:=by
 intro more
 induction more with
 | nil =>
  intro i s kvs j tk hi hd hit hl hp hz hR;refine nK kq ?_;rw [qk e_ _];unfold Builtin.«dict.update.loop»;have hs:items[i]?=none:=Array.getElem?_eq_none (by rw [hi];exact aL _);refine aA (uC hh hit hl hs λh1 eb=>?_);have nd:d≠it:=λz=>by
   obtain⟨o,_,_,q,_,c,_⟩:=hd;obtain⟨o',q',_,c'⟩:=hit;rw [z,q'] at q;cases q;rw [c'] at c;cases c
  have nt:∀b o,o.cls=.type "tuple" -> s.heap.get? b=some o->b≠it:=λb o c q z=>by
   obtain⟨o',q',c',_⟩:=hit;rw [z,q'] at q;cases q;rw [c'] at c;exact absurd c nofun
  show wpAny _ _ (Builtin.Dict.addKeywords d [] >>= _) _ _ _;exact aA (bj (bj (hR h1 s.toks (vI hd (λo q=>eb d o nd q) λb o c q=>eb b o (nt b o c q) q) λb o n1 n2 q=>eb b o n2 q)))
 | cons kv more ih =>
  intro i s kvs j tk hi hd hit hl hp hz hR;refine nK kq ?_;rw [qk e_ _];unfold Builtin.«dict.update.loop»;obtain⟨u,hu1,t,n,o,rfl,hk,ho,hc,vE⟩:=hp 0 kv rfl;refine aA (wpAny_pyNext_list_item hit hl hu1 λh1 SJ sb=>?_);have nd:d≠it:=λz=>by
   obtain⟨o,_,_,q,_,c,_⟩:=hd;obtain⟨o',q',_,c'⟩:=hit;rw [z,q'] at q;cases q;rw [c'] at c;cases c
  have n2:∀b o,(o.cls=.type "tuple" \/ o.cls=.type "list")->s.heap.get? b=some o->b≠d/\b≠it:=by
   intro b o c q;constructor
   .intro z;obtain⟨o',q',c'⟩:=hd.typeIs;rw [z,q'] at q;cases q;rw [c'] at c;rcases c with c | c <;> exact absurd c nofun
   intro z;obtain⟨o',q',c',_⟩:=hit;rw [z,q'] at q;cases q;rw [c'] at c;rcases c with c | c <;> exact absurd c nofun
  have nt:∀b o,o.cls=.type "tuple" -> s.heap.get? b=some o->b≠d/\b≠it:=λb o c q=>n2 b o (.inl c) q;have nl:l≠d/\l≠it:=by
   obtain⟨o,q,c,_⟩:=hl;exact n2 l o (.inr c) q
  have SE:∀b o,o.cls=.type "tuple" -> s.heap.get? b=some o->h1.get? b=some o:=λb o c q=>(sb.2 b (nt b o c q).2).trans q;have Ou:h1.get? t=some o:=SE t o hc ho;have K0:h1.DictOfH (tupleKind (a7 prog w)) d kvs:=vI hd (λo q=>(sb.2 d nd).trans q) SE;refine aA (jE (aA (wpAny_tryCatch ?_)));unfold Builtin.Dict.pairItems;refine aA (nF (T := "tuple") ⟨o,Ou,hc⟩ ?_);rw [az nofun];refine aA (p6 Ou vE (bj ?_));show wpAny _ _ (holding [.ref kv.2.1,kv.2.2] (dictSet d (.ref kv.2.1) kv.2.2)) _ _ _;rw [bV] at hz hi;refine jE (wpAny_dictSet_heap (s:={ s with heap:=h1 }) (nU hu) (uQ hk SE) K0 (λh2 hd2 Nl=>?_) ∅);have kk:∀b o,b≠d->b≠it->s.heap.get? b=some o->h2.get? b=some o:=λb o n1 n2 q=>(Nl.2 b n1).trans ((sb.2 b n2).trans q);have ln:(storedH kvs kv.1 kv.2.1 kv.2.2).length<=kvs.length+1:=by
   unfold storedH
   split
   .simp
   simp
  refine bj ⟨nH e_ _,ih (i+1) _ _ _ _ ∅ hd2 (SJ.at λo q=>(Nl.2 it (fY nd)).trans q) (hl.at λo q=>kk l o nl.1 nl.2 q) (λm SD e=>?_) ∅ λh3 t3 gY k3=>?_⟩
  .obtain⟨u',e1,e2⟩:=hp (m+1) SD e;exact⟨u',by rw [<-e1];congr 1;omega,e2.keep λb o c q=>kk b o (nt b o c q).1 (nt b o c q).2 q⟩
  exact hR h3 t3 gY λb o n1 n2 q=>k3 b o n1 n2 (kk b o n1 n2 q)
def pE {s:Shared}{l:Addr}{items:Array Value}{n:Nat}{more:List (List aN×Addr×Value)}{Q:Value->Shared->Prop}(hh:A.handled=none)(hu:A.units+2 < cLine)(hx:s.heap.get? l=some { cls:=.type "list",data:=.seq items n })
  (hi:items.size=more.length)(hp:∀(m:Nat) kv,more[m]?=some kv->∃u,items[m]?=some u/\ku prog w s.heap u kv)(hz:more.length<=sizeLine)
  (h:∀h' t',h'.DictOfH (tupleKind (a7 prog w)) s.heap.objs.size (A7 more [])->(∀b o,s.heap.get? b=some o->h'.get? b=some o)->Q (.ref s.heap.objs.size) { s with heap:=h',toks:=t' }) :
  wpAny (model prog w) A (call (.type "dict") [.ref l]) Q E s:=by
 refine callType_codes (Q₁:=λobj s₁=>obj=.ref s.heap.objs.size/\s₁={ s with heap:=s.heap.push { cls:=.type "dict",data:=.dict #[] } }) F.kt_called_dict (F.kt_typeCall_dict_1 _) F.entry_dict_init (kt_code_dict_new _ ⟨rfl,rfl⟩) ?_;rintro obj s₁ ⟨rfl,rfl⟩;have zi:(s.heap.push { cls:=.type "dict",data:=.dict #[] }).DictOfH (tupleKind (a7 prog w)) s.heap.objs.size []:=Heap.DictOfH.new s.heap;have l0:=bZ { cls:=.type "dict",data:=.dict #[] } hx;refine⟨zi.typeIs,F.args_dict_init_2 _ _,?_⟩;unfold Builtin.«dict.__init__» Builtin.Dict.selfAndRest;refine aA (aA (wpAny_notOrdered_dict zi.typeIs (bj ?_)));show wpAny _ _ (Builtin.Dict.updateFrom "dict.__init__" s.heap.objs.size (.ref l) [] .none) _ _ _;unfold Builtin.Dict.updateFrom;refine aA (nF (T := "list") ⟨_,l0,rfl⟩ ?_);rw [az yn];refine aA (oq l0 hh λh1 t1 k1=>?_);refine aA (wpAny_rule ?_);have l1:=k1 _ _ l0;refine aA (kI ⟨_,l1,rfl,_,rfl⟩ ?_);have k2:∀b o,s.heap.get? b=some o->(h1.push { cls:=.type "list_iterator",data:=.fields #[.ref l,.int 0 0] }).get? b=some o:=λb o q=>bZ _ (k1 _ _ (bZ _ q));refine bj ⟨nH e_ _,HN (A:=A.in1) (l:=l) (items:=items) (show A.in1.handled=none from hh) (show A.in1.units+1 < cLine by rw [Around.in1_units];omega) more 0 _ [] _ _ (by rw [hi,nI]) ?_ ⟨_,de _ rfl,rfl,rfl⟩ ⟨_,k2 _ _ hx,rfl,n,rfl⟩ (λm kv e=>?_) (by simpa using hz) λh' t' hd k3=>?_⟩
 .exact vI zi (λo q=>bZ _ (k1 _ _ q)) λb o _ q=>bZ _ (k1 _ _ q)
 .obtain⟨u,e1,e2⟩:=hp m kv e;exact⟨u,by rw [nI];exact e1,e2.keep λb o _ q=>k2 b o q⟩
 refine⟨rfl,h h' t' hd λb o q=>k3 b o (bT (bc q)) ?_ (k2 b o q)⟩;have:=bc (k1 _ _ (bZ { cls:=.type "dict",data:=.dict #[] } q));exact bT this
end
def ng (kvs bF:List (List aN×V)):List (List aN×V):=kvs.foldl (λa p=>bP a p.1 p.2) bF
theorem tV {H:Hp}:∀{kvs:List (List aN×V)}{vs:List (List aN×Addr×Value)}{bF:List (List aN×V)}{Fm:List (List aN×Addr×Value)},KT H kvs vs->KT H bF Fm->KT H (ng kvs bF) (A7 vs Fm)
 | _,_,_,_,.nil,h=>h
 | _,_,_,_,.cons (a:=p) (b:=q) r t,h=>by
  obtain⟨e,hb,rv⟩:=r;show KT H (ng _ (bP _ p.1 p.2)) (A7 _ (storedH _ q.1 q.2.1 q.2.2));rw [<-e];exact tV t (h.put p.1 hb rv)
theorem tW:∀(kvs bF:List (List aN×V)),(ng kvs bF).length<=bF.length+kvs.length
 | [],bF=>by simp [ng]
 | p::r,bF=>by
  have:=tW r (bP bF p.1 p.2);have:=eW bF p.1 p.2;show (ng r (bP bF p.1 p.2)).length<=_;rw [bV];omega
section
variable {X:Cx}{ah:List (Addr×Obj)}{σ:St}{H:Hp}{s:Shared}
abbrev Mz (K:aY)(H:Hp)(t:Addr)(kv:List aN×V):Prop:=∃b,ba K H t [.ref b,kv.2]/\H b=some (.tup (kv.1.map kV))
theorem tG (I:Inv X ah σ H s):∀{ts:List Addr}{kvs:List (List aN×V)}{aJ:List Value},Paired (Mz X.K H) ts kvs->aT (ts.map V.ref) aJ ->
  ∃vs:List (List aN×Addr×Value),KT H kvs vs/\Paired (λu kv=>ku X.prog X.w s.heap u kv) aJ vs
 | [],_,_,.nil,r=>by
  rw [jm] at r;cases r;exact⟨[],.nil,.nil⟩
 | t::ts,kv::kvs,_,.cons h p,r=>by
  rw [br] at r;cases r with
  | cons r1 r2 =>
   obtain⟨vs,e1,e2⟩:=tG I p r2;obtain⟨b,h0,hb⟩:=h;obtain⟨aJ,rv,⟨o,h1,h2,n,h3⟩,_⟩:=I.tuple h0;obtain⟨u1,u2,rfl,q1,q2⟩:=vals2 rv;cases (show u1=Value.ref b from q1);exact⟨(kv.1,b,u2)::vs,.cons ⟨rfl,hb,q2⟩ e1,.cons ⟨t,n,o,r1,lN I.bU hb,h1,h2,h3⟩ e2⟩
def xG (hc:X.calm=true)(hu:X.A.units+2 < cLine):eK X (.type "dict") (λxs H Q=>∃a ts kvs,xs=[.ref a]/\H a=some (.lst (ts.map V.ref))/\Paired (Mz X.K H) ts kvs/\∀d,H d=none->Q (.ref d) (upd H d (.dT (ng kvs [])))):=by
 intro ah s σ H xs us Q I r h;obtain⟨a,ts,kvs,rfl,e,p,q⟩:=h;obtain⟨u,rfl,rx⟩:=vals1 r;cases (show u=Value.ref a from rx);obtain⟨z,aJ,n,rv,ho⟩:=(show cC X.prog X.w H s.heap a (.lst _) from I.bU a _ e);obtain⟨vs,r1,r2⟩:=tG I p rv;have l1:=bK r2;have l2:=bK r1;have l3:=bK p;rw [av] at z;refine pE (I.ok.hd hc) hu ho (by simpa using l1) (λm kv em=>?_) ∅ λh' t' hd kk=>?_
 .obtain⟨u,e1,e2⟩:=Paired.at_ r2 m kv em;exact⟨u,by simpa using e1,e2⟩
 have fr:=I.bU.fresh (aL s.heap.objs.size);have new:cC X.prog X.w (upd H s.heap.objs.size (.dT (ng kvs []))) h' s.heap.objs.size (.dT (ng kvs [])):=by
  obtain⟨o,es,ep,hq,h2,h3,h4,_,h5⟩:=hd;refine⟨?_,?_,_,(tV r1 .nil).keeps λc ys ec=>?_,o,es,ep,hq,h2,h3,h4,h5⟩
  .have:=tW kvs [];simp at this;omega
  .have:=I.big;exact jt.mpr (jo this)
  rw [ai (aq ec fr)];exact ec
 exact⟨.ref s.heap.objs.size,_,I.laid (t':=t') kk (aL _) new,rfl,q _ fr⟩
end
open PySem M11
def Ct {K:aY}{H:Hp}{bg D:Addr}{ts:List Addr}{cI:List Be}{σ:St}{x1 x2 x3 x4:Str}{Qp:Hp->Prop}(hb:aD K H bg (ts.map V.ref))(Mc:Paired (λt (b:Be)=>ba K H t [.str b.1,.str b.2.1,.int (b.2.2.1:Int),.int (b.2.2.2:Int)]) ts cI)(bM:cI.length<=900000)(hD:H D=none)
  (q:∀us H2,aC H H2->H2 D=some (.lst (us.map V.ref))->Paired (λu (b:Be)=>∃v,Mz K H2 u ([Sum.inr b.1,Sum.inr b.2.1],.ref v)) us cI->Qp H2) :
  ∃W:Nat->Nat->List V->St->Hp->Prop,(∃m,W 0 m [] (eM [x1,x2,x3,x4] [] σ) (upd H D (.lst []))) /\
 ∀i m ys σ' H,W i m ys σ' H->((kW K bg).stop i H/\Qp H)\/((kW K bg).go i H/\∃m',m' < m/\∀x H',(kW K bg).mi i H x H'->Cd K 4 (j4 (eJ 0) (j4 (eJ 1) (j4 (eJ 2) (j4 (eJ 3) E5)))) x σ' H' λσ2 H2=>iM σ2 H2 λb H3 =>
  if b=true then sk (fZ (sk (fZ (gF 0) (fZ (gF 1) pq))) (fZ (sk (fZ (gF 2) (fZ (gF 3) pq))) pq)) σ2 H3 λy H4=>H4 D=some (.lst ys)/\ys.length < sizeLine/\W (i+1) m' (ys++[y]) σ2 (upd H4 D (.lst (ys++[y]))) else W (i+1) m' ys σ2 H3):=by
 have ll:=bK Mc;refine bq (xs:=ts.map V.ref) (λi ys σ2 H2=>∃us:List Addr,ys=us.map V.ref/\us.length=i/\Paired (λu (b:Be)=>∃v,Mz K H2 u ([Sum.inr b.1,Sum.inr b.2.1],.ref v)) us (cI.take i)/\(∃y0 y1 y2 y3,σ2=[y0,y1,y2,y3])/\aC H H2/\H2 D=some (.lst ys))
  ⟨[],rfl,rfl,.nil,⟨none,none,none,none,rfl⟩,ae hD _,ab⟩ (λi ys σ2 H2 _ h=>?_) (λi x ys σ2 H2 ex h=>?_) (λys σ2 H2 h=>?_)
 .obtain⟨_,_,_,_,_,sm,_⟩:=h;exact sm.seq hb
 .obtain⟨us,rfl,hu,hp,⟨y0,y1,y2,y3,rfl⟩,sm,hd⟩:=h;rw [aZ] at ex;obtain⟨r,er,rfl⟩:=b_.mp ex;have lr:=(bx.mp er).1;obtain⟨b,e1⟩:∃b,cI[i]?=some b:=⟨cI[i]'∅,dw ∅⟩;obtain⟨r',Lj,v1⟩:=Paired.at_ Mc i b e1;rw [er] at Lj;cases Lj;have li:=(bx.mp e1).1;refine⟨r,_,rfl,sm.tup v1,rfl,_,_,rfl,_,_,rfl,_,_,rfl,_,_,rfl,rfl,?_⟩;refine sD ?_;refine⟨_,rfl,_,rfl,lV,λk hk=>⟨_,rfl,_,rfl,lV,λv hv=>⟨lV,λu WU=>?_⟩⟩⟩;have s3:=(ae hk (.tup [V.str b.1,V.str b.2.1])).trans ((ae hv (.tup [V.int (b.2.2.1:Int),V.int (b.2.2.2:Int)])).trans (ae WU (.tup [.ref k,.ref v])));have ek:=((ae hv (.tup [V.int (b.2.2.1:Int),V.int (b.2.2.2:Int)])).trans (ae WU (.tup [.ref k,.ref v]))) k _ ab;have eu:ba K (upd (upd (upd H2 k (.tup [V.str b.1,V.str b.2.1])) v (.tup [V.int (b.2.2.1:Int),V.int (b.2.2.2:Int)])) u (.tup [.ref k,.ref v])) u [.ref k,.ref v]:=ba.of ab;generalize upd (upd (upd H2 k (.tup [V.str b.1,V.str b.2.1])) v (.tup [V.int (b.2.2.1:Int),V.int (b.2.2.2:Int)])) u (.tup [.ref k,.ref v])=H4 at s3 ek eu;have xb:=s3 _ _ hd;refine⟨xb,bo (by rw [av];omega),us++[u],by rw [aQ];rfl,by rw [bW,hu];rfl,?_,⟨_,_,_,_,rfl⟩,?_,ab⟩
  .rw [cY,e1];have kD:k≠D:=λz=>by rw [z,xb] at ek;cases ek
   refine fN (Paired.gS hp λu' b' bh=>?_) ⟨v,k,aR xb eu,by rw [ai kD];exact ek⟩;obtain⟨v',bb,p1,p2⟩:=bh;exact⟨v',bb,aR xb (s3.tup p1),by rw [ai (λz=>by rw [z,hd] at p2;cases p2)];exact s3 _ _ p2⟩
  intro c o hc;rw [ai (λz=>by rw [z,hD] at hc;cases hc)];exact s3 _ _ (sm c o hc)
 obtain⟨us,rfl,hu,hp,_,sm,hd⟩:=h;rw [av,ll,dB] at hp;exact q us H2 sm hd hp
theorem DK {K:aY}{H:Hp}:∀{us:List Addr}{cI:List Be},Paired (λu (b:Be)=>∃v,Mz K H u ([Sum.inr b.1,Sum.inr b.2.1],.ref v)) us cI->∃kvs,Paired (Mz K H) us kvs
 | _,_,.nil=>⟨[],.nil⟩
 | _,_,.cons ⟨v,h⟩ t=>let ⟨kvs,p⟩:=DK t;⟨_::kvs,.cons h p⟩
end L2
namespace gu
open PySem L2 M11
def Tab.s2 {T T1 T2:Addr}{p p1 p2:Pos}{q q1 q2:Str}{H H':Hp}(h:Tab T p q H)(s:kS T1 T2 H H')(t1:Tab T1 p1 q1 H)(t2:Tab T2 p2 q2 H)(n1:T≠T1)(n2:T≠T2):Tab T p q H':=by
 obtain⟨ps,a,b,c⟩:=h;obtain⟨PZ,b1,_⟩:=t1;obtain⟨Wl,b2,_⟩:=t2;refine⟨ps,s _ _ n1 n2 a,b,c.imp id ?_⟩;rintro⟨c',e,g⟩;exact⟨c',e,s _ _ (λz=>by rw [z,b1] at g;cases g) (λz=>by rw [z,b2] at g;cases g) g⟩
def jQ {T a C dx:Addr}{pos:Pos}{qu:Str}{H:Hp}{fs:List (Str×V)}{o:HO}(h:Tab T pos qu H)(ha:H a=some (.ins C dx fs)):Tab T pos qu (upd H a o):=by
 obtain⟨ps,p,r,c⟩:=h;refine⟨ps,by rw [ai (λz=>by rw [z,ha] at p;cases p)];exact p,r,c.imp id ?_⟩;rintro⟨c',e,g⟩;exact⟨c',e,by rw [ai (λz=>by rw [z,ha] at g;cases g)];exact g⟩
def Kp (H H':Hp):Prop:=∀b o,H b=some o->(∀ps,o≠.rW ps)->H' b=some o
def Kp.trans {H H1 H2:Hp}(a:Kp H H1)(b:Kp H1 H2):Kp H H2:=λc o h n=>b c o (a c o h n) n
def Kp.of {H H':Hp}(s:aC H H'):Kp H H':=λb o h _=>s b o h
def Kp.of2 {T1 T2:Addr}{p1 p2:Pos}{q1 q2:Str}{H H':Hp}(s:kS T1 T2 H H')(t1:Tab T1 p1 q1 H)(t2:Tab T2 p2 q2 H):Kp H H':=λc o hc hn=>by
 obtain⟨PZ,b1,_⟩:=t1;obtain⟨Wl,b2,_⟩:=t2;exact s c o (λz=>by rw [z,b1] at hc;cases hc;exact hn _ rfl) (λz=>by rw [z,b2] at hc;cases hc;exact hn _ rfl) hc
section
theorem Kp.lst {H H':Hp}(k:Kp H H'){a:Addr}{xs:List V}(h:H a=some (.lst xs)):H' a=some (.lst xs):=k a _ h (λ_ z=>by cases z)
def Kp.tup {H H':Hp}(k:Kp H H'){a:Addr}{xs:List V}(h:ba K H a xs):ba K H' a xs:=by
 rcases h with (h | ⟨u,h⟩) | h
 .exact .inl (.inl (k _ _ h (λ_ z=>by cases z)))
 .exact .inl (.inr ⟨u,k _ _ h (λ_ z=>by cases z)⟩)
 exact .inr h
def Kp.seq {H H':Hp}(k:Kp H H'){a:Addr}{xs:List V}(h:aD K H a xs):aD K H' a xs:=by
 rcases h with (h | ⟨u,h⟩) | h
 .exact .inl (.inl (k _ _ h (λ_ z=>by cases z)))
 .exact .inl (.inr ⟨u,k _ _ h (λ_ z=>by cases z)⟩)
 exact .inr h
theorem Kp.aa {H H':Hp}(k:Kp H H'){rs:List Addr}{aa:List aB}(h:aS K H rs aa):aS K H' rs aa:=h.keep λ_ _ z=>k.tup z
abbrev yF:Stmt:=LQ ZH 0
structure LC (K:aY)(C:Addr):Prop where
 cls:Bj K C
 a1:dQ K C "rules"
 a2:dQ K C "empty"
 a3:dQ K C "least"
 a4:dQ K C "hollow"
 a5:dQ K C "beginnings"
structure CS (C3 T1 T3:Addr)(H0 H:Hp)(a dx:Addr)(fs:List (Str×V)):Prop where
 sm:kS T1 T3 H0 H
 ia:H a=some (.ins C3 dx fs)
 fa:H0 a=none
 t1:Tab T1 qQ.2.2.2 xR H
 t3:Tab T3 posB FU H
 o1:Tab T1 qQ.2.2.2 xR H0
 o3:Tab T3 posB FU H0
def CS.kp {C3 T1 T3 a dx:Addr}{H0 H:Hp}{fs:List (Str×V)}(h:CS C3 T1 T3 H0 H a dx fs):Kp H0 H:=Kp.of2 h.sm h.o1 h.o3
def CS.set {C3 T1 T3 a dx:Addr}{H0 H:Hp}{fs:List (Str×V)}(h:CS C3 T1 T3 H0 H a dx fs)(F5:List (Str×V)):CS C3 T1 T3 H0 (upd H a (.ins C3 dx F5)) a dx F5 :=
 ⟨λb o n1 n3 hb=>by rw [ai (λz=>by rw [z,h.fa] at hb;cases hb)];exact h.sm b o n1 n3 hb,ab,h.fa,jQ h.t1 h.ia,jQ h.t3 h.ia,h.o1,h.o3⟩
def CS.next {C3 T1 T3 a dx:Addr}{H0 H H':Hp}{fs:List (Str×V)}(h:CS C3 T1 T3 H0 H a dx fs)(s:aC H H'):CS C3 T1 T3 H0 H' a dx fs :=
 ⟨λb o n1 n3 hb=>s _ _ (h.sm b o n1 n3 hb),s _ _ h.ia,h.fa,h.t1.same s,h.t3.same s,h.o1,h.o3⟩
def CS.NB {C3 T1 T3 a dx:Addr}{H0 H H':Hp}{fs:List (Str×V)}(h:CS C3 T1 T3 H0 H a dx fs)(s:kS T1 T3 H H')(t1:Tab T1 qQ.2.2.2 xR H')(t3:Tab T3 posB FU H'):CS C3 T1 T3 H0 H' a dx fs :=
 ⟨λb o n1 n3 hb=>s _ _ n1 n3 (h.sm b o n1 n3 hb),Kp.of2 s h.t1 h.t3 _ _ h.ia (λ_ z=>by cases z),h.fa,t1,t3,h.o1,h.o3⟩
def Ax (K:aY)(C C3 T1 T3:Addr):Sp:=λvs H Q _=>∃(H0 Hb:Hp)(a dx R x e d bg:Addr)(rs:List Addr)(aa:List aB)(kE:List (aN×V))(bw:List (Str×Nat))(ps:List (Str×Addr))(cI:List Be),vs=[.ref a,.ref R,.ref x]/\aC H0 H/\H0 a=none/\H a=some (.ins C3 dx [])/\aD K H0 R (rs.map V.ref)/\aS K H0 rs aa /\
 aa.length < 64/\(∀ru∈aa,ru.2.length<=8)/\(∀g,dU M11.bl aa (xV aa) g->iB M11.bl aa g->∀h∈hd aa,∃n,g h=some n/\n<=60)/\sM K C Hb H0 x e d bg kE bw ps cI/\vY aa bw/\cI.length<=80000/\Tab T1 qQ.2.2.2 xR H0/\Tab T3 posB FU H0/\T1≠T3 /\
 ∀H',kS T1 T3 H0 H'->Tab T1 qQ.2.2.2 xR H'->Tab T3 posB FU H'->Q .d5 H'
def Gx:aK ["self","rules","begin_table"] ["self","rules","begin_table"] (ax yF):=iI rfl rfl rfl rfl nofun
def Ed {C C3 T1 T3:Addr}(F:ig K "__init__" "LeastTrees.__init__" yF f fd)(T:Txt mg)(B:BC K C)(L:LC K C3)(GL:aH P w K mg base 4 "least_by_part" ["rules"] (n5 K T1 T3))(GE:aH P w K mg base 4 "empty_by_name" ["rules","empties"] (sZ K)) :
  bS P w K mg base fu 5 f fd ["self","rules","begin_table"] (Ax K C C3 T1 T3):=by
 refine F.ok Gx (λvs H Q E h=>?_) (λeB A outer s H vs Q E hr h=>?_)
 .obtain⟨H0,Hb,a,dx,R,x,e,d,bg,rs,aa,kE,bw,ps,cI,rfl,_⟩:=h;rfl
 obtain⟨H0,Hb,a,dx,R,x,e,d,bg,rs,aa,kE,bw,ps,cI,rfl,s0,f0,ea,hR,cK,bM,h8,EU,S,emp,Kw,t1,t3,nT,q⟩:=h;have hu:=oR (Nat.add_le_add_left (by decide:2<=64) _) hr.units;refine⟨_,ak (gb (pv 0) (pv 1) rfl)
  (ak (gb (pv 0) (dO (pv 2) rfl) rfl)
  (ak (gb (pv 0) (bI GL hr rfl (af (pv 1) aj)) rfl)
  (ak (gb (pv 0) (bI GE hr rfl (af (pv 1) (af (dO (pv 2) rfl) aj))) rfl)
  (ar (gb (pv 0) (a8 (xG rfl hu) rfl T.vV fJ (af (bL ["name","word","number","place"] [] rfl (a9 (dO (pv 2) rfl)) (a_ rfl rfl) nofun rfl nofun
   (λ_ _ _ _ _=>je (n:=4) K rfl (aF (au (i:=0) (show (["name","word","number","place"]:List Str).Nodup by decide +kernel) rfl (bJ rfl)) (aF (au (i:=1) (show (["name","word","number","place"]:List Str).Nodup by decide +kernel) rfl (bJ rfl)) (aF (au (i:=2) (show (["name","word","number","place"]:List Str).Nodup by decide +kernel) rfl (bJ rfl)) (aF (au (i:=3) (show (["name","word","number","place"]:List Str).Nodup by decide +kernel) rfl (bJ rfl)) cy))))) (λ_ _ _ _ _=>cb)
   (λ_ _ _ _ _=>bY (af (bY (af (pv 0) (af (pv 1) aj))) (af (bY (af (pv 2) (af (pv 3) aj))) aj)))) aj)) rfl))))),?_⟩
 nofun
 have S0:CS C3 T1 T3 H0 H a dx []:=⟨λb o _ _ hb=>s0 b o hb,ea,f0,t1.same s0,t3.same s0,t1,t3⟩;obtain⟨e1,te,⟨Mv,Mi,Qx,leb⟩,ee1,evb,_⟩:=S.em;obtain⟨aax,aat,OW,l1,l2,_⟩:=S.ia;rw [Qx] at OW;cases OW;obtain⟨tb,ebg,Mc⟩:=S.lb;have lets:=emp.len;refine⟨_,rfl,_,rfl,a,C3,dx,[],rfl,S0.ia,L.cls,L.a1,(by show 0 < 1000;decide),?_⟩;have S1:=S0.set (dN "rules" (.ref R) []);generalize Qh:dN "rules" (.ref R) []=Qu at S1;generalize upd H a (.ins C3 dx Qu)=H1 at S1;have x1:H1 x=some (.ins C Mv Mi):=S1.kp _ _ Qx (λ_ z=>by cases z);refine⟨_,rfl,x,C,Mv,Mi,_,rfl,x1,B.cls,B.a2,l1,_,rfl,a,C3,dx,Qu,rfl,S1.ia,L.cls,L.a2,(by rw [<-Qh];show 1 < 1000;decide),?_⟩;have S2:=S1.set (dN "empty" (.ref e) Qu);generalize FZ:dN "empty" (.ref e) Qu=sE at S2;generalize upd H1 a (.ins C3 dx sE)=H2 at S2;refine⟨_,rfl,R,rs,aa,rfl,S2.kp.seq hR,S2.kp.aa cK,bM,h8,EU,S2.t1,S2.t3,nT,λdl kl H3 fdl s3 sR Zu edl kdl=>?_⟩;have S3:=S2.NB s3 sR Zu;refine⟨_,rfl,a,C3,dx,sE,rfl,S3.ia,L.cls,L.a3,(by rw [<-FZ,<-Qh];show 2 < 1000;decide),?_⟩;have S4:=S3.set (dN "least" (.ref dl) sE);generalize Xn:dN "least" (.ref dl) sE=Mj at S4;generalize upd H3 a (.ins C3 dx Mj)=H4 at S4;have x4:H4 x=some (.ins C Mv Mi):=S4.kp _ _ Qx (λ_ z=>by cases z);refine⟨_,rfl,_,rfl,x,C,Mv,Mi,_,rfl,x4,B.cls,B.a1,leb,R,e1,rs,te,aa,bw,rfl,S4.kp.seq hR,S4.kp.aa cK,∅,h8,aD.of (S4.kp.lst ee1),evb.keep λ_ _ z=>S4.kp.tup z,emp,∅,λdh kh H5 fdh s5 edh kdh=>?_⟩;have S5:=S4.next s5;refine⟨_,rfl,a,C3,dx,Mj,rfl,S5.ia,L.cls,L.a4,(by rw [<-Xn,<-FZ,<-Qh];show 3 < 1000;decide),?_⟩;have S6:=S5.set (dN "hollow" (.ref dh) Mj);generalize hf6:dN "hollow" (.ref dh) Mj=xW at S6;generalize upd H5 a (.ins C3 dx xW)=H6 at S6;have x6:H6 x=some (.ins C Mv Mi):=S6.kp _ _ Qx (λ_ z=>by cases z);have b6:=S6.kp.lst ebg;have v6:Paired (λt (b:Be)=>ba K H6 t [.str b.1,.str b.2.1,.int (b.2.2.1:Int),.int (b.2.2.2:Int)]) tb cI:=Paired.gS Mc λ_ _ z=>S6.kp.tup z;refine⟨_,rfl,x,C,Mv,Mi,_,rfl,x6,B.cls,B.a3,l2,bg,rfl,⟨_,aD.of b6⟩,λD7 OM=>Ct (aD.of b6) v6 ∅ OM λus H7 s7 e7 p7=>?_⟩;obtain⟨kvs,pk⟩:=DK p7;refine⟨D7,us,kvs,rfl,e7,pk,λdb B_=>?_⟩;have S8:=(S6.next s7).next (ae B_ (.dT (ng kvs [])));refine⟨_,rfl,a,C3,dx,xW,rfl,S8.ia,L.cls,L.a5,(by rw [<-hf6,<-Xn,<-FZ,<-Qh];show 4 < 1000;decide),?_⟩;have S9:=S8.set (dN "beginnings" (.ref db) xW);exact q _ S9.sm S9.t1 S9.t3
structure FI (K:aY)(x qual:Str)(st:Stmt)(f:Addr)(fd:FuncData):Prop where
 ex:∃(oc:Value)(od:Option Addr)(kV doc pm:Value)(an:Option Addr)(eB ct:Value)(wK:Array (Option Value))(T:Addr)(o:Obj) (n:Nat),
  fd=PySem.W.fnOf x qual (du st) (cg st) (ax st) (.ref T) kV doc pm an eB ct/\K.lookup f=some ⟨oc,od,.func fd,wK⟩/\PySem.W.codeIn K eB qual=true/\K.lookup T=some o/\o.data=.seq #[.none] n
 kp:PySem.W.keepIn K (.ref f)=true
def FI.ok {x qual:Str}{st:Stmt}{f:Addr}{fd:FuncData}{N ps:List Str}{k:Nat}{sp:Sp}(F:FI K x qual st f fd)(S:aK N ps (ax st))(len:∀vs H Q E,sp vs H Q E->vs.length=ps.length)
  (iW:∀(eB:Value)(A:Around)(outer:List Env)(s:Shared)(H:Hp)(vs:List V)(Q:VK)(E:XK),eP k (A.deeper (PyProof.Rows.envOfC qual (ax st) s.heap.objs.size f eB))->sp vs H Q E ->
   ∃t,z7 (oG fu P w K mg base N qual (ax st) f eB A outer s H E).BO (cg st) t/\t { nx:=λ_ H'=>Q .d5 H',rt:=Q } (start N vs) H):bS P w K mg base fu (k+1) f fd ps sp:=by
 obtain⟨oc,od,kV,doc,pm,an,eB,ct,wK,T,o,n,rfl,lk,vF,_⟩:=F.ex;refine E9 lk vF S len λA outer s H vs Q E hr xS=>?_;obtain⟨t,h,q⟩:=iW eB A outer s H vs Q E hr xS;exact⟨t,h.BO,q⟩
def E3 {f:Addr}{fd:FuncData}(F:FI K "__init__" "Grammar.__init__" vc f fd):Binds K fd ["self","rules","strengths"] []:=by
 obtain⟨oc,od,kV,doc,pm,an,eB,ct,wK,T,o,n,rfl,lk,vF,lT,dT⟩:=F.ex;intro s us KI hl
 match us,hl with
 | [u1,u2,u3],_=>exact BindsTo.of_defaults rfl (KI T o lT) dT rfl rfl
structure GC (K:aY)(C:Addr):Prop where
 cls:Bj K C
 a1:dQ K C "rules"
 a2:dQ K C "strengths"
 a3:dQ K C "begin_table"
 a4:dQ K C "standings"
 a5:dQ K C "small_trees"
def StrIn (K:aY)(H:Hp)(sv:V)(ss:List Addr)(str:List aB):Prop:=(sv=.d5/\ss=[]/\str=[])\/∃S,sv=.ref S/\aD K H S (ss.map V.ref)/\aS K H ss str
def MH (H0 H:Hp)(Cg g:Addr)(rs ss:List Addr)(bt:Addr):Prop:=∃gx fs R2 S2,H g=some (.ins Cg gx fs)/\fs.lookup ("rules":Str)=some (.ref R2)/\fs.lookup ("strengths":Str)=some (.ref S2)/\fs.lookup ("begin_table":Str)=some (.ref bt)/\fs.lookup ("start":Str)=none /\
 H R2=some (.lst (rs.map V.ref))/\H S2=some (.lst (ss.map V.ref))/\H0 R2=none/\H0 S2=none
def nv (T1 T2 T3:Addr)(H H':Hp):Prop:=∀b o,b≠T1->b≠T2->b≠T3->H b=some o->H' b=some o
structure vW (T1 T2 T3:Addr)(H:Hp):Prop where
 t1:Tab T1 qQ.2.2.2 xR H
 t2:Tab T2 zr.2.2.2 IG H
 t3:Tab T3 posB FU H
 ID:T1≠T2
 IC:T1≠T3
 IB:T2≠T3
theorem vW.same {T1 T2 T3:Addr}{H H':Hp}(h:vW T1 T2 T3 H)(s:aC H H'):vW T1 T2 T3 H':=⟨h.t1.same s,h.t2.same s,h.t3.same s,h.ID,h.IC,h.IB⟩
def vW.C2 {T1 T2 T3 a C dx:Addr}{H:Hp}{fs:List (Str×V)}{o:HO}(h:vW T1 T2 T3 H)(ha:H a=some (.ins C dx fs)):vW T1 T2 T3 (upd H a o):=⟨jQ h.t1 ha,jQ h.t2 ha,jQ h.t3 ha,h.ID,h.IC,h.IB⟩
def Kp.Z2 {T1 T2 T3:Addr}{H H':Hp}(s:nv T1 T2 T3 H H')(t:vW T1 T2 T3 H):Kp H H':=λc o hc hn=>by
 obtain⟨PZ,b1,_⟩:=t.t1;obtain⟨Wl,b2,_⟩:=t.t2;obtain⟨ps3,b3,_⟩:=t.t3;exact s c o (λz=>by rw [z,b1] at hc;cases hc;exact hn _ rfl) (λz=>by rw [z,b2] at hc;cases hc;exact hn _ rfl) (λz=>by rw [z,b3] at hc;cases hc;exact hn _ rfl) hc
def Ay (K:aY)(Cg C T1 T2 T3:Addr):Sp:=λvs H Q _=>∃(H0:Hp)(g gx R:Addr)(sv:V)(rs ss:List Addr)(aa str:List aB)(rk:Str->Nat)(b:Str->Int),vs=[.ref g,.ref R,sv]/\aC H0 H/\H0 g=none/\H g=some (.ins Cg gx [])/\aD K H0 R (rs.map V.ref)/\aS K H0 rs aa/\aa.length < 64/\(∀ru∈aa,ru.2.length<=8)/\aa≠[] /\
 StrIn K H0 sv ss str/\str.length<=1000/\(∀ru∈str,ru.2.length<=8)/\(str.flatMap (·.2)).Nodup/\Good aa rk b/\vW T1 T2 T3 H0 /\
 ∀(bt:Addr)(H':Hp),nv T1 T2 T3 H0 H'->vW T1 T2 T3 H'->MH H0 H' Cg g rs ss bt->Q .d5 H'
def sM.C2 {C:Addr}{H0 H:Hp}{a e d bg:Addr}{kE:List (aN×V)}{bw:List (Str×Nat)}{ps:List (Str×Addr)}{cI:List Be}{g Cg gx:Addr}{fs F5:List (Str×V)}(h:sM K C H0 H a e d bg kE bw ps cI)(hg:H0 g=some (.ins Cg gx fs))(na:a≠g) :
  sM K C (upd H0 g (.ins Cg gx F5)) (upd H g (.ins Cg gx F5)) a e d bg kE bw ps cI:=by
 have HC:=h.sm _ _ hg;have up:∀c o,c≠g->H c=some o->upd H g (.ins Cg gx F5) c=some o:=λc o n q=>by rw [ai n];exact q
 refine⟨λc o hc=>?_,?_,up _ _ (λz=>by have:=h.he;rw [z,HC] at this;cases this) h.he,up _ _ (λz=>by have:=h.hd;rw [z,HC] at this;cases this) h.hd,h.n1,h.n2,λp hp=>?_,?_,?_,?_⟩
 .by_cases z:c=g
  .rw [z,ab] at hc ⊢;exact hc
  rw [ai z] at hc ⊢;exact h.sm _ _ hc
 .obtain⟨dx,fs,q,r⟩:=h.ia;exact⟨dx,fs,up _ _ na q,r⟩
 .obtain⟨⟨kvs,q,r⟩,t1,t2⟩:=h.dk p hp;exact⟨⟨kvs,up _ _ (λz=>by rw [z,HC] at q;cases q) q,r⟩,by rw [ai (λz=>by rw [z,hg] at t1;cases t1)];exact t1,t2⟩
 .obtain⟨ts,q,r⟩:=h.lb;exact⟨ts,up _ _ (λz=>by rw [z,HC] at q;cases q) q,Paired.gS r λ_ _ z=>gP HC z⟩
 .have t1:=h.fb;rw [ai (λz=>by rw [z,hg] at t1;cases t1)];exact t1
 obtain⟨e1,ts,⟨dx,fs,q1,q2⟩,q3,q4,q5⟩:=h.em;exact⟨e1,ts,⟨dx,fs,up _ _ na q1,q2⟩,up _ _ (λz=>by rw [z,HC] at q3;cases q3) q3,q4.keep λ_ _ z=>gP HC z,q5⟩
def GB:aK ["self","rules","strengths"] ["self","rules","strengths"] (ax vc):=iI rfl rfl rfl rfl nofun
def Eh {Cg C C3 T1 T2 T3 fB fL:Addr}{XT XQ:FuncData}(F:FI K "__init__" "Grammar.__init__" vc f fd)(T:Txt mg)(G:GC K Cg)(GR:aH P w K mg base 6 "refuse_faults" ["rules","strengths"] (qA K T1 T2))(GS:aH P w K mg base 6 "standings_by_part" ["rules"] (Iq K))
  (FB:bS P w K mg base fu 5 fB XT ["self","rules"] (AA K C))(MB:Mk K C fB)(BB:Binds K XT ["self","rules"] [])(mB:mg "BeginTable"=some (.ref C))
  (FL:bS P w K mg base fu 5 fL XQ ["self","rules","begin_table"] (Ax K C C3 T1 T3))(ML:Mk K C3 fL)(BL:Binds K XQ ["self","rules","begin_table"] [])(mL:mg "LeastTrees"=some (.ref C3)):bS P w K mg base fu 7 f fd ["self","rules","strengths"] (Ay K Cg C T1 T2 T3):=by
 refine F.ok GB (λvs H Q E h=>?_) (λeB A outer s H vs Q E hr h=>?_)
 .obtain⟨H0,g,gx,R,sv,rs,ss,aa,str,rk,b,rfl,_⟩:=h;rfl
 obtain⟨H0,g,gx,R,sv,rs,ss,aa,str,rk,b,rfl,s0,f0,eg,hR,cK,bM,h8,pR,sf,Te,Od,Tj,gd,Uh,q⟩:=h;refine⟨_,ak (gb (pv 0) (a8 fg rfl T.lst fI (af (pv 1) aj)) rfl)
  (ak (cO (gb (pv 0) (wH (fq (Ka (pv 2))) (bA aj) (a8 fg rfl T.lst fI (af (pv 2) aj))) rfl))
  (ak (cx (bI GR hr rfl (af (dO (pv 0) rfl) (af (dO (pv 0) rfl) aj))))
  (ak (gb (pv 0) (bI GS hr rfl (af (dO (pv 0) rfl) aj)) rfl)
  (ak (gb (pv 0) (vi MB FB hr rfl mB BB .nil oZ (af (dO (pv 0) rfl) aj)) rfl)
  (ar (gb (pv 0) (vi ML FL hr rfl mL BL .nil oZ (af (dO (pv 0) rfl) (af (dO (pv 0) rfl) aj))) rfl)))))),?_⟩
 nofun
 refine⟨_,rfl,R,_,rfl,.inl (s0.seq hR),λR2 xU=>?_⟩;have UR:=ae xU (.lst (rs.map V.ref)) _ _ eg;have pC:upd H R2 (.lst (rs.map V.ref)) R2=some (.lst (rs.map V.ref)):=ab;have Wh:=s0.trans (ae xU (.lst (rs.map V.ref)));generalize upd H R2 (.lst (rs.map V.ref))=H1 at UR pC Wh;refine⟨_,rfl,g,Cg,gx,[],rfl,UR,G.cls,G.a1,(by show 0 < 1000;decide),?_⟩;generalize mV:dN "rules" (.ref R2) []=sE;have Mq:upd H1 g (.ins Cg gx sE) R2=some (.lst (rs.map V.ref)):=by rw [ai (λz=>by rw [z,UR] at pC;cases pC)];exact pC
 have JS:aC H0 (upd H1 g (.ins Cg gx sE)):=λc o hc=>by rw [ai (λz=>by rw [z,f0] at hc;cases hc)];exact Wh c o hc
 have QE:upd H1 g (.ins Cg gx sE) g=some (.ins Cg gx sE):=ab;generalize upd H1 g (.ins Cg gx sE)=H2 at Mq JS QE;refine⟨λσ H3=>σ=[aG g,aG R,some sv]/\∃S2 fs,aC H0 H3/\H3 g=some (.ins Cg gx fs)/\fs=dN "strengths" (.ref S2) sE/\H3 R2=some (.lst (rs.map V.ref))/\H3 S2=some (.lst (ss.map V.ref))/\H0 S2=none,?_,?_⟩
 .have fin:∀S2,H2 S2=none->(λH3=>∃S2 fs,aC H0 H3/\H3 g=some (.ins Cg gx fs)/\fs=dN "strengths" (.ref S2) sE/\H3 R2=some (.lst (rs.map V.ref))/\H3 S2=some (.lst (ss.map V.ref))/\H0 S2=none) (upd (upd H2 S2 (.lst (ss.map V.ref))) g (.ins Cg gx (dN "strengths" (.ref S2) sE)))/\upd H2 S2 (.lst (ss.map V.ref)) g=some (.ins Cg gx sE):=λS2 IX=>by
   have sl:=ae IX (.lst (ss.map V.ref));have eS:upd H2 S2 (.lst (ss.map V.ref)) S2=some (.lst (ss.map V.ref)):=ab;have O2:=sl _ _ QE;refine⟨⟨S2,_,λc o hc=>?_,ab,rfl,?_,?_,JS.free IX⟩,O2⟩
   .rw [ai (λz=>by rw [z,f0] at hc;cases hc)];exact sl _ _ (JS c o hc)
   .rw [ai (λz=>by rw [z,QE] at Mq;cases Mq)];exact sl _ _ Mq
   rw [ai (λz=>by rw [z,QE] at IX;cases IX)];exact eS
  rcases sf with ⟨rfl,rfl,rfl⟩ | ⟨S,rfl,hS,tS⟩
  .refine⟨_,rfl,_,rfl,?_⟩;refine ow ?_;refine⟨sj,λS2 IX=>?_⟩;obtain⟨x1,x2⟩:=fin S2 IX;exact⟨_,rfl,g,Cg,gx,sE,rfl,x2,G.cls,G.a2,(by rw [<-mV];show 1 < 1000;decide),rfl,x1⟩
  refine⟨_,rfl,_,rfl,?_⟩;refine gI ?_;refine⟨_,rfl,S,_,rfl,.inl (JS.seq hS),λS2 IX=>?_⟩;obtain⟨x1,x2⟩:=fin S2 IX;exact⟨_,rfl,g,Cg,gx,sE,rfl,x2,G.cls,G.a2,(by rw [<-mV];show 1 < 1000;decide),rfl,x1⟩
 rintro σ H3 ⟨rfl,S2,F4,FQ,O2,pA,X_,X8,fS2⟩;have WJ:F4.lookup ("rules":Str)=some (.ref R2):=by rw [pA,<-mV];rfl
 have P6:F4.lookup ("strengths":Str)=some (.ref S2):=by rw [pA,<-mV];rfl
 have Tg:aS K H3 ss str:=by
  rcases sf with ⟨_,rfl,rfl⟩ | ⟨S,_,_,tS⟩
  .exact .nil
  exact tS.same FQ
 have sR:=Uh.same FQ;refine⟨_,rfl,g,Cg,gx,F4,_,rfl,O2,G.cls,G.a1,WJ,_,rfl,g,Cg,gx,F4,_,rfl,O2,G.cls,G.a2,P6,R2,S2,rs,ss,aa,str,rk,b,rfl,aD.of X_,cK.same FQ,∅,h8,pR,aD.of X8,Tg,Te,Od,Tj,gd,sR.t1,sR.t2,sR.ID,λH4 PQ Nc V6=>?_⟩;have Hw:=Kp.of2 PQ sR.t1 sR.t2;have t4:vW T1 T2 T3 H4:=⟨Nc,V6,Tab.s2 sR.t3 PQ sR.t1 sR.t2 sR.IC.symm sR.IB.symm,sR.ID,sR.IC,sR.IB⟩;have S04:nv T1 T2 T3 H0 H4:=λc o n1 n2 _ hc=>PQ c o n1 n2 (FQ c o hc);have Yi:=Hw _ _ O2 (λ_ z=>by cases z);have X9:=Hw.lst X_;have es4:=Hw.lst X8;have Oi:aS K H4 rs aa:=Hw.aa (cK.same FQ);clear Nc V6 PQ sR;refine⟨_,rfl,g,Cg,gx,F4,_,rfl,Yi,G.cls,G.a1,WJ,R2,rs,aa,rfl,aD.of X9,Oi,∅,h8,λds H5 fds Bu=>?_⟩;have Ms:=Bu _ _ Yi;have er5:=Bu _ _ X9;have es5:=Bu _ _ es4;have Tq:=Oi.same Bu;have t5:=t4.same Bu;have S05:nv T1 T2 T3 H0 H5:=λc o n1 n2 n3 hc=>Bu _ _ (S04 c o n1 n2 n3 hc);refine⟨_,rfl,g,Cg,gx,F4,rfl,Ms,G.cls,G.a4,(by rw [pA,<-mV];show 2 < 1000;decide),?_⟩;generalize vD:dN "standings" (.ref ds) F4=xW;have R3:∀{Hx:Hp}{fx fy:List (Str×V)},Hx g=some (.ins Cg gx fx)->nv T1 T2 T3 H0 Hx->nv T1 T2 T3 H0 (upd Hx g (.ins Cg gx fy)):=λ{Hx fx fy} hg hs c o n1 n2 n3 hc=>by
  rw [ai (λz=>by rw [z,f0] at hc;cases hc)];exact hs c o n1 n2 n3 hc
 have LR:∀{Hx:Hp}{fx fy:List (Str×V)}{b:Addr}{xs:List V},Hx g=some (.ins Cg gx fx)->Hx b=some (.lst xs)->upd Hx g (.ins Cg gx fy) b=some (.lst xs):=λ{Hx fx fy b xs} hg hb=>by
  rw [ai (λz=>by rw [z,hg] at hb;cases hb)];exact hb
 have Y9:=R3 (fy:=xW) Ms S05;have UL:=LR (fy:=xW) Ms er5;have X7:=LR (fy:=xW) Ms es5;have KP:aS K (upd H5 g (.ins Cg gx xW)) rs aa:=Tq.keep λ_ _ z=>gP Ms z;have t6:vW T1 T2 T3 (upd H5 g (.ins Cg gx xW)):=t5.C2 Ms;have O1:upd H5 g (.ins Cg gx xW) g=some (.ins Cg gx xW):=ab;generalize upd H5 g (.ins Cg gx xW)=H6 at Y9 UL X7 KP t6 O1;have lk6:xW.lookup ("rules":Str)=some (.ref R2):=by rw [<-vD,pA,<-mV];rfl
 refine⟨_,rfl,g,Cg,gx,xW,_,rfl,O1,G.cls,G.a1,lk6,λx dx hx hdx ndx=>?_⟩;have sx:aC H6 (upd (upd H6 dx (.own x)) x (.ins C dx [])):=(ae hdx _).trans (ae (by rw [ai ndx.symm];exact hx) _);refine⟨H6,x,dx,R2,rs,aa,rfl,sx,hx,ab,aD.of UL,KP,∅,h8,λe d bg kE bw ps cI H7 S7 m7 emp _ _ beg _=>⟨rfl,?_⟩⟩;have Mr:=S7.sm _ _ O1;have er7:=S7.sm _ _ UL;have es7:=S7.sm _ _ X7;have t7:=t6.same S7.sm;have KO:=KP.same S7.sm;have S07:nv T1 T2 T3 H0 H7:=λc o n1 n2 n3 hc=>S7.sm _ _ (Y9 c o n1 n2 n3 hc);refine⟨_,rfl,g,Cg,gx,xW,rfl,Mr,G.cls,G.a3,(by rw [<-vD,pA,<-mV];show 3 < 1000;decide),?_⟩;generalize zI:dN "begin_table" (.ref x) xW=zO;have Y8:=R3 (fy:=zO) Mr S07;have UK:=LR (fy:=zO) Mr er7;have X6:=LR (fy:=zO) Mr es7;have Oh:aS K (upd H7 g (.ins Cg gx zO)) rs aa:=KO.keep λ_ _ z=>gP Mr z;have t8:vW T1 T2 T3 (upd H7 g (.ins Cg gx zO)):=t7.C2 Mr;have QD:upd H7 g (.ins Cg gx zO) g=some (.ins Cg gx zO):=ab;have B8:sM K C (upd H6 g (.ins Cg gx zO)) (upd H7 g (.ins Cg gx zO)) x e d bg kE bw ps cI:=S7.C2 O1 (λz=>by rw [z,O1] at hx;cases hx);generalize upd H7 g (.ins Cg gx zO)=H8 at Y8 UK X6 Oh t8 QD B8;have Su:zO.lookup ("rules":Str)=some (.ref R2):=by rw [<-zI,<-vD,pA,<-mV];rfl
 have lb8:zO.lookup ("begin_table":Str)=some (.ref x):=by rw [<-zI,<-vD,pA,<-mV];rfl
 refine⟨_,rfl,g,Cg,gx,zO,_,rfl,QD,G.cls,G.a1,Su,_,rfl,g,Cg,gx,zO,_,rfl,QD,G.cls,G.a3,lb8,λy dy hy hdy ndy=>?_⟩;have sy:aC H8 (upd (upd H8 dy (.own y)) y (.ins C3 dy [])):=(ae hdy _).trans (ae (by rw [ai ndy.symm];exact hy) _);have Kw:=beg.len ∅ h8;refine⟨H8,_,y,dy,R2,x,e,d,bg,rs,aa,kE,bw,ps,cI,rfl,sy,hy,ab,aD.of UK,Oh,bM,h8,gd.least,B8,emp,Kw,t8.t1,t8.t3,t8.IC,λH9 RA Rq Zs=>⟨rfl,?_⟩⟩;have Kx:=Kp.of2 RA t8.t1 t8.t3;have O0:=Kx _ _ QD (λ_ z=>by cases z);have er9:=Kx.lst UK;have es9:=Kx.lst X6;have t9:vW T1 T2 T3 H9:=⟨Rq,Tab.s2 t8.t2 RA t8.t1 t8.t3 t8.ID.symm t8.IB,Zs,t8.ID,t8.IC,t8.IB⟩;have S09:nv T1 T2 T3 H0 H9:=λc o n1 n2 n3 hc=>RA _ _ n1 n3 (Y8 c o n1 n2 n3 hc);refine⟨_,rfl,g,Cg,gx,zO,rfl,O0,G.cls,G.a5,(by rw [<-zI,<-vD,pA,<-mV];show 4 < 1000;decide),?_⟩;refine q x _ (R3 O0 S09) (t9.C2 O0) ⟨gx,_,R2,S2,ab,?_,?_,?_,?_,LR O0 er9,LR O0 es9,s0.free xU,fS2⟩
 .rw [<-zI,<-vD,pA,<-mV];rfl
 .rw [<-zI,<-vD,pA,<-mV];rfl
 .rw [<-zI,<-vD,pA,<-mV];rfl
 rw [<-zI,<-vD,pA,<-mV];rfl
def Aq (K:aY)(Cg:Addr):Sp:=λvs H Q _=>∃(H0:Hp)(g bt:Addr)(rs ss:List Addr)(aa:List aB)(lW:aB),vs=[.ref g]/\MH H0 H Cg g rs ss bt/\aS K H rs aa/\aa[0]?=some lW/\Q (.str lW.1) H
def Gu:aK ["self"] ["self"] (ax yA):=iI rfl rfl rfl rfl nofun
def D0 {Cg:Addr}(F:ig K "start" "Grammar.start" yA f fd)(G:GC K Cg):bS P w K mg base fu 1 f fd ["self"] (Aq K Cg):=by
 refine F.ok Gu (λvs H Q E h=>?_) (λeB A outer s H vs Q E hr h=>?_)
 .obtain⟨H0,g,bt,rs,ss,aa,lW,rfl,_⟩:=h;rfl
 obtain⟨H0,g,bt,rs,ss,aa,lW,rfl,⟨gx,fs,R2,S2,eg,l1,l2,l3,l4,e1,e2,_⟩,cK,zD,q⟩:=h;refine⟨_,ar (bf (aM b9 (aM aP (dO (pv 0) rfl) ao (λ_ _=>rfl)) ao (λ_ _=>rfl))),?_⟩;dsimp only [oH];have ll:=bK cK;have l0:=(bx.mp zD).1;obtain⟨r0,Qz,p,v1,v2⟩:=Paired.at_ cK 0 lW zD;have lY:ik (rs.map V.ref) ((0:Nat):Int)=some (.ref r0):=bE (by rw [aZ,Qz];rfl);exact⟨_,rfl,g,Cg,gx,fs,_,rfl,eg,G.cls,G.a1,l1,R2,_,_,_,rfl,rfl,aD.of e1,lY,r0,_,_,_,rfl,rfl,v1,rfl,q⟩
end
end gu
namespace PySem
open Sem (wp)
open PySem.AutoSeq1 (wpAny_loadPart')
def jW (l:Addr)(items:Array Value) (n:Nat)(vV:Option Addr)(sl:Array (Option Value))(t:Tok) :
  Meets (Builtin.«enumerate.__new__» ⟨[.type "enumerate",.ref l],[("start",.int 1 t)]⟩) (λ_ R s=>s.heap.get? l=some { cls:=.type "list",dict:=vV,data:=.seq items n,slots:=sl } /\
   R (.ok (.ret (.ref (s.heap.push { cls:=.type "list_iterator",data:=.fields #[.ref l,.int 0 0] }).objs.size)))
    { s with heap:=(s.heap.push { cls:=.type "list_iterator",data:=.fields #[.ref l,.int 0 0] }).push { cls:=.type "enumerate",data:=.fields #[.none,.bool false,.ref s.heap.objs.size,rawInt 1,.none,.none] } }) :=
 .of_wp λprog w A R s h=>by
  obtain⟨hp,g,d,tk,os⟩:=s;obtain⟨hl,h⟩:=h;have Oa:=sub_enumerate;have hL:Heap.IsList (Shared.heap ⟨hp,g,d,tk,os⟩) l items:=⟨_,hl,rfl,n,rfl⟩
  wp_walk using oU hl
  refine wpAny_stack_any λst=>bj ?_
  split
  .rename_i c _ _ _ _ _
   cases (c == Value.type "enumerate")
   .wp_walk using oU hl,kI hL
    exact⟨_,rfl,h⟩
   wp_walk using oU hl,kI hL
   exact⟨_,rfl,h⟩
  wp_walk using oU hl,kI hL
  exact⟨_,rfl,h⟩
section
variable {prog:Program}{w:World}{A:Around}{E:Value->Shared->Prop}{s:Shared}
def lF {T newId:String}{self:Value}{rest:List Value}{kw:List (Str×Value)}(hl:typeLookup (.type T) "__init__"=pure (some (.builtin "object.__init__")))
  (hm:Bind.madeBy (.type T)=pure (some newId))(pR:(some newId != some "object.__new__")=true) :
  Meets (Builtin.«object.__init__» ⟨self::rest,kw⟩) (λ_ R s=>s.TypeIs self T/\R (.ok (.ret .none)) s):=by
 refine Meets.of_wp λprog w A R s hs=>?_;obtain⟨hT,hq⟩:=hs;cases rest with
 | nil =>
  cases kw with
  | nil=>exact bj ⟨_,rfl,hq⟩
  | cons a rest =>
   repeat (any_goals (first | assumption | wp_step))
   exact⟨_,rfl,hq⟩
 | cons a rest =>
  repeat (any_goals (first | assumption | wp_step))
  exact⟨_,rfl,hq⟩
def sJ {T newId:String}{Bn:Builtin}{args:List Value}{kw:List (Str×Value)}{S:Spec}{Q:Value->Shared->Prop}(ft:TypeCalled T newId "object.__init__")
  (pR:(some newId != some "object.__new__")=true)(hct:checkTypeCall T ⟨args,kw⟩=pure ())(hcn:checkBuiltinCall newId ⟨.type T::args,kw⟩=pure ())
  (bU:∀obj,argsOk "object.__init__" ⟨obj::args,kw⟩)(Lm:entryFor table newId=some Bn)(g:Meets (Bn ⟨.type T::args,kw⟩) S)
  (h:S A.in1 (wants (λobj s₁=>s₁.TypeIs obj T/\Q obj s₁) E) s):wpAny (model prog w) A (call (.type T) args kw) Q E s:=by
 obtain⟨c,tl,aal⟩:=ft.mro;have W_:=ft.made;have Oa:=ft.sub;refine jH (codeAny_of_tree ?_);show wpAny _ _ (callAny (.type T) _) _ _ _;refine bj ⟨Code.quiet_builtin _ nofun,nK F.entry_type_call ?_⟩;rw [Around.under_plain (weight_type_call_type T args kw) (units_type_call_type T args kw)];have h1:=ft.notType;have h2:=ft.canCreate
 repeat (any_goals (first | assumption | wp_step))
 refine jK (ql ft.plain Lm (wpAny_of_eq hcn (g prog w A.in1 _ s h))) λr s₁ hr=>?_;cases r with
 | error e=>exact hr
 | ok fl =>
  cases fl with
  | ret obj =>
   have hT:=hr.1;have hli:=ft.init.lookup;have hbi:=ft.init.bind obj
   repeat (any_goals (first | assumption | wp_step))
   refine jK (ql ft.init.plain F.entry_object_init (ft.init.check _ _ _ _ _ _ _ _ hT (bU obj) (lF ft.init.lookup ft.made pR prog w A.in1 (wants (λr s₂=>r=.none/\Q obj s₂) E) s₁ ⟨hT,rfl,hr.2⟩))) λr₂ s₂ To=>?_;cases r₂ with
   | error e=>exact To
   | ok fl₂ =>
    cases fl₂ with
    | ret r =>
     obtain⟨rfl,hq⟩:=To
     repeat (any_goals (first | assumption | wp_step))
    | _=>exact To.elim
  | _=>exact hr.elim
def rL {M:Model}{pos:Pos}{T:String}{first:List Value}{args:List (Bool×Sem Value)}{keywords:List (Option Str×Sem Value)}{Q:Value->Shared->Prop}
  (qX:args.any (·.1)=false)(hkw:keywords.any (·.1.isNone)=false)
  (h:wpAny M A (evalArgs (.type T) true args keywords) (λa s₁=>wpAny M A (call (.type T) (first++a.pos) a.kw) Q E s₁) E s) :
  wpAny M A (callWith pos (.type T) first args keywords) Q E s:=by
 unfold callWith;refine aA (jE (cW h (λa s₁ h₁=>aA (wpAny_standAt ?_)) λ_ _ x=>x));simp only [qX,hkw,Bool.or_false];refine aA (bj ?_);exact aA (cW h₁ (λr s₂ hr=>aA (jE (wpAny_point (bj hr)))) λ_ _ x=>x)
def qv (a:Value)(t:Tok):checkTypeCall "enumerate" ⟨[a],[("start",.int 1 t)]⟩=pure ():=by kernel_rfl
def sr (a:Value)(t:Tok):checkBuiltinCall "enumerate.__new__" ⟨[.type "enumerate",a],[("start",.int 1 t)]⟩=pure ():=by kernel_rfl
def qV (obj a:Value)(t:Tok):argsOk "object.__init__" ⟨[obj,a],[("start",.int 1 t)]⟩:=by kernel_rfl
def zZ {l:Addr}{items:Array Value}{t:Tok}{Q:Value->Shared->Prop}(hL:s.heap.IsList l items)
  (h:∀h',IsEnum h' (s.heap.objs.size+1) s.heap.objs.size 1 .none->h'.IsListIter s.heap.objs.size l 0->h'.objs.size=s.heap.objs.size+2 ->
   (∀b o,s.heap.get? b=some o->h'.get? b=some o)->Q (.ref (s.heap.objs.size+1)) { s with heap:=h' }) :
  wpAny (model prog w) A (call (.type "enumerate") [.ref l] [("start",.int 1 t)]) Q E s:=by
 obtain⟨⟨c,vV,dt,sl⟩,hl,hc,n,hd⟩:=hL;replace hc:c=.type "list" := hc;replace hd:dt=.seq items n:=hd;subst hc hd;refine sJ F.called_enumerate nofun (qv _ _) (sr _ _) (λobj=>qV obj _ _) F.entry_enumerate_new
  (jW l items n vV sl t) ⟨hl,?_⟩
 have hz:(s.heap.push { cls:=.type "list_iterator",data:=.fields #[.ref l,.int 0 0] }).objs.size=s.heap.objs.size+1:=jN ..;show _/\_;rw [hz];have he:IsEnum ((s.heap.push { cls:=.type "list_iterator",data:=.fields #[.ref l,.int 0 0] }).push
   { cls:=.type "enumerate",data:=.fields #[.none,.bool false,.ref s.heap.objs.size,rawInt 1,.none,.none] }) (s.heap.objs.size+1) s.heap.objs.size 1 .none:=by
  have:=de (s.heap.push { cls:=.type "list_iterator",data:=.fields #[.ref l,.int 0 0] })
   (o:={ cls:=.type "enumerate",data:=.fields #[.none,.bool false,.ref s.heap.objs.size,rawInt 1,.none,.none] }) rfl
  rw [hz] at this;exact this
 exact⟨⟨_,he,rfl⟩,h _ he ⟨_,bZ _ (de _ rfl),rfl,rfl⟩ (by rw [jN,hz]) λb o x=>bZ _ (bZ _ x)⟩
end
def Draws.list1 {prog:Program}{w:World}{A:Around}(hh:A.handled=none)(it l:Addr)(pR:l≠it)(items:Array Value) :
  Draws prog w A it [it,l] (items.size+1) (λi v=>∃j,i=j+1/\items[j]?=some v) (λi h=>∃j,i=j+1/\h.IsListIter it l j/\h.IsList l items) :=
 have D:=Draws.list (prog:=prog) (w:=w) hh it l pR items
 ⟨λ_ _ ⟨j,_,st⟩=>D.live j _ st,λ_ _ _ ⟨j,e,st⟩ hk=>⟨j,e,D.frame j _ _ st hk⟩,(λi s Q E hi ⟨j,e,st⟩ hQ=>by
   subst e;exact D.item j s Q E ∅ st λx h' tk hp hs hk=>hQ x h' tk ⟨j,rfl,hp⟩ ⟨j+1,rfl,hs⟩ hk),
  (λs Q E ⟨j,e,st⟩ hE=>by
   have e':j=items.size:=by omega
   subst e';exact D.done s Q E st hE)⟩
end PySem
namespace L2
open PySem PySem.Spec PyProof.Rows
def FH (K:aY)(a:Addr):It :=
 ⟨λi H=>∃xs x,aD K H a xs/\xs[i]?=some x,λi H x H'=>∃t y,x=.ref t/\H t=none/\H'=upd H t (.tup [.int ((i+1:Nat):Int),y])/\∀xs,aD K H a xs->xs[i]?=some y,λi H=>∃xs,aD K H a xs/\xs.length<=i⟩
def yk {P:Program}{w:World}{K:aY}{elts:List Expr}{k:Nat}{tpos:Pos}(a e it:Addr)(HE:e≠it) :
  Turn P w K (.Tuple elts k tpos) (FH K a) [e,it] e (λi h=>(∃old,IsEnum h e it ((i+1:Nat):Int) old)/\h.IsListIter it a i) where
 mem:=by simp
 obj:=λi h st b hb=>by
  obtain⟨⟨old,he⟩,o,e1,c,d⟩:=st;rcases aW.mp hb with rfl | hb
  .exact⟨_,he,λv z=>by cases z⟩
  obtain rfl:b=it:=by simpa using hb
  exact⟨o,e1,λv z=>by rw [d] at z;cases z⟩
 keep:=λi h h' st k=>⟨⟨st.1.choose,k e (by simp) _ st.1.choose_spec⟩,st.2.at λo q=>k it (by simp) o q⟩
 item:=by
  intro X hP hw hK hc i ah s σ H E I hf st hg;subst hP hw hK;obtain⟨xs,x,hq,hx⟩:=hg;obtain⟨aJ,rv,p,hz⟩:=I.list hq;obtain⟨u,hu,ru⟩:=rv.get hx;obtain⟨⟨old,he⟩,hit⟩:=st;have gT:i < aJ.length:=(bx.mp hu).1;have Wy:a≠it:=λz=>by
   obtain⟨o,h1,h2,_⟩:=p.isList;obtain⟨o2,h3,h4,_⟩:=hit;rw [z,h3] at h1;cases h1;rw [h4] at h2;revert h2
   decide
  have nea:e≠a:=λz=>by
   obtain⟨o,h1,h2,_⟩:=p.isList;have HF:=he;unfold IsEnum at HF;rw [z,h1] at HF;cases HF;revert h2;show ¬(Value.type "enumerate"=Value.type "list")
   decide
  refine wpAny_pyNext_enum_itemD (Draws.list1 (show X.A.in1.handled=none from I.ok.hd hc) it a Wy aJ.toArray) he ⟨i,rfl,hit,p.isList⟩ (by simp;omega) HE (by simp [HE,nea]) λu' h1 tk hu' ho Td hT hsz hk=>?_;obtain⟨j,ej,S_⟩:=hu';have eji:j=i:=by omega
  subst eji;have euu:u'=u:=by
   have e2:aJ[j]?=some u':=by simpa using S_
   rw [hu] at e2;cases e2;rfl
  subst euu;obtain⟨j',ej',ET,_⟩:=Td;have UO:j'=j+1:=by omega
  subst UO;refine⟨_,rfl,yb ho λh2 OF sb=>?_⟩;have ne:s.heap.objs.size≠e:=jo (bc he);have kk:∀b o,b≠e->b≠it->s.heap.get? b=some o->h2.get? b=some o:=λb o n1 n2 q=>(sb.2 b n1).trans (hk b o n1 n2 q);have T2:h2.get? s.heap.objs.size=some { cls:=.type "tuple",data:=.seq #[.int ((j+1:Nat):Int) tk,u'] }:=(sb.2 _ ne).trans hT;have fe:=hf e (by simp);have fi:=hf it (by simp);have fT:H s.heap.objs.size=none:=I.bU.fresh (aL _);have tr:∀b v,H b=some v->b≠e/\b≠it:=λb v q=>⟨λz=>(by rw [z,fe.1] at q;cases q),λz=>(by rw [z,fi.1] at q;cases q)⟩;have nc:∀b,b∉[e,it]->b≠e/\b≠it:=λb z=>⟨λq=>z (by simp [q]),λq=>z (by simp [q])⟩;have lt:∀b o,s.heap.get? b=some o->b≠s.heap.objs.size:=λb o q=>bT (bc q);have I2:Inv X ah σ (upd H s.heap.objs.size (.tup [.int ((j+1:Nat):Int),x])) { s with heap:=h2,toks:=tk+1 }:=by
   refine I.call (g':=s.gens) (t':=tk+1) (d':=s.drawn) (ch:=[e,it]) ⟨λb o q _ _ c=>kk b o (nc b c).1 (nc b c).2 q,λb o q _ _ c=>⟨o.slots,kk b o (nc b c).1 (nc b c).2 q⟩,
    λb o q n _=>by rw [ai (lt b o q)];exact n,λb o q c=>⟨o,kk b o (nc b c).1 (nc b c).2 q⟩,λb ys q=>by rw [ai (aq q fT)];exact q,λb o v q=>by rw [ai (aq q fT)];exact q,
    λb ps q=>⟨#[],by rw [ai (aq q fT),q];simp⟩⟩ (λb v q=>?_) I.bare (λb hb=>?_)
   .by_cases hb:b=s.heap.objs.size
    .subst hb;rw [ab] at q;cases q;exact⟨by show 2<=sizeLine;decide,[.int ((j+1:Nat):Int) tk,u'],.cons ⟨_,rfl⟩ (.cons ru .nil),_,T2,rfl,_,rfl⟩
    rw [ai hb] at q;refine(I.bU b v q).g7 (λc o iz z=>?_) (λc q'=>by rw [ai (aq q' fT)];exact q') λc ys q'=>by rw [ai (aq q' fT)];exact q'
    rcases iz with rfl | iz
    .exact kk c o (tr c _ q).1 (tr c _ q).2 z
    exact kk c o (tr c _ iz).1 (tr c _ iz).2 z
   rcases aW.mp hb with rfl | hb
   .exact⟨fe.2.2.2.1,fe.2.1,fe.2.2.2.2.1,fe.2.2.2.2.2⟩
   obtain rfl:b=it:=by simpa using hb
   exact⟨fi.2.2.2.1,fi.2.1,fi.2.2.2.2.1,fi.2.2.2.2.2⟩
  refine⟨.ref s.heap.objs.size,_,I2,rfl,⟨_,x,rfl,fT,rfl,λys hy=>by rw [I.iS hy hq];exact hx⟩,⟨⟨_,OF⟩,ET.at λo q=>(sb.2 it HE.symm).trans q⟩,λb hb=>?_⟩;have AY:H b=none/\∃o,s.heap.get? b=some o:=by
   rcases aW.mp hb with rfl | hb
   .exact⟨fe.1,_,he⟩
   obtain rfl:b=it:=by simpa using hb
   obtain⟨o,q,_⟩:=hit;exact⟨fi.1,o,q⟩
  obtain⟨n,o,q⟩:=AY;rw [ai (lt b o q)];exact n
 done:=by
  intro X hP hw hK hc i ah s σ H E I hf st hg;subst hP hw hK;obtain⟨xs,hq,hx⟩:=hg;obtain⟨aJ,rv,p,hz⟩:=I.list hq;obtain⟨⟨old,he⟩,hit⟩:=st;obtain⟨f0,f1,f2,f3,f4,f5⟩:=hf it (by simp);have hl:=rv.length;have Wy:a≠it:=λz=>by
   obtain⟨o,h1,h2,_⟩:=p.isList;obtain⟨o2,h3,h4,_⟩:=hit;rw [z,h3] at h1;cases h1;rw [h4] at h2;revert h2
   decide
  have D:Draws X.prog X.w X.A.in1 it [it,a] 0 (λ_ _=>False) (λ_ h=>h.IsListIter it a i/\h.IsList a aJ.toArray) :=
   ⟨(λ_ _ st=>let ⟨o,ho,_⟩:=st.1;⟨o,ho⟩),λ_ _ _ st hk=>⟨st.1.at λo e=>hk it (by simp) o e,st.2.at λo e=>hk a (by simp) o e⟩,λi s Q E hi st hQ=>absurd hi (Nat.not_lt_zero _),λs Q E st hE=>wpAny_nextOf_list_end (show X.A.in1.handled=none from I.ok.hd hc) st.1 st.2 (by simp;omega) hE⟩
  exact wpAny_pyNext_enum_endD D he ⟨hit,p.isList⟩ λh' eb=>⟨rfl,I.turned (t':=s.toks) (λb o hb e=>eb b o hb e) f0 f1 f3 f4 f5⟩
 self:=λ_ _ _ _ _ st h=>nO st.1.choose_spec h
def KG (K:aY)(ta:TA):TI:=λσ H R=>ta σ H λvs H1=>QQ vs (aD K H1) λa=>R (FH K a) H1
def DM {X:Cx}{elts:List Expr}{k:Nat}{tpos:Pos}{l:Expr}{ta:TA}{p pos kp cp:Pos}(hg:Gl X "enumerate")(hm:X.mg "enumerate"=none)(ha:PA X [l] ta)
  (he:backTo pos (starEach [l] X.env)=(false,eval l X.env)::backTo pos (starEach [] X.env):=by rfl)(hp:(backTo pos (starEach [l] X.env)).any (·.1)=false:=by rfl) :
  PI X (.Tuple elts k tpos) (.Call (.Name "enumerate" p) [l] [⟨some "start",.Constant (.int 1) 0 cp,kp⟩] pos) (KG X.K ta):=by
 intro ah s σ H R I h;refine me (ib I hg hm oK ?_);refine rL hp rfl ?_;rw [he];refine evalArgs_kwB rfl ?_;rw [<-he];refine cS (ha pos ah s σ H _ I h) λus s1 bh=>?_;obtain⟨vs,H1,I1,r1,q1⟩:=bh;refine kws_cons (cS (ao (X:=X) ah s1 σ H1 (λv H=>v=.int 1/\H=H1) I1 ⟨rfl,rfl⟩) λv s2 bh=>?_);obtain⟨x2,H2,I2,r2,e2,e3⟩:=bh;refine kws_nil ?_;subst e2 e3;obtain⟨t,rfl⟩:=r2;obtain⟨a,xs,e,hq,q⟩:=q1;subst e;obtain⟨u,rfl,rx⟩:=r1.one;cases rx;obtain⟨aJ,rv,pl,hz⟩:=I2.list hq;refine zZ pl.isList λh1 he hit hsz hk=>nO he ?_;refine⟨s2.heap.objs.size+1,[s2.heap.objs.size+1,s2.heap.objs.size],_,_,_,rfl,I2.kept (t':=s2.toks) λb o e=>hk b o e,yk a _ _ (jo (md _)),⟨⟨_,he⟩,hit⟩,λb hb=>?_,q⟩;rcases aW.mp hb with rfl | hb
 .exact I2.ky (jJ _) (I2.bU.fresh (jJ _))
 obtain rfl:b=s2.heap.objs.size:=by simpa using hb
 exact I2.ky (aL _) (I2.bU.fresh (aL _))
def Ci {K:aY}{a:Addr}{xs:List V}{g:TG}{tb:TS}{D:Ends}{σ:St}{H:Hp}(Pv:Nat->St->Hp->Prop)(h0:Pv 0 σ H)(hl:∀i σ H,i<=xs.length->Pv i σ H->aD K H a xs)
  (hs:∀i x σ H t,xs[i]?=some x->Pv i σ H->H t=none->g (.ref t) σ (upd H t (.tup [.int ((i+1:Nat):Int),x])) λσ2 H2=>tb { D with nx:=Pv (i+1),ct:=Pv (i+1),bk:=D.nx } σ2 H2)(hd:∀σ H,Pv xs.length σ H->D.nx σ H) :
  ∃W:Nat->Nat->St->Hp->Prop,(∃m,W 0 m σ H)/\∀i m σ H,W i m σ H ->
   ((FH K a).stop i H/\D.nx σ H)\/((FH K a).go i H/\∃N:St->Hp->Prop,(∀σ' H',N σ' H'->∃m',m' < m/\W (i+1) m' σ' H')/\∀x H',(FH K a).mi i H x H'->g x σ H' λσ2 H2=>tb { D with nx:=N,ct:=N,bk:=D.nx } σ2 H2):=by
 refine⟨λi m σ H=>m=xs.length - i/\i<=xs.length/\Pv i σ H,⟨xs.length,by simp,dD _,h0⟩,?_⟩;rintro i m σ H ⟨rfl,hi,p⟩;have q:=hl i σ H hi p;by_cases gT:i < xs.length
 .refine .inr ⟨⟨xs,xs[i],q,by simp [gT]⟩,Pv (i+1),λσ' H' p'=>⟨xs.length - (i+1),∅,rfl,gT,p'⟩,λx H' y=>?_⟩;obtain⟨t,y0,rfl,ht,rfl,y⟩:=y;exact hs i y0 σ _ t (y xs q) p ht
 have e:i=xs.length:=by omega
 subst e;exact .inl ⟨⟨xs,q,aL _⟩,hd σ H p⟩
end L2
namespace gu
open PySem L2 M11
abbrev yC:Stmt:=top 43
section
def wordsOf (z:Str):List Str:=(Txt.split z ⟨#[32]⟩).filter λu=>((u.length:Int) != 0)
inductive cq:List aB->List aB->List (List Str)->List aB->List aB->Prop
 | nil (r s):cq r s [] r s
 | none (r s rows r' s')(t:cq r s rows r' s'):cq r s ([]::rows) r' s'
 | mark (r s z ws rows r' s')(h:(sg z).head?=some 35)(t:cq r s rows r' s'):cq r s ((z::ws)::rows) r' s'
 | row (r s z ws rows r1 s1 r' s')(h:(sg z).head?≠some 35)(o:uo r s (z::ws) r1 s1)(lr:r.length<=100000)(ls:s.length<=100000)(t:cq r1 s1 rows r' s'):cq r s ((z::ws)::rows) r' s'
theorem Dc (c:Nat):∀(l:List Nat),∀p∈sp c l,p.length<=l.length
 | [],p,hp=>by rw [bH.mp hp];exact aL _
 | a::r,p,hp=>by
  have ih:=Dc c r;unfold sp at hp
  split at hp
  .rcases aW.mp hp with rfl | hp
   .exact dD _
   exact Nat.le_succ_of_le (ih p hp)
  obtain⟨h,t,e⟩:=Am c r;rw [e] at hp ih;rcases aW.mp hp with rfl | hp
  .have:=ih h bG;simp at this ⊢;exact this
  exact Nat.le_succ_of_le (ih p (cJ _ hp))
def split_len {c:Nat}{z p:Str}(h:p∈Txt.split z ⟨#[c]⟩):p.length<=z.length:=by
 have h2:sg p∈sp c (sg z):=by rw [<-iN];exact iK h
 have:=Dc c _ _ h2;unfold sg at this;simpa [Str.length] using this
def As (K:aY)(Cg T1 T2 T3:Addr):Sp:=λvs H Q _=>∃(z:Str)(aa dZ:List aB)(rk:Str->Nat)(b:Str->Int),vs=[.str z]/\z.length<=90000/\cq [] [] ((Txt.split z ⟨#[10]⟩).map wordsOf) aa dZ /\
 aa.length < 64/\(∀ru∈aa,ru.2.length<=8)/\aa≠[]/\(∀ru∈aa,∀p∈ru.2,p.length<=sizeLine/\again p=false)/\dZ.length<=1000/\(∀ru∈dZ,ru.2.length<=8)/\(dZ.flatMap (·.2)).Nodup/\Good aa rk b/\vW T1 T2 T3 H /\
 ∀(g bt:Addr)(rs ss:List Addr)(H0 H':Hp),aC H H0->nv T1 T2 T3 H0 H'->vW T1 T2 T3 H'->aS K H0 rs aa->aS K H0 ss dZ->MH H0 H' Cg g rs ss bt->H0 g=none->Q (.ref g) H'
def j_:aK ["text","rules","strengths","number","row","words"] ["text"] (ax yC):=iI rfl rfl rfl rfl nofun
def Ea {Cg C T1 T2 T3 fG:Addr}{XR:FuncData}(F:ig K "read_grammar" "read_grammar" yC f fd)(T:Txt mg)(GR:aH P w K mg base 3 "read_row" ["words","rules","strengths"] (sY K))(GA:aH P w K mg base 2 "with_added_rules" ["rules"] (AB K))
  (MG:Mk K Cg fG)(FG:bS P w K mg base fu 7 fG XR ["self","rules","strengths"] (Ay K Cg C T1 T2 T3))(B0:Binds K XR ["self","rules","strengths"] [])(mG:mg "Grammar"=some (.ref Cg)):bS P w K mg base fu 9 f fd ["text"] (As K Cg T1 T2 T3):=by
 refine F.ok j_ (λvs H Q E h=>?_) (λeB A outer s H vs Q E hr h=>?_)
 .obtain⟨z,aa,dZ,rk,b,rfl,_⟩:=h;rfl
 obtain⟨z,aa,dZ,rk,b,rfl,hz,tok,Ut,h8,pR,hag,sf,Od,zF,gd,hT,q⟩:=h;refine⟨_,ak (aE (i:=1) j_.nd rfl (bJ rfl) (bA aj))
  (ak (aE (i:=2) j_.nd rfl (bJ rfl) (bA aj))
  (ak (cw cP rfl (DM rfl T.F6 (af (di ju x8 x9 qP (pv 0) (af aU aj)) aj)) (eU rfl (aF (au (i:=3) j_.nd rfl (bJ rfl)) (aF (au (i:=4) j_.nd rfl (bJ rfl)) cy)))
   (ak (f_ (iy:=5) ["word"] [] j_.nd rfl rfl rfl (a9 (di ju x8 x9 qP (pv 4) (af aU aj))) (a_ rfl rfl) nofun rfl nofun
    (λ_ _ _ _ _=>au (i:=0) (show (["word"]:List Str).Nodup by decide +kernel) rfl (bJ rfl)) (λ_ _ _ _ _=>gh (tF K (pv 0) (λ_=>rfl))) (λ_ _ _ _ _=>pv 0))
   (ar (cN (PW.pt (jd (hZ (pv 5) (λ_=>rfl)) (jd (iF (fk (di ju PySem.F.slot_str_startswith PySem.F.type_str_startswith BP (aM aP (pv 5) ao (λ_ _=>rfl)) (af aU aj))))
    (jc (iF (fk (bI (GR.mono (by decide:3<=8)) hr rfl (af (pv 5) (af (pv 1) (af (pv 2) aj)))))))))) (ar fC) bC))))
  (ar (bf (vi MG FG hr rfl mG B0 .nil oZ (af (bI (GA.mono (by decide:2<=8)) hr rfl (af (pv 1) aj)) (af (pv 2) aj))))))),?_⟩
 dsimp only [oH];refine⟨sj,λR Xw=>⟨sj,λS IY=>?_⟩⟩;have Kl:R≠S:=λe=>by rw [<-e,ab] at IY;cases IY
 have fS:H S=none:=by rw [ai Kl.symm] at IY;exact IY
 have s1:aC H (upd (upd H R (.lst [])) S (.lst [])):=(ae Xw _).trans (ae IY _);have e1:upd (upd H R (.lst [])) S (.lst []) R=some (.lst []):=by rw [ai Kl,ab]
 have e2:upd (upd H R (.lst [])) S (.lst []) S=some (.lst []):=ab;generalize upd (upd H R (.lst [])) S (.lst [])=H1 at s1 e1 e2;have WQ:z.length+2<=sizeLine:=fits ∅;refine⟨_,rfl,rfl,z,⟨#[10]⟩,rfl,rfl,nofun,WQ,λL hL=>?_⟩;have s2:=ae hL (.lst ((Txt.split z ⟨#[10]⟩).map V.str));have e3:upd H1 L (.lst ((Txt.split z ⟨#[10]⟩).map V.str)) L=some (.lst ((Txt.split z ⟨#[10]⟩).map V.str)):=ab;have nLR:L≠R:=λe=>by rw [e,e1] at hL;cases hL
 have nLS:L≠S:=λe=>by rw [e,e2] at hL;cases hL
 generalize upd H1 L (.lst ((Txt.split z ⟨#[10]⟩).map V.str))=H2 at s2 e3;generalize Of:Txt.split z ⟨#[10]⟩=rows at e3 tok;refine⟨L,_,rfl,aD.of e3,Ci (xs:=rows.map V.str) (λi σ H3=>∃(rs ss:List Addr)(ru st:List aB)(y3 y4 y5:Option V),σ=[some (.str z),aG R,aG S,y3,y4,y5]/\Fu R S H2 H3/\H3 R=some (.lst (rs.map V.ref))/\aS K H3 rs ru/\H3 S=some (.lst (ss.map V.ref))/\aS K H3 ss st/\cq ru st ((rows.drop i).map wordsOf) aa dZ)
  ⟨[],[],[],[],none,none,none,rfl,λ_ _ _ _ h=>h,s2 _ _ e1,.nil,s2 _ _ e2,.nil,tok⟩ ?_ ?_ ?_⟩
 .rintro i σ H3 _ ⟨rs,ss,ru,st,y3,y4,y5,_,sc,_⟩;exact aD.of (sc _ _ nLR nLS e3)
 .rintro i x σ H3 t ex ⟨rs,ss,ru,st,y3,y4,y5,rfl,sc,hR,cK,hS,tS,tk⟩ ht;rw [aZ] at ex;obtain⟨row,er,rfl⟩:=b_.mp ex;obtain⟨hi,Lj⟩:=bx.mp er;have aaj:row.length<=90000:=dI (split_len (by rw [Of];exact cv er)) hz;rw [v7 hi,Lj,br] at tk;refine⟨t,_,rfl,ba.of ab,rfl,_,_,rfl,_,_,rfl,rfl,?_⟩;have s3:=ae ht (.tup [.int ((i+1:Nat):Int),.str row]);generalize upd H3 t (.tup [.int ((i+1:Nat):Int),.str row])=H4 at s3;refine⟨_,rfl,rfl,row,⟨#[32]⟩,rfl,rfl,nofun,fits ∅,λL2 OJ=>?_⟩;have s4:=s3.trans (ae OJ (.lst ((Txt.split row ⟨#[32]⟩).map V.str)));have e4:upd H4 L2 (.lst ((Txt.split row ⟨#[32]⟩).map V.str)) L2=some (.lst ((Txt.split row ⟨#[32]⟩).map V.str)):=ab;generalize upd H4 L2 (.lst ((Txt.split row ⟨#[32]⟩).map V.str))=H5 at s4 e4;have WI:=PyProof.Rows.split_le row ⟨#[32]⟩;refine⟨L2,rfl,⟨_,aD.of e4⟩,λD hD=>bq (tif:=λσ H Q=>gF 0 σ H λx H'=>∃k,CB K x H' k/\Q k H') (xs:=(Txt.split row ⟨#[32]⟩).map V.str)
   (λj ys σ2 H6=>ys=(((Txt.split row ⟨#[32]⟩).take j).filter λu=>((u.length:Int) != 0)).map V.str/\(∃y0,σ2=[y0])/\aC H5 H6/\H6 D=some (.lst ys))
   ⟨rfl,⟨none,rfl⟩,ae hD _,ab⟩ (λj ys σ2 H6 _ h=>h.2.2.1.seq (aD.of e4)) (λj x ys σ2 H6 ex h=>?_) (λys σ2 H6 h=>?_)⟩
  .obtain⟨rfl,⟨y0,rfl⟩,sm,hd⟩:=h;rw [aZ] at ex;obtain⟨u,eu,rfl⟩:=b_.mp ex;have hul:=split_len (cv eu);refine goN ?_;refine⟨_,rfl,((u.length:Int) != 0),⟨fits ∅,rfl⟩,?_⟩;have et:(((Txt.split row ⟨#[32]⟩).take (j+1)).filter λu=>((u.length:Int) != 0))=(((Txt.split row ⟨#[32]⟩).take j).filter λu=>((u.length:Int) != 0))++(if ((u.length:Int) != 0)=true then [u] else []):=by
    rw [cY,eu,kM]
    congr 1
    simp only [Option.toList_some,qf,List.filter_nil]
   refine dA (λc=>?_) (λc=>?_)
   .rw [az c] at et;refine⟨_,rfl,hd,bo ?_,by rw [et,aQ];rfl,⟨_,rfl⟩,λb o hb=>?_,ab⟩
    .rw [av];have l1:=jG (λu:Str=>((u.length:Int) != 0)) ((Txt.split row ⟨#[32]⟩).take j);have l2:=List.length_take_le' j (Txt.split row ⟨#[32]⟩);omega
    rw [ai (λe=>by rw [e,hD] at hb;cases hb)];exact sm b o hb
   rw [ay c,fh] at et;exact⟨by rw [et],⟨_,rfl⟩,sm,hd⟩
  obtain⟨rfl,_,sm,hd⟩:=h;rw [av,dB] at hd;have hd:H6 D=some (.lst ((wordsOf row).map V.str)):=hd;have s6:=s4.trans sm;have lw:(wordsOf row).length<=100000:=by
   have l1:=jG (λu:Str=>((u.length:Int) != 0)) (Txt.split row ⟨#[32]⟩);have:(wordsOf row).length<=(Txt.split row ⟨#[32]⟩).length:=l1;omega
  have zw:∀u∈wordsOf row,u.length<=sizeLine:=λu hu=>by
   have:=split_len (fV.mp hu).1;exact fits ∅
  have Rx:Fu R S H2 H6:=λb o h1 h2 h3=>s6 _ _ (sc b o h1 h2 h3);have lr:=bK cK;have ls:=bK tS;generalize wordsOf row=W at tk hd lw zw;cases tk with
  | none _ _ _ _ _ tk =>
   refine⟨_,rfl,false,.inl ⟨[],aD.of hd,rfl⟩,?_⟩;refine gI ?_;refine gI ?_;exact⟨rs,ss,ru,st,_,_,_,rfl,Rx,s6 _ _ hR,cK.same s6,s6 _ _ hS,tS.same s6,tk⟩
  | mark _ _ u ws _ _ _ h tk =>
   refine⟨_,rfl,true,.inl ⟨_,aD.of hd,rfl⟩,?_⟩;refine ow ?_;refine⟨_,rfl,D,_,_,_,rfl,rfl,aD.of hd,lY _ _,rfl,u,⟨#[35]⟩,rfl,rfl,true,by rw [sW,h];rfl,?_⟩;refine gI ?_;refine gI ?_;exact⟨rs,ss,ru,st,_,_,_,rfl,Rx,s6 _ _ hR,cK.same s6,s6 _ _ hS,tS.same s6,tk⟩
  | row _ _ u ws _ r1 s1 _ _ h ok l1 l2 tk =>
   refine⟨_,rfl,true,.inl ⟨_,aD.of hd,rfl⟩,?_⟩;refine ow ?_;refine⟨_,rfl,D,_,_,_,rfl,rfl,aD.of hd,lY _ _,rfl,u,⟨#[35]⟩,rfl,rfl,false,by rw [sW,beq_false_of_ne h],?_⟩;refine ow ?_;refine⟨_,rfl,_,rfl,_,rfl,D,R,S,u::ws,rs,ss,ru,st,r1,s1,rfl,aD.of hd,lw,zw,s6 _ _ hR,cK.same s6,∅,s6 _ _ hS,tS.same s6,∅,Kl,ok,λPV PN H7 ZD hR7 KO hS7 Tf=>⟨true,rfl,?_⟩⟩;refine gI ?_;exact⟨PV,PN,r1,s1,_,_,_,rfl,λb o h1 h2 h3=>ZD b o h1 h2 (Rx b o h1 h2 h3),hR7,KO,hS7,Tf,tk⟩
 rintro σ H3 ⟨rs,ss,ru,st,y3,y4,y5,rfl,sc,hR,cK,hS,tS,tk⟩;rw [av,List.drop_length] at tk;cases tk;have lr:=bK cK;have sH:aC H H3:=λb o hb=>sc b o (aq hb Xw) (aq hb fS) (s2 _ _ (s1 _ _ hb));refine⟨_,rfl,R,rs,aa,rfl,aD.of hR,cK,∅,hag,λE0 H4 s4 e4 f4=>⟨_,rfl,λg gx hg hgx ngx=>?_⟩⟩;have s5:aC H4 (upd (upd H4 gx (.own g)) g (.ins Cg gx [])):=(ae hgx _).trans (ae (by rw [ai ngx.symm];exact hg) _);refine⟨H4,g,gx,E0,.ref S,rs,ss,aa,dZ,rk,b,rfl,s5,hg,ab,aD.of e4,cK.same s4,Ut,h8,pR,.inr ⟨S,rfl,aD.of (s4 _ _ hS),tS.same s4⟩,sf,Od,zF,gd,hT.same (sH.trans s4),λbt H5 rX KL gr=>⟨rfl,?_⟩⟩;exact q g bt rs ss H4 H5 (sH.trans s4) rX KL (cK.same s4) (tS.same s4) gr hg
end
def Ku (u:Str):((u.length:Int) != 0)=decide (sg u≠[]):=by
 have e:(sg u).length=u.length:=by unfold sg;simp [Str.length]
 rw [il,bne_iff_ne,decide_eq_true_eq,ne_eq,ne_eq,<-uI,e];omega
def k_ (z:Str):(wordsOf z).map sg=wd (sg z):=by
 unfold wordsOf wd;rw [<-iN,List.filter_map]
 congr 1
 refine List.filter_congr λu _=>?_;rw [Ku];rfl
theorem lJ:∀{a b:List Str},a.map sg=b.map sg->a=b
 | [],[],_=>rfl
 | [],_::_,h=>by cases h
 | _::_,[],h=>by cases h
 | x::a,y::b,h=>by
  rw [br,br] at h;injection h with h1 h2;rw [JF h1,lJ h2]
def dG {z:Str}{ws:List Str}(h:wd (sg z)=ws.map sg):wordsOf z=ws:=lJ (by rw [k_,h])
structure Wd (z:Str):Prop where
 ne:sg z≠[]
 nb:32∉sg z
 nl:10∉sg z
theorem Ij:∀{ps:List (List Nat)},(∀p∈ps,32∉p/\p≠[])->wd (jn 32 ps)=ps
 | [],_=>rfl
 | [x],h=>lg (h x bG).1 (h x bG).2
 | x::y::r,h=>by
  show wd (x++32::jn 32 (y::r))=_;rw [i7,lg (h x bG).1 (h x bG).2,Ij λp hp=>h p (cJ _ hp)];rfl
def mj {ws:List Str}(h:∀z∈ws,Wd z):wd (sg (Txt.join ⟨#[32]⟩ ws))=ws.map sg:=by
 rw [wx];refine Ij λp hp=>?_;obtain⟨z,hz,rfl⟩:=cM.mp hp;exact⟨(h z hz).nb,(h z hz).ne⟩
def DE {ws:List Str}(h:∀z∈ws,Wd z):wordsOf (Txt.join ⟨#[32]⟩ ws)=ws:=dG (mj h)
def GU {n:Str}{ws:List Str}(hn:Wd n)(h:∀z∈ws,Wd z):wordsOf (n++(" : ":Str)++Txt.join ⟨#[32]⟩ ws)=n::(":":Str)::ws:=by
 refine dG ?_;rw [df,df,show sg (" : ":Str)=[32,58,32] from rfl,gA];show wd (sg n++32::([58]++32::sg (Txt.join ⟨#[32]⟩ ws)))=_;rw [i7,i7,mj h,lg hn.nb hn.ne,lg nofun nofun];rfl
def GQ {ws:List Str}(h:∀z∈ws,Wd z):wordsOf (("| ":Str)++Txt.join ⟨#[32]⟩ ws)=("|":Str)::ws:=by
 refine dG ?_;rw [df,show sg ("| ":Str)=[124,32] from rfl];show wd ([124]++32::sg (Txt.join ⟨#[32]⟩ ws))=_;rw [i7,mj h,lg nofun nofun];rfl
def JT {t:Str}{ws:List Str}(h:∀z∈ws,Wd z):wordsOf (t++(" | ":Str)++Txt.join ⟨#[32]⟩ ws)=wordsOf t++("|":Str)::ws:=by
 refine dG ?_;rw [df,df,show sg (" | ":Str)=[32,124,32] from rfl,gA];show wd (sg t++32::([124]++32::sg (Txt.join ⟨#[32]⟩ ws)))=_;rw [i7,i7,mj h,lg (l:=[124]) nofun nofun,aQ,k_];rfl
def GO (a k b:Nat)(z:Str):wordsOf (jA a++Txt.join (jA (k+1)) (Txt.split z ⟨#[32]⟩)++jA b)=wordsOf z:=by
 refine dG ?_;rw [df,df,lB,lB,Gj,yf,Gi,k_]
theorem iO:∀(ws:List Str)(d:List (List Str)) (c:List Str)(rws:List (List Str)) (ps:List Str),cZ d c ws=some rws->(∀p∈ps,p≠("|":Str)/\eE p=true)->cZ d c (ws++("|":Str)::ps)=some (rws++[ps])
 | [],d,c,rws,ps,h,hp=>by
  rw [cZ] at h;cases h;show cZ d c (("|":Str)::ps)=_;rw [cZ,az rfl];have key:∀(ps:List Str)(d:List (List Str)) (c:List Str),(∀p∈ps,p≠("|":Str)/\eE p=true)->cZ d c ps=some (d++[c++ps]):=by
   intro ps
   induction ps with
   | nil=>intro d c _;rw [cZ,fh]
   | cons p r ih =>
    intro d c hp;obtain⟨h1,h2⟩:=hp p bG;rw [cZ,ay h1,az h2,ih d (c++[p]) λq hq=>hp q (cJ _ hq),gA];rfl
  rw [key ps _ _ hp,oP]
 | w::ws,d,c,rws,ps,h,hp=>by
  rw [cZ] at h;rw [List.cons_append,cZ]
  split at h
  .rename_i e
   rw [az e];exact iO ws _ _ rws ps h hp
  rename_i e
  rw [ay e]
  split at h
  .rename_i e2
   rw [az e2];exact iO ws _ _ rws ps h hp
  cases h
def tE {ps:List Str}(hp:∀p∈ps,p≠("|":Str)/\eE p=true):cZ [] [] ps=some [ps]:=by
 have h:=iO [] [] [] [[]] ps rfl hp;have e:cZ [] [] ([]++("|":Str)::ps)=cZ [[]] [] ps:=by
  rw [oP,cZ,az rfl];rfl
 have key:∀(ps:List Str)(d:List (List Str)) (c:List Str),(∀p∈ps,p≠("|":Str)/\eE p=true)->cZ d c ps=some (d++[c++ps]):=by
  intro ps
  induction ps with
  | nil=>intro d c _;rw [cZ,fh]
  | cons p r ih =>
   intro d c hp;obtain⟨h1,h2⟩:=hp p bG;rw [cZ,ay h1,az h2,ih d (c++[p]) λq hq=>hp q (cJ _ hq),gA];rfl
 exact key ps [] [] hp
def cq.snoc {r s r1 s1 r2 s2:List aB}{rows:List (List Str)}{z:Str}{ws:List Str}(t:cq r s rows r1 s1)(h:(sg z).head?≠some 35)(o:uo r1 s1 (z::ws) r2 s2)(lr:r1.length<=100000)(ls:s1.length<=100000):cq r s (rows++[z::ws]) r2 s2:=by
 induction t with
 | nil r s=>exact .row _ _ _ _ _ _ _ _ _ h o lr ls (.nil _ _)
 | none r s rows r' s' t ih=>exact .none _ _ _ _ _ (ih o lr ls)
 | mark r s z ws rows r' s' h' t ih=>exact .mark _ _ _ _ _ _ _ h' (ih o lr ls)
 | row r s z ws rows r1 s1 r' s' h' o' lr' ls' t ih=>exact .row _ _ _ _ _ _ _ _ _ h' o' lr' ls' (ih o lr ls)
def LK (ws:List Str):Prop:=ws=[]\/∃z r,ws=z::r/\(sg z).head?=some 35
inductive NZ:List (List Str)->List (List Str)->Prop
 | nil:NZ [] []
 | same (w a b)(t:NZ a b):NZ (w::a) (w::b)
 | extra (w a b)(h:LK w)(t:NZ a b):NZ a (w::b)
def NZ.snoc {a b:List (List Str)}(w:List Str)(t:NZ a b):NZ (a++[w]) (b++[w]):=by
 induction t with
 | nil=>exact .same _ _ _ .nil
 | same w a b t ih=>exact .same _ _ _ ih
 | extra w a b h t ih=>exact .extra _ _ _ h ih
def NZ.Nj {a b:List (List Str)}{w:List Str}(h:LK w)(t:NZ a b):NZ a (b++[w]):=by
 induction t with
 | nil=>exact .extra _ _ _ h .nil
 | same w a b t ih=>exact .same _ _ _ ih
 | extra w a b h t ih=>exact .extra _ _ _ h ih
def NZ.text {a b:List (List Str)}(t:NZ a b):∀{r s r' s':List aB},cq r s a r' s'->cq r s b r' s':=by
 induction t with
 | nil=>exact λh=>h
 | same w a b t ih =>
  intro r s r' s' h;cases h with
  | none _ _ _ _ _ h=>exact .none _ _ _ _ _ (ih h)
  | mark _ _ z ws _ _ _ hz h=>exact .mark _ _ _ _ _ _ _ hz (ih h)
  | row _ _ z ws _ r1 s1 _ _ hz o lr ls h=>exact .row _ _ _ _ _ _ _ _ _ hz o lr ls (ih h)
 | extra w a b hw t ih =>
  intro r s r' s' h;rcases hw with rfl | ⟨z,ws,rfl,hz⟩
  .exact .none _ _ _ _ _ (ih h)
  exact .mark _ _ _ _ _ _ _ hz (ih h)
theorem C_ (c:Nat):∀(l:List Nat),∀p∈sp c l,∀x∈p,x∈l
 | [],p,hp,x,hx=>by rw [bH.mp hp] at hx;exact hx
 | a::r,p,hp,x,hx=>by
  have ih:=C_ c r;unfold sp at hp
  split at hp
  .rcases aW.mp hp with rfl | hp
   .cases hx
   exact cJ _ (ih p hp x hx)
  obtain⟨h,t,e⟩:=Am c r;rw [e] at hp ih;rcases aW.mp hp with rfl | hp
  .rcases aW.mp hx with rfl | hx
   .exact bG
   exact cJ _ (ih h bG x hx)
  exact cJ _ (ih p (cJ _ hp) x hx)
theorem C9 (c:Nat):∀(l:List Nat),((sp c l).map List.length).sum+(sp c l).length=l.length+1
 | []=>rfl
 | a::r=>by
  have ih:=C9 c r;unfold sp
  split
  .rw [br,gw,bV,jq,bV];omega
  obtain⟨h,t,e⟩:=Am c r;rw [e] at ih ⊢;rw [br,gw,bV] at ih;show ((a::h).length::t.map List.length).sum+(t.length+1)=(a::r).length+1;rw [gw,bV,bV];omega
def cA (u:Str):(sg u).length=u.length:=by unfold sg;simp [Str.length]
def sX (c:Nat)(z:Str):((Txt.split z ⟨#[c]⟩).map (·.length)).sum+(Txt.split z ⟨#[c]⟩).length=z.length+1:=by
 have h:=C9 c (sg z);rw [<-iN,gZ,av,cA] at h;have e:(Txt.split z ⟨#[c]⟩).map (List.length ∘ sg)=(Txt.split z ⟨#[c]⟩).map (·.length):=uB λu _=>cA u;rw [e] at h;exact h
def Bq {c x:Nat}{z p:Str}(h:p∈Txt.split z ⟨#[c]⟩)(hx:x∈sg p):x∈sg z:=by
 have h2:sg p∈sp c (sg z):=by rw [<-iN];exact iK h
 exact C_ c _ _ h2 x hx
theorem qT {y:Str}{x:Nat}:∀{ts:List Str},x∈sg (Str.join y ts)->x∈sg y\/∃t∈ts,x∈sg t
 | [],h=>by cases h
 | [t],h=>.inr ⟨t,bG,h⟩
 | t::u::r,h=>by
  have h:x∈sg (t++y++Str.join y (u::r)):=h;rw [df,df] at h;rcases aX.mp h with h | h
  .rcases aX.mp h with h | h
   .exact .inr ⟨t,bG,h⟩
   exact .inl h
  rcases qT (ts:=u::r) h with h | ⟨v,hv,h⟩
  .exact .inl h
  exact .inr ⟨v,cJ _ hv,h⟩
def Gg {k:Nat}{z:Str}(h:10∉sg z):10∉sg (Txt.join (jA k) (Txt.split z ⟨#[32]⟩)):=λhx=>by
 have e:Txt.join (jA k) (Txt.split z ⟨#[32]⟩)=Str.join (jA k) (Txt.split z ⟨#[32]⟩):=kN _ _;rw [e] at hx;rcases qT hx with hx | ⟨t,ht,hx⟩
 .rw [lB] at hx;have:=yc hx;omega
 exact h (Bq ht hx)
def ki (k:Nat):(jA k).length=k:=by rw [<-cA,lB,List.length_replicate]
def CY {k:Nat}{z:Str}(hk:k<=3):(Txt.join (jA k) (Txt.split z ⟨#[32]⟩)).length<=4 * z.length+4:=by
 have e:Txt.join (jA k) (Txt.split z ⟨#[32]⟩)=Str.join (jA k) (Txt.split z ⟨#[32]⟩):=kN _ _;have h1:=qr (jA k) (Txt.split z ⟨#[32]⟩);have h2:=sX 32 z;rw [e];rw [ki] at h1;have h3:(Txt.split z ⟨#[32]⟩).length * k<=(Txt.split z ⟨#[32]⟩).length * 3:=Nat.mul_le_mul_left _ hk;omega
def yq {ts:List Str}(hn:ts≠[])(h:∀t∈ts,10∉sg t):Txt.split (Txt.join ⟨#[10]⟩ ts) ⟨#[10]⟩=ts:=by
 refine lJ ?_;rw [iN,wx,Dd (by simpa using hn)];intro p hp;obtain⟨t,ht,rfl⟩:=cM.mp hp;exact h t ht
abbrev Dz:Stmt:=top 51
abbrev u6:Stmt:=top 52
abbrev Dv:Stmt:=top 53
section
def Dk (K:aY):Sp:=λvs H Q _=>∃(a:Addr)(ns:List Int) (k:Nat),vs=[.ref a,.int (k:Int)]/\aD K H a (ns.map V.int)/\ns.length<=1000/\∀n:Int,Q (.int n) H
def JJ:aK ["_law_script","_law_k"] ["_law_script","_law_k"] (ax Dz):=iI rfl rfl rfl rfl nofun
def Hl (F:ig K "_law_cell_at" "_law_cell_at" Dz f fd)(T:Txt mg):bS P w K mg base fu 1 f fd ["_law_script","_law_k"] (Dk K):=by
 refine F.ok JJ (λvs H Q E h=>?_) (λeB A outer s H vs Q E hr h=>?_)
 .obtain⟨a,ns,k,rfl,_⟩:=h;rfl
 obtain⟨a,ns,k,rfl,hS,hn,q⟩:=h;refine⟨_,ak (cN (bB mP (pv 1) (aV bD rfl T.len fw (af (pv 0) aj)) (cf _)) (ar (bf (aM aP (pv 0) (pv 1) (λ_ _=>rfl)))) bC) (ar (bf ao)),?_⟩;refine⟨_,rfl,_,rfl,a,_,rfl,.inl hS,_,_,rfl,rfl,_,rfl,?_⟩;refine dA (λcc=>?_) (λ_=>q 0);have lt:=dF cc;rw [av] at lt;have lt':k < ns.length:=by omega
 refine⟨_,rfl,_,rfl,a,_,_,.int ns[k],rfl,rfl,hS,bE (by rw [aZ,dw lt'];rfl),q _⟩
def jS:Sp:=λvs H Q _=>∃(c:Int) (m:Nat),vs=[.int c,.int (m:Int)]/\m<=100/\∀D ns H',H D=none->aC H H'->H' D=some (.lst (List.map V.int ns))->ns.length=m->(∀n∈ns,(0:Int)<=n/\n < 4294967311)->Q (.ref D) H'
def jT:aK ["_law_cell","_law_many","_law_found","_law_number","_law_k"] ["_law_cell","_law_many"] (ax u6):=iI rfl rfl rfl rfl nofun
def Vk (xs:List V):dq xs (some 1) none=xs.drop 1:=by
 have e1:HT.jw xs.length 0 (some 1)=min 1 xs.length:=HT.ke _ _ 1;have e2:HT.jw xs.length xs.length none=xs.length:=rfl;unfold dq;rw [e1,e2];cases xs with
 | nil=>rfl
 | cons x r=>simp
def BG (F:ig K "_law_stream" "_law_stream" u6 f fd)(T:Txt mg):bS P w K mg base fu 1 f fd ["_law_cell","_law_many"] jS:=by
 refine F.ok jT (λvs H Q E h=>?_) (λeB A outer s H vs Q E hr h=>?_)
 .obtain⟨c,m,rfl,_⟩:=h;rfl
 obtain⟨c,m,rfl,hm,q⟩:=h;refine⟨_,ak (aE (i:=2) jT.nd rfl (bJ rfl) (bA aj))
  (ak (aE (i:=3) jT.nd rfl (bJ rfl) (aI dC (aI cz (pv 0) ao) ao))
  (ak (cw cP rfl (iQ rfl T.FR (af (aI dC (pv 1) ao) aj)) (au (i:=4) jT.nd rfl (bJ rfl))
   (ak (aE (i:=3) jT.nd rfl (bJ rfl) (aI cz (aI dC (aI dC (aI yY (pv 3) (pv 3)) (aI yY ao (pv 3))) (pv 4)) ao))
   (ar (cx (di fQ gM gN bX (pv 2) (af (pv 3) aj))))))
  (ar (bf (bR cH (pv 2) (bQ ao) cU))))),?_⟩
 refine⟨sj,λl hl=>?_⟩;refine⟨_,rfl,_,_,rfl,rfl,(by show (0:Int) < 4294967311;decide),_,_,rfl,rfl,?_⟩;refine⟨_,rfl,_,_,rfl,rfl,_,rfl,∅,∅,?_⟩;have e0:((m:Int)+1).toNat=m+1:=by omega
 rw [e0];have hx0:(0:Int)<=c % 4294967311+48271/\c % 4294967311+48271 < 8589934592:=by omega
 refine kj (n:=m+1) (λi σ H2=>∃(x:Int)(ns:List Int)(kk:Option V),σ=[some (.int c),some (.int (m:Int)),aG l,some (.int x),kk]/\H2=upd H l (.lst (ns.map V.int))/\ns.length=i/\((0:Int)<=x/\x < 8589934592)/\∀n∈ns,(0:Int)<=n/\n < 4294967311)
  ⟨c % 4294967311+48271,[],none,rfl,rfl,rfl,hx0,by simp⟩ ?_ ?_
 .rintro i σ H2 hi ⟨x,ns,kk,rfl,rfl,oy,hx,vC⟩;refine⟨_,rfl,_,rfl,_,_,rfl,rfl,.inl ⟨∅,∅⟩,_,rfl,_,_,rfl,rfl,.inl ⟨nofun,nofun⟩,_,_,rfl,rfl,_,rfl,_,_,rfl,rfl,_,_,rfl,rfl,(by show (0:Int) < 4294967311;decide),?_⟩;have hy:(0:Int)<=(x * x+69621 * x+(0+(i:Int))) % 4294967311/\(x * x+69621 * x+(0+(i:Int))) % 4294967311 < 4294967311:=by omega
  refine⟨_,rfl,.inl ⟨rfl,_,aD.of ab⟩,_,rfl,l,_,_,rfl,rfl,ab,bo (by rw [av];omega),?_⟩;refine⟨(x * x+69621 * x+(0+(i:Int))) % 4294967311,ns++[(x * x+69621 * x+(0+(i:Int))) % 4294967311],_,rfl,by rw [i8,aQ];rfl,by rw [bW,oy];rfl,⟨hy.1,∅⟩,λn hn=>?_⟩;rcases aX.mp hn with h | h
  .exact vC n h
  rw [bH.mp h];exact hy
 rintro σ H2 ⟨x,ns,kk,rfl,rfl,oy,hx,vC⟩;refine⟨_,rfl,1,rfl,l,_,rfl,aD.of ab,λp hp=>?_⟩;rw [Vk];have pQ:p≠l:=λz=>by rw [z,ab] at hp;cases hp
 refine q p (ns.drop 1) _ (by rw [ai pQ] at hp;exact hp) ((ae hl _).trans (ae hp _)) (by rw [ab,jL]) (by rw [fj,oy];omega) λn hn=>vC n (pY hn)
def i6:Str := "!\"$&'(),-./0123456789;<=>@ABCDEFGHIJKLMNOPQRSTUVWXYZ[\\]^_`abcdefghijklmnopqrstuvwxyz{}~"
def ED:i6.cps.toList.length=87:=by decide +kernel
def Pe (n:Int):∃c,ik i6.cps.toList (n % 87)=some c:=by
 have h:(n % 87).toNat < i6.cps.toList.length:=by rw [ED];omega
 refine⟨i6.cps.toList[(n % 87).toNat],?_⟩;have e:n % 87=(((n % 87).toNat:Nat):Int):=by omega
 have:=bE (dw h);rw [<-e] at this;exact this
def Sb:i6.cps.toList.Nodup:=by decide +kernel
def NW {a b:Int}{c:Nat}(h1:ik i6.cps.toList (a % 87)=some c)(h2:ik i6.cps.toList (b % 87)=some c):a % 87=b % 87:=by
 have e1:a % 87=(((a % 87).toNat:Nat):Int):=by omega
 have e2:b % 87=(((b % 87).toNat:Nat):Int):=by omega
 have l1:(a % 87).toNat < i6.cps.toList.length:=by rw [ED];omega
 have l2:(b % 87).toNat < i6.cps.toList.length:=by rw [ED];omega
 have g1:=bE (dw l1);have g2:=bE (dw l2);rw [<-e1,h1] at g1;rw [<-e2,h2] at g2;have e3:i6.cps.toList[(a % 87).toNat]=i6.cps.toList[(b % 87).toNat]:=(g6 g1).symm.trans (g6 g2);have:=(qg Sb).mp e3;omega
def Fy (pre:Str) (n2:Int) (j:Nat)(z:Str):Prop:=∃cc Zz,z=pre++⟨#[cc]⟩++Zz/\ik i6.cps.toList ((n2+5 * (j:Int)) % 87)=some cc
def G4 {pre:Str}{n2:Int}{ws:List Str}(hl:ws.length<=14)(h:∀j z,ws[j]?=some z->Fy pre n2 j z):ws.Nodup:=by
 refine List.pairwise_iff_getElem.mpr λi j hi hj FY e=>?_;obtain⟨c1,s1,e1,a1⟩:=h i _ (dw hi);obtain⟨c2,s2,e2,a2⟩:=h j _ (dw hj);rw [e1,e2] at e;have e':=congrArg (λz:Str=>z.cps.toList) e;have q:pre.cps.toList++(c1::s1.cps.toList)=pre.cps.toList++(c2::s2.cps.toList):=by
  have f:∀(c:Nat)(s:Str),(pre++(⟨#[c]⟩:Str)++s).cps.toList=pre.cps.toList++(c::s.cps.toList):=λc s=>by
   show ((pre.cps++#[c])++s.cps).toList=_;simp
  rw [<-f,<-f];exact e'
 have q2:=List.append_cancel_left q;injection q2 with q3 _;rw [<-q3] at a2;have:=NW a1 a2;omega
def um (z:Str):Prop:=∀c∈z.cps.toList,c∈i6.cps.toList
def um.app {x y:Str}(h:um x)(g:um y):um (x++y):=λc hc=>by
 have e:(x++y).cps.toList=x.cps.toList++y.cps.toList:=by show (x.cps++y.cps).toList=_;simp
 rw [e] at hc;exact(aX.mp hc).elim (h c) (g c)
def um.one {cc:Nat}{i:Int}(h:ik i6.cps.toList i=some cc):um ⟨#[cc]⟩:=λc hc=>by
 have:c=cc:=by simpa using hc
 subst this;unfold ik at h;obtain⟨j,_,e⟩:=Option.bind_eq_some_iff.mp h;exact cv e
theorem um.wu {z:Str}(h:um z)(lo hi:Option Int):um (wu z lo hi):=by
 unfold L2.wu
 split
 .exact h
 intro c hc;have hc:c∈(List.filterMap (z.cps[·]?) (slicePicked z (lo.map λi=>(i,0)) (hi.map λi=>(i,0)) none)):=by simpa using hc
 obtain⟨k,_,e⟩:=ux.mp hc;exact h c (by rw [Array.mem_toList_iff];exact Array.mem_of_getElem? e)
theorem um.join {zs:List Str}(h:∀z∈zs,um z):um (Txt.join (Str.ofString "") zs):=by
 have e2:Txt.join (Str.ofString "") zs=Str.join (Str.ofString "") zs:=kN _ _;rw [e2];have e0:um (Str.ofString ""):=λc hc=>by rw [show (Str.ofString "").cps.toList=[] from rfl] at hc;cases hc
 clear e2
 induction zs with
 | nil=>exact λc hc=>by simp [Str.join,Str.empty] at hc
 | cons x r ih =>
  cases r with
  | nil=>exact h x bG
  | cons y t =>
   show um (x++Str.ofString "" ++ Str.join (Str.ofString "") (y::t));exact((h x bG).app e0).app (ih λz hz=>h z (cJ _ hz))
def G5 (a:Int)(h:0<=a) (n:Nat):(Builtin.Str.strSliceIndices none (some a) 1 n).length<=a.toNat:=by
 unfold Builtin.Str.strSliceIndices sliceRange;simp only [show (1:Int) > 0 by decide,if_true,av,nV] <;> (split <;> (try split) <;> (try split) <;> (try simp only [Int.ediv_one]) <;> omega)
def G6 (a:Int)(h:0<=a)(u:Option Int) (n:Nat):(Builtin.Str.strSliceIndices (some a) u 1 n).length<=n - a.toNat:=by
 unfold Builtin.Str.strSliceIndices sliceRange;cases u <;> simp only [show (1:Int) > 0 by decide,if_true,av,nV] <;> (split <;> (try split) <;> (try split) <;> (try simp only [Int.ediv_one]) <;> omega)
def Dm (z:Str) (a:Int)(h:0<=a):(wu z none (some a)).length<=a.toNat:=by
 have hp:(slicePicked z (none:Option (Int×Tok)) (some (a,0)) none).length<=a.toNat:=G5 a h z.length;unfold wu
 split
 .rename_i e
  have e':(slicePicked z (none:Option (Int×Tok)) (some (a,0)) none).length=z.length:=eq_of_beq e;omega
 show (List.toArray _).size<=_;rw [bO];exact dI (uK _ _) hp
def Dp (z:Str) (a:Int)(h:0<=a) (u:Int):(wu z (some a) (some u)).length<=z.length - a.toNat:=by
 have hp:(slicePicked z (some (a,0)) (some (u,0)) none).length<=z.length - a.toNat:=G6 a h (some u) z.length;unfold wu
 split
 .rename_i e
  have e':(slicePicked z (some (a,0)) (some (u,0)) none).length=z.length:=eq_of_beq e;omega
 show (List.toArray _).size<=_;rw [bO];exact dI (uK _ _) hp
def xr (xs:List V) (i j:Nat):(dq xs (some (i:Int)) (some (j:Int))).length<=j - i:=by
 unfold dq;rw [HT.ke,HT.ke,cX,fj];omega
def Fi (xs:List V) (i j:Int)(hi:0<=i)(hj:i<=j):(dq xs (some i) (some j)).length<=(j - i).toNat:=by
 obtain⟨a,rfl⟩:=x_ hi;obtain⟨b,rfl⟩:=x_ (Int.le_trans hi hj);have h:=xr xs a b;omega
structure pF (z:Str):Prop where
 ne:z.length≠0
 le:z.length<=14
 sg:um z
def Dg:Sp:=λvs H Q _=>∃(c:Int) (m:Nat),vs=[.int c,.int (m:Int)]/\m<=14/\∀D zs H',H D=none->aC H H'->H' D=some (.lst (List.map V.str zs))->zs.length=m->(∀z∈zs,pF z)->zs.Nodup->Q (.ref D) H'
def iE:aK ["_law_cell","_law_many","_law_signs","_law_draws","_law_size","_law_at","_law_base","_law_found","_law_k","_law_sign","_law_end"] ["_law_cell","_law_many"] (ax Dv):=iI rfl rfl rfl rfl nofun
def Hh (F:ig K "_law_pool" "_law_pool" Dv f fd)(T:Txt mg)(GS:aH P w K mg base 1 "_law_stream" ["_law_cell","_law_many"] jS):bS P w K mg base fu 2 f fd ["_law_cell","_law_many"] Dg:=by
 refine F.ok iE (λvs H Q E h=>?_) (λeB A outer s H vs Q E hr h=>?_)
 .obtain⟨c,m,rfl,_⟩:=h;rfl
 obtain⟨c,m,rfl,aam,q⟩:=h;refine⟨_,ak (aE (i:=2) iE.nd rfl (Or.inr rfl) aU)
  (ak (aE (i:=3) iE.nd rfl (bJ rfl) (bI GS hr rfl (af (pv 0) (af ao aj))))
  (ak (aE (i:=4) iE.nd rfl (bJ rfl) (aI dC ao (aI cz (aM aP (pv 3) ao (λ_ _=>rfl)) ao)))
  (ak (aE (i:=5) iE.nd rfl (bJ rfl) (aI cz (aM aP (pv 3) ao (λ_ _=>rfl)) (pv 4)))
  (ak (aE (i:=6) iE.nd rfl (bJ rfl) (di ju pZ p5 mR aU
   (af (bL ["_law_draw"] [(2,"_law_signs")] rfl (a9 (bR cH (pv 3) (bQ ao) (bQ (aI dC ao (pv 4))))) (a_ rfl rfl) nofun rfl nofun
    (λ_ _ _ _ _=>au (i:=0) (show (["_law_draw","_law_signs"]:List Str).Nodup by decide +kernel) rfl (bJ rfl)) (λ_ _ _ _ _=>cb) (λ_ _ _ _ _=>aM zy (pv 1) (aI cz (pv 0) ao) (λ_ _=>rfl))) aj)))
  (ak (aE (i:=7) iE.nd rfl (bJ rfl) (bA aj))
  (ak (cw cP rfl (iQ rfl T.FR (af (pv 1) aj)) (au (i:=8) iE.nd rfl (bJ rfl))
   (ak (aE (i:=9) iE.nd rfl (bJ rfl) (aM zy (pv 2) (aI cz (aI dC (aM aP (pv 3) (aI dC ao (pv 5)) (λ_ _=>rfl)) (aI yY ao (pv 8))) ao) (λ_ _=>rfl)))
   (ak (aE (i:=10) iE.nd rfl (bJ rfl) (aI dC (aI dC (pv 5) ao) (aI cz (aI dM (aM aP (pv 3) ao (λ_ _=>rfl)) (aI dC (pv 8) ao)) ao)))
   (ar (cx (di fQ gM gN bX (pv 7)
    (af (aI dX (aI dX (bR AE (pv 6) cU (bQ (pv 5))) (pv 9)) (bR AE (pv 6) (bQ (aI dC (pv 5) ao)) (bQ (pv 10)))) aj)))))))
  (ar (bf (pv 7))))))))),?_⟩
 refine⟨_,rfl,c,16,rfl,nofun,λD ns H1 T7 s1 hD bM vC=>?_⟩;have K_:∀i:Nat,i < 16->∃x:Int,(0:Int)<=x/\x < 4294967311/\ik (ns.map V.int) (i:Int)=some (.int x):=λi hi=>by
  have lt:i < ns.length:=by omega
  obtain⟨a1,a2⟩:=vC ns[i] (pW lt);exact⟨ns[i],a1,a2,bE (by rw [aZ,dw lt];rfl)⟩
 obtain⟨n0,a0,b0,g0⟩:=K_ 0 nofun;obtain⟨n1,a1,b1,g1⟩:=K_ 1 nofun;refine⟨_,rfl,D,_,_,.int n0,rfl,rfl,aD.of hD,g0,_,_,rfl,rfl,(by show (0:Int) < 14;decide),_,_,rfl,rfl,?_⟩;refine⟨_,rfl,D,_,_,.int n1,rfl,rfl,aD.of hD,g1,_,rfl,_,_,rfl,rfl,(by show (0:Int) < 1+n0 % 14;omega),?_⟩;have Ue:(0:Int)<=n1 % (1+n0 % 14)/\n1 % (1+n0 % 14) < 14:=by
  have h1:(0:Int) < 1+n0 % 14:=by omega
  have h2:=k8 n1 (Int.ne_of_gt h1);have h3:=qj n1 h1;omega
 refine⟨rfl,_,rfl,2,rfl,_,rfl,_,_,rfl,rfl,_,rfl,D,_,rfl,aD.of hD,λc1 Xr=>?_⟩;obtain⟨tM,e1,_,l1⟩:=rB ns (some 2) (some (2+(1+n0 % 14)));have l1b:(tM.length:Int)<=1+n0 % 14:=by
  have h:=Fi (ns.map V.int) 2 (2+(1+n0 % 14)) nofun ∅;rw [e1,av] at h;omega
 rw [e1];have s2:=s1.trans (ae Xr (.lst (tM.map V.int)));have ON:upd H1 c1 (.lst (tM.map V.int)) D=some (.lst (ns.map V.int)):=by rw [ai (aq hD Xr)];exact hD
 have Ql:upd H1 c1 (.lst (tM.map V.int)) c1=some (.lst (tM.map V.int)):=ab;generalize upd H1 c1 (.lst (tM.map V.int))=H2 at s2 ON Ql;refine⟨c1,rfl,⟨_,aD.of Ql⟩,λD2 ic=>bq (xs:=tM.map V.int) (λi ys σ2 H3=>∃zs:List Str,ys=zs.map V.str/\zs.length=i/\(∀z∈zs,z.length=1)/\(∀z∈zs,um z)/\(∃y,σ2=[y,some (.str i6)])/\aC H2 H3/\H3 D2=some (.lst ys))
  ⟨[],rfl,rfl,by simp,by simp,⟨none,rfl⟩,ae ic _,ab⟩ (λi ys σ2 H3 _ h=>?_) (λi x ys σ2 H3 ex h=>?_) (λys σ2 H3 h=>?_)⟩
 .obtain⟨_,_,_,_,_,_,sm,_⟩:=h;exact aD.of (sm _ _ Ql)
 .obtain⟨zs,rfl,hz,N4,SR,⟨y,rfl⟩,sm,gY⟩:=h;rw [aZ] at ex;obtain⟨n,en,rfl⟩:=b_.mp ex;obtain⟨cc,HH⟩:=Pe n;have li:i < tM.length:=(bx.mp en).1;refine goN ?_;refine sD ?_;refine⟨_,rfl,_,rfl,_,_,rfl,rfl,(by show (0:Int) < 87;decide),i6,_,cc,rfl,rfl,nofun,HH,gY,bo (by rw [av];omega),zs++[⟨#[cc]⟩],?_,?_,?_,?_,⟨_,rfl⟩,?_,?_⟩
  .rw [aQ];rfl
  .rw [bW,hz];rfl
  .intro z Hy;rcases aX.mp Hy with h | h
   .exact N4 z h
   rw [bH.mp h];rfl
  .intro z Hy;rcases aX.mp Hy with h | h
   .exact SR z h
   rw [bH.mp h];exact um.one HH
  .intro b o hb;rw [ai (λz=>by rw [z,ic] at hb;cases hb)];exact sm b o hb
  rw [ab]
 obtain⟨zs,rfl,hz,N4,SR,⟨y,rfl⟩,sm,gY⟩:=h;have EL:∀l:List Str,(∀z∈l,z.length=1)->(l.map (·.length)).sum=l.length:=by
  intro l
  induction l with
  | nil=>intro _;rfl
  | cons z r ih=>intro h;rw [br,gw,ih (λz hz=>h z (cJ _ hz)),h z bG,bV];omega
 rw [av] at hz;refine⟨_,D2,zs,rfl,rfl,aD.of gY,?_,?_⟩
 .have e0:(Str.ofString "").length=0:=rfl;rw [EL zs N4,e0];omega
 have hb:(Txt.join (Str.ofString "") zs).length<=16:=by
  have h1:=qr (Str.ofString "") zs;have e0:(Str.ofString "").length=0:=rfl;rw [EL zs N4,e0] at h1;have e2:Txt.join (Str.ofString "") zs=Str.join (Str.ofString "") zs:=kN _ _;rw [e2];omega
 have hS:um (Txt.join (Str.ofString "") zs):=um.join SR;have EZ:((Txt.join (Str.ofString "") zs).length:Int)<=1+n0 % 14:=by
  have h1:=qr (Str.ofString "") zs;have e0:(Str.ofString "").length=0:=rfl;rw [EL zs N4,e0] at h1;have e2:Txt.join (Str.ofString "") zs=Str.join (Str.ofString "") zs:=kN _ _;rw [e2];omega
 generalize Txt.join (Str.ofString "") zs=F_ at hb EZ hS ⊢;have F3:=sm _ _ ON;have s3:=s2.trans sm;clear sm gY ic Ql;refine⟨sj,λl hl=>?_⟩;refine⟨_,rfl,(m:Int),rfl,∅,∅,?_⟩;rw [kK m];obtain⟨k1,ek1⟩:=x_ Ue.1;obtain⟨n2,a2,b2,g2⟩:=K_ (2+k1) ∅;have Xy:∀o,upd H3 l o D=some (.lst (ns.map V.int)):=λo=>by rw [ai (aq F3 hl)];exact F3
 refine kj (n:=m) (λi σ H4=>∃(ws:List Str)(k2 k3 k4:Option V),σ=[some (.int c),some (.int (m:Int)),some (.str i6),aG D,some (.int (1+n0 % 14)),some (.int (n1 % (1+n0 % 14))),some (.str F_),aG l,k2,k3,k4] /\
  H4=upd H3 l (.lst (ws.map V.str))/\ws.length=i/\(∀z∈ws,pF z)/\∀j z,ws[j]?=some z->Fy (wu F_ none (some (n1 % (1+n0 % 14)))) n2 j z) ⟨[],none,none,none,rfl,rfl,rfl,by simp,by simp⟩ ?_ ?_
 .rintro i σ H4 hi ⟨ws,k2,k3,k4,rfl,rfl,hw,KH,Qb⟩;obtain⟨cc,HH⟩:=Pe (n2+5 * (0+(i:Int)));refine⟨_,rfl,_,rfl,_,rfl,_,_,rfl,rfl,D,_,_,.int n2,rfl,rfl,aD.of (Xy _),?_,_,rfl,_,_,rfl,rfl,.inl ⟨nofun,nofun⟩,_,_,rfl,rfl,_,_,rfl,rfl,(by show (0:Int) < 87;decide),i6,_,cc,rfl,rfl,nofun,HH,?_⟩
  .rw [ek1];have e:(2:Int)+(k1:Int)=((2+k1:Nat):Int):=by omega
   rw [e];exact g2
  refine⟨_,rfl,_,_,rfl,rfl,_,rfl,D,_,_,.int n1,rfl,rfl,aD.of (Xy _),g1,_,rfl,_,_,rfl,rfl,_,_,rfl,rfl,⟨by show (0:Int) < 0+(i:Int)+2;omega,by show (0:Int)+(i:Int)+2 < 1073741824;omega⟩,_,_,rfl,rfl,(by show (0:Int) < 15;decide),_,_,rfl,rfl,?_⟩;refine⟨_,rfl,.inl ⟨rfl,_,aD.of ab⟩,?_⟩;refine⟨_,rfl,_,rfl,_,rfl,F_,rfl,fits ∅,?_⟩;have SX:=Dn F_ none (some (n1 % (1+n0 % 14)));have SW:=Dm F_ (n1 % (1+n0 % 14)) Ue.1;have WY:=hS.wu none (some (n1 % (1+n0 % 14)));generalize aag:wu F_ none (some (n1 % (1+n0 % 14)))=z1 at SX SW WY Qb ⊢;refine⟨_,rfl,_,_,rfl,rfl,fits (by show z1.length+1<=_;omega),?_⟩;refine⟨_,rfl,_,rfl,_,_,rfl,rfl,_,rfl,_,rfl,_,rfl,F_,rfl,fits ∅,?_⟩;have SV:=Dn F_ (some (n1 % (1+n0 % 14)+1)) (some (n1 % (1+n0 % 14)+1+n1 / (0+(i:Int)+2) % 15));have SU:=Dp F_ (n1 % (1+n0 % 14)+1) ∅ (n1 % (1+n0 % 14)+1+n1 / (0+(i:Int)+2) % 15);have Oe:=hS.wu (some (n1 % (1+n0 % 14)+1)) (some (n1 % (1+n0 % 14)+1+n1 / (0+(i:Int)+2) % 15));have aar:n1 % (1+n0 % 14) < 1+n0 % 14:=qj n1 ∅;generalize wu F_ (some (n1 % (1+n0 % 14)+1)) (some (n1 % (1+n0 % 14)+1+n1 / (0+(i:Int)+2) % 15))=z2 at SV SU Oe ⊢;have Sz:(z1++(⟨#[cc]⟩:Str)).length=z1.length+1:=jR _ _;refine⟨_,_,rfl,rfl,fits (by rw [Sz];omega),?_⟩;refine⟨l,_,_,rfl,rfl,ab,bo (by rw [av];omega),?_⟩;refine⟨ws++[z1++⟨#[cc]⟩++z2],_,_,_,rfl,by rw [i8,aQ];rfl,by rw [bW,hw];rfl,λz EJ=>?_,λj z hj=>?_⟩
  .rcases aX.mp EJ with h | h
   .exact KH z h
   rw [bH.mp h];refine⟨by rw [jR,Sz];omega,by rw [jR,Sz];omega,(WY.app (um.one HH)).app Oe⟩
  rw [List.getElem?_append] at hj
  split at hj
  .exact Qb j z hj
  rename_i gT
  have ej:j=i:=by
   have:=(bx.mp hj).1;simp at this;omega
  subst ej;rw [hw,Nat.sub_self] at hj;cases hj;refine⟨cc,z2,rfl,?_⟩;have e0:n2+5 * (0+(j:Int))=n2+5 * (j:Int):=by omega
  rw [<-e0];exact HH
 rintro σ H4 ⟨ws,k2,k3,k4,rfl,rfl,hw,KH,Qb⟩;exact⟨_,rfl,q l ws _ (s3.free hl) (s3.trans (ae hl _)) ab hw KH (G4 ∅ Qb)⟩
end
abbrev vd:Stmt:=top 54
abbrev yH:Stmt:=top 55
abbrev Dt:Stmt:=top 56
abbrev yB:Stmt:=top 57
abbrev u5:Stmt:=top 60
abbrev JN:Stmt:=top 61
section
def wq:Sp:=λvs H Q _=>∃(c:Int) (m:Nat),vs=[.int c,.int (m:Int)]/\m<=100/\∀(D:Addr)(ns:List Int)(H':Hp),H D=none->aC H H'->H' D=some (.lst (List.map V.int ns))->ns.length=m->Q (.ref D) H'
def mz:aK ["_law_cell","_law_many","_law_digits_here","_law_k"] ["_law_cell","_law_many"] (ax vd):=iI rfl rfl rfl rfl nofun
def BK (F:ig K "_law_digits" "_law_digits" vd f fd)(T:Txt mg)(GS:aH P w K mg base 1 "_law_stream" ["_law_cell","_law_many"] jS):bS P w K mg base fu 2 f fd ["_law_cell","_law_many"] wq:=by
 refine F.ok mz (λvs H Q E h=>?_) (λeB A outer s H vs Q E hr h=>?_)
 .obtain⟨c,m,rfl,_⟩:=h;rfl
 obtain⟨c,m,rfl,TK,q⟩:=h;refine⟨_,ak (aE (i:=2) mz.nd rfl (bJ rfl) (bI GS hr rfl (af (pv 0) (af (pv 1) aj))))
  (ak (cw cP rfl (iQ rfl T.FR (af (pv 1) aj)) (au (i:=3) mz.nd rfl (bJ rfl))
   (ak (yR (aI cz (aI dM (aM aP (pv 2) (pv 3) (λ_ _=>rfl)) ao) ao) (yT (pv 2) (pv 3) set_list))
   (ar (cN (bB wL (pv 0) ao (cf _))
    (ak (yR (aI cz (aI DV (pv 0) ao) ao) (yT (pv 2) (pv 3) set_list))
    (ar (aE (i:=0) mz.nd rfl (bJ rfl) (aI dM (aI DV (pv 0) ao) ao)))) bC))))
  (ar (bf (pv 2)))),?_⟩
 refine⟨_,rfl,_,rfl,c,m,rfl,TK,λD ns H1 T7 s1 hD bM _=>?_⟩;refine⟨_,rfl,(m:Int),rfl,∅,∅,?_⟩;rw [kK m];refine kj (n:=m) (λi σ H2=>∃(c2:Int)(ms:List Int)(k2:Option V),σ=[some (.int c2),some (.int (m:Int)),aG D,k2]/\H2=upd H1 D (.lst (ms.map V.int))/\ms.length=m) ⟨c,ns,none,rfl,?_,bM⟩ ?_ ?_
 .funext b
  by_cases h:b=D
  .rw [h,ab];exact hD
  rw [ai h]
 .rintro i σ H2 hi ⟨c2,ms,k2,rfl,rfl,hm⟩;have e0:(0:Int)+(i:Int)=((i:Nat):Int):=by omega
  rw [e0];have lt:i < ms.length:=by omega
  refine⟨_,rfl,_,rfl,D,_,_,_,rfl,rfl,aD.of ab,HU lt,_,_,rfl,rfl,⟨nofun,nofun⟩,_,_,rfl,rfl,(by show (0:Int) < 16;decide),_,rfl,_,rfl,D,_,_,i,rfl,rfl,ab,AU (by rw [av];exact lt),?_⟩;rw [i8,<-List.map_set];refine⟨_,rfl,_,_,rfl,rfl,_,rfl,?_⟩;refine dA (λ_=>?_) (λ_=>?_)
  .refine⟨_,rfl,_,_,rfl,rfl,_,_,rfl,rfl,(by show (0:Int) < 16;decide),_,rfl,_,rfl,D,_,_,i,rfl,rfl,ab,AU (by rw [av,qb];exact lt),?_⟩;refine⟨_,rfl,_,_,rfl,rfl,_,_,rfl,rfl,⟨nofun,nofun⟩,?_⟩;exact⟨_,_,_,rfl,by rw [i8,<-List.map_set],by rw [qb,qb];exact hm⟩
  exact⟨_,_,_,rfl,rfl,by rw [qb];exact hm⟩
 rintro σ H2 ⟨c2,ms,k2,rfl,rfl,hm⟩;exact⟨_,rfl,q D ms _ T7 (λb o hb=>by rw [ai (aq hb T7)];exact s1 _ _ hb) ab hm⟩
def Fh (ns:List Str)(lo hi:Option Int):∃tM:List Str,dq (ns.map V.str) lo hi=tM.map V.str/\(∀n∈tM,n∈ns)/\tM.length<=ns.length :=
 ⟨(ns.drop (HT.jw (ns.map V.str).length 0 lo)).take (HT.jw (ns.map V.str).length (ns.map V.str).length hi - HT.jw (ns.map V.str).length 0 lo),by unfold dq;rw [<-jL,<-nJ],λn hn=>pY (gC hn),by rw [cX,fj];omega⟩
def VA {zs:List Str}(h:zs.length=5) (n:Int):∃z∈zs,ik (zs.map V.str) (n % 5)=some (.str z):=by
 have l:(n % 5).toNat < zs.length:=by omega
 have e:n % 5=(((n % 5).toNat:Nat):Int):=by omega
 refine⟨zs[(n % 5).toNat],pW l,?_⟩;have t:ik (zs.map V.str) (((n % 5).toNat:Nat):Int)=some (.str zs[(n % 5).toNat]):=bE (by rw [aZ,dw l];rfl);rw [<-e] at t;exact t
def gK (ns ws:List Str) (a:Nat) (b8:List Str):Prop:=(∃l1 l2 n',ns[a+1]?=some n'/\b8=l1++n'::l2/\∀x∈l1++l2,x∈ws)\/(ns.length<=a+1/\b8≠[]/\∀x∈b8,x∈ws)
def Az (K:aY):Sp:=λvs H Q _=>∃(N W:Addr) (ns ws:List Str) (a:Nat) (dr:Int)(n:Str),vs=[.ref N,.ref W,.int (a:Int),.int dr]/\aD K H N (ns.map V.str)/\aD K H W (ws.map V.str)/\ws.length=5/\ns[a]?=some n/\ns.length<=1000/\(0<=dr/\dr < 4294967311) /\
 ∀(R p:Addr) (b8:List Str)(H':Hp),aC H H'->ba K H' R [.str n,.ref p]->ba K H' p (b8.map V.str)->b8.length<=4->gK ns ws a b8->Q (.ref R) H'
def u0:aK ["_law_names","_law_words","_law_at","_law_draw","_law_parts"] ["_law_names","_law_words","_law_at","_law_draw"] (ax yH):=iI rfl rfl rfl rfl nofun
def Ei (F:ig K "_law_first" "_law_first" yH f fd)(T:Txt mg):bS P w K mg base fu 1 f fd ["_law_names","_law_words","_law_at","_law_draw"] (Az K):=by
 refine F.ok u0 (λvs H Q E h=>?_) (λeB A outer s H vs Q E hr h=>?_)
 .obtain⟨N,W,ns,ws,a,dr,n,rfl,_⟩:=h;rfl
 obtain⟨N,W,ns,ws,a,dr,n,rfl,hN,hW,h4,ha,Qd,T_,q⟩:=h;have hu:=Nat.lt_of_succ_lt (gp hr);refine⟨_,ak (aE (i:=4) u0.nd rfl (bJ rfl) (bR cH (bL ["_law_size"] [(1,"_law_words"),(3,"_law_draw")] rfl (a9 (bA (af ao (af ao (af ao aj))))) (a_ rfl rfl) nofun rfl nofun
   (λ_ _ _ _ _=>au (i:=0) (show (["_law_size","_law_words","_law_draw"]:List Str).Nodup by decide +kernel) rfl (bJ rfl)) (λ_ _ _ _ _=>cb) (λ_ _ _ _ _=>aM (j3 K) (pv 1) (aI cz (aI dM (pv 2) (pv 0)) ao) (λ_ _=>rfl)))
   cU (bQ (aI cz (aI dM (pv 3) ao) ao))))
  (ak (cO (cN (bB mP (aI dC (pv 2) ao) (aV bD rfl T.len fw (af (pv 0) aj)) (cf _))
   (ar (cx (di fQ PySem.F.slot_list_insert PySem.F.type_list_insert BR (pv 4) (af (aI cz (aI dM (pv 3) ao) (aI dC (aV bD rfl T.len fw (af (pv 4) aj)) ao)) (af (aM aP (pv 0) (aI dC (pv 2) ao) (λ_ _=>rfl)) aj)))))
   (ar (cN (bB (BD hu) (pv 4) (bA aj) (cf _)) (ar (aE (i:=4) u0.nd rfl (bJ rfl) (bA (af (aM aP (pv 1) (aI cz (pv 3) ao) (λ_ _=>rfl)) aj)))) bC))))
  (ar (bf (bY (af (aM aP (pv 0) (pv 2) (λ_ _=>rfl)) (af (a8 eC rfl T.tup oW (af (pv 4) aj)) aj)))))),?_⟩
 refine⟨Q2,λL0 Me=>?_⟩;have s1:=ae Me (.lst [.int 1,.int 5,.int 25]);have e1:upd H L0 (.lst [.int 1,.int 5,.int 25]) L0=some (.lst [.int 1,.int 5,.int 25]):=ab;generalize upd H L0 (.lst [.int 1,.int 5,.int 25])=H1 at s1 e1;refine⟨L0,rfl,⟨_,aD.of e1⟩,λD hD=>bq (xs:=[.int 1,.int 5,.int 25]) (λi ys σ2 H2=>∃zs:List Str,ys=zs.map V.str/\zs.length=i/\(∀z∈zs,z∈ws)/\(∃y0,σ2=[y0,aG W,some (.int dr)])/\aC H1 H2/\H2 D=some (.lst ys))
  ⟨[],rfl,rfl,by simp,⟨none,rfl⟩,ae hD _,ab⟩ (λi ys σ2 H2 _ h=>?_) (λi x ys σ2 H2 ex h=>?_) (λys σ2 H2 h=>?_)⟩
 .obtain⟨_,_,_,_,_,sm,_⟩:=h;exact aD.of (sm _ _ e1)
 .obtain⟨zs,rfl,hz,IQ,⟨y0,rfl⟩,sm,hd⟩:=h;obtain⟨k,rfl,hk1,zH⟩:∃k:Int,x=.int k/\0 < k/\k < 1073741824:=by
   match i,ex with
   | 0,ex=>cases ex;exact⟨1,rfl,nofun,nofun⟩
   | 1,ex=>cases ex;exact⟨5,rfl,nofun,nofun⟩
   | 2,ex=>cases ex;exact⟨25,rfl,nofun,nofun⟩
  have li:i < 3:=(bx.mp ex).1;obtain⟨z,Hy,SQ⟩:=VA h4 (dr / k);refine goN (sD ?_);refine⟨_,rfl,_,rfl,_,rfl,_,_,rfl,rfl,⟨hk1,zH⟩,_,_,rfl,rfl,(by show (0:Int) < 5;decide),W,_,_,_,rfl,rfl,(s1.trans sm).seq hW,SQ,hd,bo (by rw [av];omega),zs++[z],by rw [aQ];rfl,by rw [bW,hz];rfl,?_,⟨_,rfl⟩,?_,ab⟩
  .intro z' EJ;rcases aX.mp EJ with h | h
   .exact IQ z' h
   rw [bH.mp h];exact Hy
  intro b o hb;rw [ai (λz=>by rw [z,hD] at hb;cases hb)];exact sm b o hb
 obtain⟨zs,rfl,hz,IQ,_,sm,hd⟩:=h;have s2:=s1.trans sm;refine⟨_,rfl,_,_,rfl,rfl,⟨nofun,nofun⟩,_,_,rfl,rfl,(by show (0:Int) < 3;decide),_,rfl,D,_,rfl,aD.of hd,λD2 ic=>?_⟩;obtain⟨ps,ep,Tv,pQ⟩:=Fh zs none (some (dr / 125 % 3));rw [ep];have WQ:zs.length=3:=hz;have fD2:H D2=none:=s2.free ic;have s3:=s2.trans (ae ic (.lst (ps.map V.str)));have e3:upd H2 D2 (.lst (ps.map V.str)) D2=some (.lst (ps.map V.str)):=ab;generalize upd H2 D2 (.lst (ps.map V.str))=H3 at s3 e3;have W5:∀z∈ps,z∈ws:=λz h=>IQ z (Tv z h);refine⟨λσ H4=>∃(D3:Addr) (b8:List Str),σ=[aG N,aG W,some (.int (a:Int)),some (.int dr),aG D3]/\aC H H4/\H4 D3=some (.lst (b8.map V.str))/\b8.length<=4/\gK ns ws a b8,?_,?_⟩
 .refine⟨_,rfl,_,_,rfl,rfl,_,rfl,N,_,rfl,.inl (s3.seq hN),_,_,rfl,rfl,_,rfl,?_⟩;refine dA (λc=>?_) (λc=>?_)
  .have c':=dF c;rw [av] at c';obtain⟨n',Ye⟩:∃n',ns[a+1]?=some n':=⟨ns[a+1]'∅,dw ∅⟩;have Mx:ik (ns.map V.str) ((a:Int)+1)=some (.str n'):=by
    have e:(a:Int)+1=((a+1:Nat):Int):=by omega
    rw [e];exact bE (by rw [aZ,Ye];rfl)
   obtain⟨ix,TQ⟩:∃ix:Nat,dr / 375 % ((ps.length:Int)+1)=(ix:Int):=⟨(dr / 375 % ((ps.length:Int)+1)).toNat,by
    have:=k8 (dr / 375) (show ((ps.length:Int)+1)≠0 by omega);omega⟩
   have hle:ix<=ps.length:=by
    have:=qj (dr / 375) (show (0:Int) < (ps.length:Int)+1 by omega);omega
   refine⟨_,rfl,.inl ⟨rfl,_,aD.of e3⟩,_,rfl,_,_,rfl,rfl,⟨nofun,nofun⟩,_,rfl,D2,_,rfl,.inl (aD.of e3),_,_,rfl,rfl,?_⟩;rw [av];refine⟨_,_,rfl,rfl,(by show (0:Int) < (ps.length:Int)+1;omega),?_⟩;refine⟨_,rfl,_,rfl,_,_,rfl,rfl,N,_,_,_,rfl,rfl,s3.seq hN,Mx,D2,_,ix,.str n',rfl,(by show [V.int (dr / 375 % ((ps.length:Int)+1)),V.str n']=_;rw [TQ]),e3,by rw [av];exact hle,by rw [av];omega,?_⟩;refine⟨D2,ps.take ix++n'::ps.drop ix,rfl,λb o hb=>?_,by rw [ab,aQ,br,nJ,jL],by rw [bW,bV,cX,fj];omega,.inl ⟨_,_,n',Ye,rfl,λx hx=>W5 x ?_⟩⟩
   .rw [ai (λz=>by rw [z,fD2] at hb;cases hb)];exact s3 b o hb
   rw [oT] at hx;exact hx
  have c':=of_decide_eq_false (kJ.mpr c);rw [av] at c';refine⟨_,rfl,sj,λL4 K6=>?_⟩;have s4:=s3.trans (ae K6 (.lst []));have e4:=ae K6 (.lst []) _ _ e3;have e5:upd H3 L4 (.lst []) L4=some (.lst []):=ab;generalize upd H3 L4 (.lst [])=H4 at s4 e4 e5;refine⟨D2,L4,_,rfl,rfl,aD.of e4,aD.of e5,_,rfl,?_⟩;refine dA (λc2=>?_) (λc2=>?_)
  .obtain⟨z,Hy,SQ⟩:=VA h4 dr;refine⟨_,rfl,_,rfl,_,_,rfl,rfl,(by show (0:Int) < 5;decide),W,_,_,_,rfl,rfl,s4.seq hW,SQ,CT,λD5 I0=>?_⟩;exact⟨D5,[z],rfl,s4.trans (ae I0 _),ab,by simp,.inr ⟨∅,by simp,λx hx=>by rw [bH.mp hx];exact Hy⟩⟩
  refine⟨D2,ps,rfl,s4,e4,∅,.inr ⟨∅,λh=>c2 (by rw [h];rfl),W5⟩⟩
 rintro σ H4 ⟨D3,b8,rfl,s4,e4,l4,fo⟩;have Pc:ik (ns.map V.str) (a:Int)=some (.str n):=bE (by rw [aZ,ha];rfl);refine⟨_,rfl,_,rfl,N,_,_,_,rfl,rfl,s4.seq hN,Pc,_,rfl,D3,_,rfl,.inl ⟨aD.of e4,λt1 LY=>⟨lV,λR hR=>?_⟩⟩⟩;exact q R t1 b8 _ (s4.trans ((ae LY _).trans (ae hR _))) (ba.of ab) ((ae hR _).tup (ba.of ab)) l4 fo
end
def j7 (ns ws:List Str) (a:Nat) (b8:List Str):Prop:=(∀x∈b8,x∈ns\/x∈ws)/\((∃x∈b8,x∈ws)\/((∀x∈b8,∃b,a < b/\ns[b]?=some x)/\b8.length<=3))
structure Made (ns ws:List Str)(aa:List aB):Prop where
 nd:ns.Nodup
 pos:0 < ns.length
 le:ns.length<=4
 dj:∀x∈ns,x∉ws
 first:∀(i:Nat)(n:Str),ns[i]?=some n->∃b8,aa[i]?=some (n,b8)/\gK ns ws i b8
 all:∀ru∈aa,∃a,ns[a]?=some ru.1/\(gK ns ws a ru.2\/j7 ns ws a ru.2)
def gK.mem {ns ws:List Str}{a:Nat}{ps:List Str}(h:gK ns ws a ps):∀x∈ps,x∈ns\/x∈ws:=by
 intro x hx;rcases h with ⟨l1,l2,n',e,rfl,h⟩ | ⟨_,_,h⟩
 .rcases aX.mp hx with h1 | h1
  .exact .inr (h x (aX.mpr (.inl h1)))
  rcases aW.mp h1 with h2 | h2
  .exact .inl (h2 ▸ cv e)
  exact .inr (h x (aX.mpr (.inr h2)))
 exact .inr (h x hx)
def gK.B5 {ns ws:List Str}{a:Nat}{ps:List Str}(h:gK ns ws a ps)(nw:∀x∈ps,x∉ws):(∀x∈ps,∃b,a < b/\ns[b]?=some x)/\ps.length<=3:=by
 rcases h with ⟨l1,l2,n',e,rfl,h⟩ | ⟨_,ne,h⟩
 .have e1:l1=[]:=List.eq_nil_iff_forall_not_mem.mpr λx hx=>nw x (aX.mpr (.inl hx)) (h x (aX.mpr (.inl hx)));have e2:l2=[]:=List.eq_nil_iff_forall_not_mem.mpr λx hx=>nw x (aX.mpr (.inr (cJ _ hx))) (h x (aX.mpr (.inr hx)));subst e1;subst e2;refine⟨λx hx=>?_,by simp⟩;have:x=n':=by simpa using hx
  exact⟨a+1,∅,this ▸ e⟩
 obtain⟨x,hx⟩:=List.exists_mem_of_ne_nil _ ne;exact absurd (h x hx) (nw x hx)
def j7.B5 {ns ws:List Str}{a:Nat}{ps:List Str}(h:j7 ns ws a ps)(nw:∀x∈ps,x∉ws):(∀x∈ps,∃b,a < b/\ns[b]?=some x)/\ps.length<=3:=by
 rcases h.2 with ⟨x,hx,hw⟩ | h
 .exact absurd hw (nw x hx)
 exact h
def r_ (ns:List Str)(x:Str):Nat:=ns.idxOf x
def ou {ns:List Str}(nd:ns.Nodup){a:Nat}{x:Str}(h:ns[a]?=some x):r_ ns x=a:=by
 obtain⟨l,e⟩:=bx.mp h;rw [<-e];exact List.Nodup.idxOf_getElem nd a l
def bb:Nat->Int
 | 0=>40
 | 1=>13
 | 2=>4
 | _=>1
def bN (ns:List Str)(x:Str):Int:=bb (r_ ns x)
def vN (n:Nat):1<=bb n:=by
 match n with
 | 0=>decide
 | 1=>decide
 | 2=>decide
 | n+3=>exact jI _
def Bd (a b:Nat)(h:a < b)(hb:b < 4):1+3 * bb b<=bb a:=by
 have:∀b:Nat,b < 4->∀a:Nat,a < b->1+3 * bb b<=bb a:=by decide
 exact this b hb a h
theorem qw {f:Str->Int}{c:Int}:∀(ps:List Str),(∀x∈ps,f x<=c)->(ps.map f).sum<=ps.length * c
 | [],_=>by simp
 | p::r,h=>by
  have h1:=qw r λx hx=>h x (cJ _ hx);have h2:=h p bG;rw [br,gw,bV];have:((r.length+1:Nat):Int) * c=(r.length:Int) * c+c:=by rw [Int.natCast_add,Int.add_mul];omega
  omega
def Made.head {ns ws:List Str}{aa:List aB}(M:Made ns ws aa){x:Str}:x∈hd aa↔x∈ns:=by
 unfold hd;rw [gJ];constructor
 .rintro(h | h)
  .cases h
  obtain⟨ru,jj,rfl⟩:=cM.mp h;obtain⟨a,ha,_⟩:=M.all ru jj;exact cv ha
 intro h;obtain⟨i,hi⟩:=jF h;obtain⟨ps,e,_⟩:=M.first i x hi;exact .inr (cM.mpr ⟨_,cv e,rfl⟩)
theorem Made.mem {ns ws:List Str}{aa:List aB}(M:Made ns ws aa){ru:aB}(h:ru∈aa):∀x∈ru.2,x∈ns\/x∈ws:=by
 obtain⟨a,_,h | h⟩:=M.all ru h
 .exact h.mem
 exact h.1
theorem Made.B5 {ns ws:List Str}{aa:List aB}(M:Made ns ws aa){ru:aB}(h:ru∈aa)(nw:∀x∈ru.2,x∉ws):∃a:Nat,ns[a]?=some ru.1/\(∀x∈ru.2,∃b,a < b/\ns[b]?=some x)/\ru.2.length<=3:=by
 obtain⟨a,ha,h | h⟩:=M.all ru h
 .exact⟨a,ha,h.B5 nw⟩
 exact⟨a,ha,h.B5 nw⟩
theorem Ac (cR:List Str):∀(ps bF:List Str)(x:Str),(x∈bF\/(x∈ps/\x∉cR))->x∈jO cR bF ps
 | [],bF,x,h=>by
  rcases h with h | ⟨h,_⟩
  .exact h
  cases h
 | p::r,bF,x,h=>by
  show x∈jO cR (addW cR bF p) r;apply Ac cR r;unfold addW;by_cases c:p∈cR
  .rw [az c];rcases h with h | ⟨h,n⟩
   .exact .inl h
   rcases aW.mp h with z | z
   .exact absurd (z ▸ c) n
   exact .inr ⟨z,n⟩
  rw [ay c];rcases h with h | ⟨h,n⟩
  .exact .inl ((i0 _ _ _).mpr (.inl h))
  rcases aW.mp h with z | z
  .exact .inl ((i0 _ _ _).mpr (.inr z))
  exact .inr ⟨z,n⟩
def Made.em {ns ws:List Str}{aa:List aB}(M:Made ns ws aa){x:Str}(h:Em aa x):x∈ns:=by
 cases h with
 | mk h _ =>
  obtain⟨a,ha,_⟩:=M.all _ h;exact cv ha
def Hs {b:Str->Bool}{zs:List Str}{i j:Nat}{x:Str}(h:Ht b zs j=true)(e:zs[i]?=some x)(n:i≠j):b x=true:=by
 cases hb:b x with
 | true=>rfl
 | false =>
  have li:=(bx.mp e).1;have m:((i:Nat):Int)∈Cj b zs zs.length:=by
   unfold Cj;exact cM.mpr ⟨i,fV.mpr ⟨lZ.mpr li,by rw [e];show (!(b x))=true;rw [hb];rfl⟩,rfl⟩
  unfold Ht at h;rcases Bool.or_eq_true_iff.mp h with h | h
  .rw [<-dF h] at m;cases m
  rw [<-dF h] at m;have:=bH.mp m;omega
def Made.good {ns ws:List Str}{aa:List aB}(M:Made ns ws aa):Good aa (λx=>8 - r_ ns x) (bN ns) where
 least g st se:=by
  have CV:∀x∈ws,∀ru∈aa,x∈ru.2->g x=some 0:=by
   intro x hx ru jj hm;have nn:x∉ns:=λh=>M.dj x h hx;refine dU.keep (J:=λg=>g x=some 0) (λg PR j h2 _=>?_) st ?_
   .show dW g PR.1 _ x=some 0;unfold dW;have:x≠PR.1:=λz=>by
     obtain⟨a,ha,_⟩:=M.all _ h2;exact nn (z ▸ cv ha)
    rw [ay this];exact j
   show xV aa x=some 0;unfold xV;rw [az (Ac _ _ _ _ (.inr ⟨qh.mpr ⟨ru,jj,hm⟩,λh=>nn (M.head.mp h)⟩))]
  have key:∀(k i:Nat)(n:Str),i+k+1=ns.length->ns[i]?=some n->∃m,g n=some m/\m<=(k:Int)+1:=by
   intro k
   induction k with
   | zero =>
    intro i n hi hn;obtain⟨ps,e,f⟩:=M.first i n hn;have hm:=cv e;rcases f with ⟨l1,l2,n',e',_⟩ | ⟨_,_,hw⟩
    .have:=(bx.mp e').1;omega
    have z:∀p∈ps,g p=some 0:=λp hp=>CV p (hw p hp) _ hm hp;have:=se _ hm;unfold cD at this;have a1:jB g (n,ps)=true:=gL.mpr λp hp=>by show (g p).isSome=true;rw [z p hp];rfl
    have s0:aO g (n,ps)=1:=by
     unfold aO;have:(ps.map λp=>(g p).getD 0)=ps.map λ_=>0:=uB λp hp=>by rw [z p hp];rfl
     show 1+(ps.map λp=>(g p).getD 0).sum=1;rw [this];have:∀l:List Str,(l.map λ_=>(0:Int)).sum=0:=λl=>by
      induction l with
      | nil=>rfl
      | cons a r ih=>rw [br,gw,ih];rfl
     rw [this];rfl
    rw [a1,s0,p8] at this;cases gn:g n with
    | none=>rw [show g (n,ps).1=none from gn] at this;cases this
    | some m =>
     rw [show g (n,ps).1=some m from gn] at this;refine⟨m,rfl,?_⟩;have:¬(1:Int) < m:=by
      simpa [M11.bl] using this
     omega
   | succ k ih =>
    intro i n hi hn;obtain⟨ps,e,f⟩:=M.first i n hn;have hm:=cv e;have ⟨l1,l2,n',e',ep,hw⟩:∃l1 l2 n',ns[i+1]?=some n'/\ps=l1++n'::l2/\∀x∈l1++l2,x∈ws:=by
     rcases f with f | ⟨l,_,_⟩
     .exact f
     omega
    subst ep;obtain⟨m',XG,lm'⟩:=ih (i+1) n' ∅ e';have z:∀p∈l1++l2,g p=some 0:=λp hp=>CV p (hw p hp) _ hm (by
     rcases aX.mp hp with h | h
     .exact aX.mpr (.inl h)
     exact aX.mpr (.inr (cJ _ h)))
    have:=se _ hm;unfold cD at this;have zs:∀l:List Str,(∀p∈l,g p=some 0)->(l.map λp=>(g p).getD 0).sum=0:=λl=>by
     induction l with
     | nil=>exact λ_=>rfl
     | cons a r ih =>
      intro h;rw [br,gw,ih λp hp=>h p (cJ _ hp),h a bG];rfl
    have a1:jB g (n,l1++n'::l2)=true:=gL.mpr λp hp=>by
     show (g p).isSome=true;rcases aX.mp hp with h | h
     .rw [z p (aX.mpr (.inl h))];rfl
     rcases aW.mp h with h | h
     .rw [h,XG];rfl
     rw [z p (aX.mpr (.inr h))];rfl
    have s0:aO g (n,l1++n'::l2)=1+m':=by
     unfold aO;show 1+((l1++n'::l2).map λp=>(g p).getD 0).sum=1+m';rw [aQ,br,ma,gw,zs l1 λp hp=>z p (aX.mpr (.inl hp)),zs l2 λp hp=>z p (aX.mpr (.inr hp)),XG];show 1+(0+(m'+0))=1+m';omega
    rw [a1,s0,p8] at this;cases gn:g n with
    | none=>rw [show g (n,l1++n'::l2).1=none from gn] at this;cases this
    | some m =>
     rw [show g (n,l1++n'::l2).1=some m from gn] at this;refine⟨m,rfl,?_⟩;have:¬(1+m':Int) < m:=by
      simpa [M11.bl] using this
     omega
  intro h hh;obtain⟨i,hi⟩:=jF (M.head.mp hh);have li:=(bx.mp hi).1;obtain⟨m,gm,lm⟩:=key (ns.length - 1 - i) i h ∅ hi;have:=M.le;exact⟨m,gm,∅⟩
 met lW ms e0 h0 mc:=by
  have key:∀(i:Nat)(n:Str),ns[i]?=some n->n∈ms:=by
   intro i
   induction i with
   | zero =>
    intro n hn;obtain⟨ps,e,_⟩:=M.first 0 n hn;rw [e0] at e;cases e;exact h0
   | succ i ih =>
    intro n hn;have li:=(bx.mp hn).1;obtain⟨n0,AX⟩:∃n0,ns[i]?=some n0:=⟨ns[i]'∅,dw ∅⟩;obtain⟨ps,e,f⟩:=M.first i n0 AX;rcases f with ⟨l1,l2,n',e',rfl,hw⟩ | ⟨l,_,_⟩
    .rw [hn] at e';cases e';exact mc _ (by rw [dB];exact cv e) (ih n0 AX) n (aX.mpr (.inr bG))
    omega
  intro h hh;obtain⟨i,hi⟩:=jF (M.head.mp hh);exact key i h hi
 loop bw he _ n k j hit ru z ek ez:=by
  obtain⟨rZ,z',e1,rfl,e2,hz,hl⟩:=hit;rw [ek] at e1;cases e1;rw [ez] at e2;cases e2;have nw:∀x∈ru.2,x∉ws:=by
   intro x hx hw;obtain⟨i,hi⟩:=jF hx;by_cases c:i=j
   .subst c;rw [ez] at hi;cases hi;exact M.dj _ (M.head.mp hz) hw
   have TU:=Hs hl hi c;have:=he.head x (dF TU);exact M.dj x (M.head.mp ((gJ _ _ _).mpr (.inr this))) hw
  obtain⟨a,ha,hb,_⟩:=M.B5 (cv ek) nw;obtain⟨b,lb,eb⟩:=hb z (cv ez);show 8 - r_ ns z < 8 - r_ ns ru.1;rw [ou M.nd ha,ou M.nd eb];have:=(bx.mp eb).1;have:=M.le;omega
 YW:=by
  refine⟨λz=>Int.le_trans nofun (vN _),λru jj hem=>?_⟩;have nw:∀x∈ru.2,x∉ws:=λx hx hw=>M.dj x (M.em (hem x hx)) hw;obtain⟨a,ha,hb,h3⟩:=M.B5 jj nw;have la:=(bx.mp ha).1;have l4:=M.le;show 1+(ru.2.map (bN ns)).sum<=bb (r_ ns ru.1);rw [ou M.nd ha];by_cases c:ru.2=[]
  .rw [c];have:=vN a;simp only [jm,List.sum_nil];omega
  obtain⟨x,hx⟩:=List.exists_mem_of_ne_nil _ c;obtain⟨b,lb,eb⟩:=hb x hx;have lb4:=(bx.mp eb).1;have s:=qw (f:=bN ns) (c:=bb (a+1)) ru.2 (λy hy=>by
   obtain⟨b',lb',Yo⟩:=hb y hy;have aae:=(bx.mp Yo).1;show bb (r_ ns y)<=_;rw [ou M.nd Yo];by_cases c2:b'=a+1
   .rw [c2];exact jI _
   have:=Bd (a+1) b' ∅ ∅;have:=vN b';omega)
  have nx:=Bd a (a+1) ∅ ∅;have bp:=vN (a+1);have:(ru.2.length:Int) * bb (a+1)<=3 * bb (a+1):=Int.mul_le_mul_of_nonneg_right ∅ ∅;omega
 most h hh:=by
  show bb _<=60;generalize r_ ns h=k
  match k with
  | 0=>decide
  | 1=>decide
  | 2=>decide
  | k+3=>show (1:Int)<=60;decide
section
def pP (h:Str) (zs:List Str):zC (.str h) (zs.map V.str)=true↔h∈zs:=by
 unfold zC;rw [nQ];constructor
 .rintro⟨x,h1,h2⟩;obtain⟨z,hz,rfl⟩:=cM.mp h1;have:z=h:=by simpa [xj] using h2
  rw [<-this];exact hz
 intro hm;exact⟨.str h,cM.mpr ⟨h,hm,rfl⟩,by simp [xj]⟩
def oB (zs:List Str):(zs.map V.str).all ie=true:=by
 rw [gL];intro x hx;obtain⟨z,_,rfl⟩:=cM.mp hx;rfl
def Vj (ns:List Str):∃tM:List Str,dq (ns.map V.str) none (some 3)=tM.map V.str/\(∀n∈tM,n∈ns)/\tM.length<=3:=by
 refine⟨ns.take (min 3 ns.length),?_,λn hn=>gC hn,by rw [cX];omega⟩;have e:HT.jw (ns.map V.str).length (ns.map V.str).length (some 3)=min 3 ns.length:=by
  have:=HT.ke (ns.map V.str).length (ns.map V.str).length 3;rw [av] at this;rw [av];exact this
 unfold dq;rw [e,HT.qF,List.drop_zero,Nat.sub_zero,<-nJ]
def De (K:aY):Sp:=λvs H Q _=>∃(N W D:Addr) (ns ws:List Str)(ms:List Int),vs=[.ref N,.ref W,.ref D]/\H N=some (.lst (ns.map V.str))/\H W=some (.lst (ws.map V.str))/\H D=some (.lst (ms.map V.int))/\ws.length=5/\0 < ns.length/\ns.length<=4/\ns.Nodup/\ms.length=8 /\
 ∀(R p:Addr) (a:Nat)(n:Str) (b8:List Str)(H':Hp),aC H H'->ba K H' R [.str n,.ref p]->ba K H' p (b8.map V.str)->ns[a]?=some n->b8.length<=8->j7 ns ws a b8->Q (.ref R) H'
def qC:aK ["_law_names","_law_words","_law_digits_here","_law_at","_law_pool_here","_law_parts"] ["_law_names","_law_words","_law_digits_here"] (ax Dt):=iI rfl rfl rfl rfl nofun
def Hf (F:ig K "_law_rule" "_law_rule" Dt f fd)(T:Txt mg):bS P w K mg base fu 1 f fd ["_law_names","_law_words","_law_digits_here"] (De K):=by
 refine F.ok qC (λvs H Q E h=>?_) (λeB A outer s H vs Q E hr h=>?_)
 .obtain⟨N,W,D,ns,ws,ms,rfl,_⟩:=h;rfl
 obtain⟨N,W,D,ns,ws,ms,rfl,hN,hW,hD,h4,AX,Ow,zF,h8,q⟩:=h;have hu:=Nat.lt_of_succ_lt (gp hr);refine⟨_,ak (cO (aE (i:=3) qC.nd rfl (Or.inr rfl) (aI cz (aM aP (pv 2) ao (λ_ _=>rfl)) (aV bD rfl T.len fw (af (pv 0) aj)))))
  (ak (aE (i:=4) qC.nd rfl (Or.inr rfl) (aI h_ (pv 0) (pv 1)))
  (ak (f_ (iy:=5) ["_law_digit"] [(4,"_law_pool_here")] qC.nd rfl rfl rfl (a9 (bR cH (pv 2) (bQ ao) (bQ (aI dC ao (aI cz (aM aP (pv 2) ao (λ_ _=>rfl)) ao))))) (a_ rfl rfl) nofun rfl nofun
   (λ_ _ _ _ _=>au (i:=0) (show (["_law_digit","_law_pool_here"]:List Str).Nodup by decide +kernel) rfl (bJ rfl)) (λ_ _ _ _ _=>cb) (λ_ _ _ _ _=>aM (j3 K) (pv 1) (aI cz (pv 0) (aV (uc K) rfl T.len fw (af (pv 1) aj))) (λ_ _=>rfl)))
  (ak (cO (cN (PW.pt (jd (bB (tK hu) (pv 5) (bA aj) (cf _)) (jc (iF (fk (aV (Cu rfl) rfl T.any PyProof.Rows.boot_any (af (bL ["_law_part"] [(1,"_law_words")] rfl (a9 (pv 5)) (a_ rfl rfl) nofun rfl nofun
    (λ_ _ _ _ _=>au (i:=0) (show (["_law_part","_law_words"]:List Str).Nodup by decide +kernel) rfl (bJ rfl)) (λ_ _ _ _ _=>cb) (λ_ _ _ _ _=>jf (yZ K) (pv 0) (pv 1) rfl)) aj)))))))
   (ar (f_ (iy:=5) ["_law_part"] [(0,"_law_names"),(3,"_law_at")] qC.nd rfl rfl rfl (a9 (bR cH (pv 5) cU (bQ ao))) (a_ rfl rfl) nofun rfl nofun
    (λ_ _ _ _ _=>au (i:=0) (show (["_law_part","_law_names","_law_at"]:List Str).Nodup by decide +kernel) rfl (bJ rfl))
    (λ_ _ _ _ _=>gh (bB mP (aI dC (pv 2) ao) (aV (uc K) rfl T.len fw (af (pv 1) aj)) (cf _)))
    (λ_ _ _ _ _=>aM (j3 K) (pv 1) (aV (ub rfl) rfl T.max PyProof.Rows.boot_max (af (aI dC (pv 2) ao) (af (DS K fQ PySem.F.slot_list_index PySem.F.type_list_index (BU K) (pv 1) (af (pv 0) aj)) aj))) (λ_ _=>rfl)))) bC))
  (ar (bf (bY (af (aM aP (pv 0) (pv 3) (λ_ _=>rfl)) (af (a8 eC rfl T.tup oW (af (pv 5) aj)) aj)))))))),?_⟩
 obtain⟨m0,UN⟩:∃m,ms[0]?=some m:=⟨ms[0]'∅,dw ∅⟩;obtain⟨m1,em1⟩:∃m,ms[1]?=some m:=⟨ms[1]'∅,dw ∅⟩;have lY:ik (ms.map V.int) 0=some (.int m0):=bE (j:=0) (by rw [aZ,UN];rfl);have Mx:ik (ms.map V.int) 1=some (.int m1):=bE (j:=1) (by rw [aZ,em1];rfl);have Oo:(0:Int) < (ns.length:Int):=by omega
 refine⟨λσ H1=>∃a:Nat,a < ns.length/\σ=[aG N,aG W,aG D,some (.int (a:Int)),none,none]/\H1=H,?_,?_⟩
 .refine⟨_,rfl,D,_,_,_,rfl,rfl,aD.of hD,lY,_,rfl,N,_,rfl,.inl (aD.of hN),?_⟩;rw [av];refine⟨_,_,rfl,rfl,Oo,(m0 % (ns.length:Int)).toNat,?_,?_,rfl⟩
  .have:=qj m0 Oo;have:=k8 m0 (show (ns.length:Int)≠0 by omega);omega
  have:=k8 m0 (show (ns.length:Int)≠0 by omega);have e:(((m0 % (ns.length:Int)).toNat:Nat):Int)=m0 % (ns.length:Int):=by omega
  rw [e];rfl
 rintro σ H1 ⟨a,la,rfl,rfl⟩;refine⟨_,rfl,_,rfl,N,W,_,_,rfl,rfl,hN,hW,i5 (bo (by rw [av,av];omega)),λPL hPL=>?_⟩;rw [<-aQ];have s1:=ae hPL (.lst ((ns++ws).map V.str));have e1:upd H1 PL (.lst ((ns++ws).map V.str)) PL=some (.lst ((ns++ws).map V.str)):=ab;generalize upd H1 PL (.lst ((ns++ws).map V.str))=H2 at s1 e1;refine⟨_,rfl,_,rfl,_,rfl,D,_,_,_,rfl,rfl,aD.of (s1 _ _ hD),Mx,_,_,rfl,rfl,(by show (0:Int) < 7;decide),_,_,rfl,rfl,_,rfl,D,_,rfl,aD.of (s1 _ _ hD),λD1 ON=>?_⟩;obtain⟨ds,ed,hdm,Qj⟩:=rB ms (some 2) (some (2+m1 % 7));rw [ed];have s2:=s1.trans (ae ON (.lst (ds.map V.int)));have e2:=ae ON (.lst (ds.map V.int)) _ _ e1;have e3:upd H2 D1 (.lst (ds.map V.int)) D1=some (.lst (ds.map V.int)):=ab;generalize upd H2 D1 (.lst (ds.map V.int))=H3 at s2 e2 e3;refine⟨D1,rfl,⟨_,aD.of e3⟩,λD2 ic=>bq (xs:=ds.map V.int) (λi ys σ2 H4=>∃zs:List Str,ys=zs.map V.str/\zs.length=i/\(∀z∈zs,z∈ns++ws)/\(∃y0,σ2=[y0,aG PL])/\aC H3 H4/\H4 D2=some (.lst ys))
  ⟨[],rfl,rfl,by simp,⟨none,rfl⟩,ae ic _,ab⟩ (λi ys σ2 H4 _ h=>?_) (λi x ys σ2 H4 ex h=>?_) (λys σ2 H4 h=>?_)⟩
 .obtain⟨_,_,_,_,_,sm,_⟩:=h;exact aD.of (sm _ _ e3)
 .obtain⟨zs,rfl,hz,IQ,⟨y0,rfl⟩,sm,hd⟩:=h;have li:=(bx.mp ex).1;rw [av] at li;rw [aZ] at ex;obtain⟨d,ed2,rfl⟩:=b_.mp ex;have pQ:(0:Int) < ((ns++ws).length:Int):=by rw [bW];omega
  have lt:(d % ((ns++ws).length:Int)).toNat < (ns++ws).length:=by
   have:=qj d pQ;have:=k8 d (show ((ns++ws).length:Int)≠0 by omega);omega
  have eN:(((d % ((ns++ws).length:Int)).toNat:Nat):Int)=d % ((ns++ws).length:Int):=by
   have:=k8 d (show ((ns++ws).length:Int)≠0 by omega);omega
  have Mw:ik ((ns++ws).map V.str) (d % ((ns++ws).length:Int))=some (.str (ns++ws)[(d % ((ns++ws).length:Int)).toNat]):=by
   have:=bE (xs:=(ns++ws).map V.str) (j:=(d % ((ns++ws).length:Int)).toNat) (v:=.str (ns++ws)[(d % ((ns++ws).length:Int)).toNat]) (by rw [aZ,dw lt];rfl);rw [eN] at this;exact this
  generalize P_:(ns++ws)[(d % ((ns++ws).length:Int)).toNat]=zz at Mw;have Hy:zz∈ns++ws:=by rw [<-P_];exact pW lt
  refine goN (sD ?_);refine⟨_,rfl,_,rfl,_,rfl,PL,_,rfl,.inl (aD.of (sm _ _ e2)),?_⟩;rw [show (List.map V.str (ns++ws)).length=(ns++ws).length from av _];refine⟨_,_,rfl,rfl,pQ,PL,_,_,_,rfl,rfl,aD.of (sm _ _ e2),Mw,hd,bo (by rw [av];omega),zs++[zz],by rw [aQ];rfl,by rw [bW,hz];rfl,?_,⟨_,rfl⟩,?_,ab⟩
  .intro z' EJ;rcases aX.mp EJ with h | h
   .exact IQ z' h
   rw [bH.mp h];exact Hy
  intro b o hb;rw [ai (λz=>by rw [z,ic] at hb;cases hb)];exact sm b o hb
 obtain⟨zs,rfl,hz,IQ,_,sm,hd⟩:=h;rw [av] at hz;have s4:=s2.trans sm;have e4:=sm _ _ e2;clear e1 e2 e3 ed;refine goN ?_;refine⟨λσ H5=>∃(D3:Addr) (b8:List Str),σ=[aG N,aG W,aG D,some (.int (a:Int)),aG PL,aG D3]/\aC H1 H5/\H5 D3=some (.lst (b8.map V.str))/\b8.length<=8/\j7 ns ws a b8,?_,?_⟩
 .have LW:zs.length<=8:=by omega
  refine⟨_,rfl,sj,λL4 K6=>?_⟩;have s5:=s4.trans (ae K6 (.lst []));have e5:=ae K6 (.lst []) _ _ hd;have e6:upd H4 L4 (.lst []) L4=some (.lst []):=ab;generalize upd H4 L4 (.lst [])=H5 at s5 e5 e6;refine⟨D2,L4,_,rfl,rfl,aD.of e5,aD.of e6,_,rfl,?_⟩;have g7:(∃x∈zs,x∈ws)\/zs=[]->j7 ns ws a zs:=λh=>⟨λx hx=>aX.mp (IQ x hx),h.elim .inl λe=>.inr ⟨λx hx=>(by rw [e] at hx;cases hx),(by rw [e];exact dD _)⟩⟩;refine dA (λc=>?_) (λc=>?_)
  .refine⟨_,rfl,D2,rfl,⟨_,aD.of e5⟩,λD6 Mg=>bq (xs:=zs.map V.str) (λi ys σ2 H6=>ys=((zs.take i).map λz=>zC (.str z) (ws.map V.str)).map V.bl/\(∃y0,σ2=[y0,aG W])/\aC H5 H6/\H6 D6=some (.lst ys))
    ⟨rfl,⟨none,rfl⟩,ae Mg _,ab⟩ (λi ys σ2 H6 _ h=>?_) (λi x ys σ2 H6 ex h=>?_) (λys σ2 H6 h=>?_)⟩
   .exact aD.of (h.2.2.1 _ _ e5)
   .obtain⟨rfl,⟨y0,rfl⟩,Dl,Qk⟩:=h;rw [aZ] at ex;obtain⟨z,ez,rfl⟩:=b_.mp ex;have li:=(bx.mp ez).1;refine goN (sD ?_);refine⟨_,rfl,_,rfl,W,_,rfl,.inl (aD.of (Dl _ _ (s5 _ _ hW))),rfl,oB ws,Qk,bo (by rw [av,av,cX];omega),?_,⟨_,rfl⟩,?_,ab⟩
    .rw [List.take_succ,ez,aQ,aQ];rfl
    intro b o hb;rw [ai (λz=>by rw [z,Mg] at hb;cases hb)];exact Dl b o hb
   obtain⟨rfl,_,Dl,Qk⟩:=h;rw [av,dB] at Qk;have s6:=s5.trans Dl;have e7:=Dl _ _ e5;refine⟨D6,_,rfl,aD.of Qk,_,rfl,?_⟩;refine dA (λc2=>?_) (λc2=>?_)
   .have nw:∀x∈zs,x∉ws:=λx hx hw=>by
     have:((zs.map λz=>zC (.str z) (ws.map V.str)).any id)=true:=nQ.mpr ⟨true,cM.mpr ⟨x,hx,(pP x ws).mpr hw⟩,rfl⟩;rw [this] at c2;cases c2
    obtain⟨ps,ep,Tv,pQ⟩:=Vj zs;refine⟨_,rfl,_,rfl,D2,_,rfl,aD.of e7,λD7 OM=>?_⟩;rw [ep];have s7:=s6.trans (ae OM (.lst (ps.map V.str)));have e8:upd H6 D7 (.lst (ps.map V.str)) D7=some (.lst (ps.map V.str)):=ab;generalize upd H6 D7 (.lst (ps.map V.str))=H7 at s7 e8;refine⟨D7,rfl,⟨_,aD.of e8⟩,λD8 Mf=>bq (xs:=ps.map V.str) (λi ys σ2 H8=>∃vs:List Str,ys=vs.map V.str/\vs.length<=i/\(∀x∈vs,∃b,a < b/\ns[b]?=some x)/\(∃y0,σ2=[y0,aG N,some (.int (a:Int))])/\aC H7 H8/\H8 D8=some (.lst ys))
     ⟨[],rfl,aL _,λx hx=>(by cases hx),⟨none,rfl⟩,ae Mf _,ab⟩ (λi ys σ2 H8 _ h=>?_) (λi x ys σ2 H8 ex h=>?_) (λys σ2 H8 h=>?_)⟩
    .obtain⟨_,_,_,_,_,sm,_⟩:=h;exact aD.of (sm _ _ e8)
    .obtain⟨vs,rfl,hv,N6,⟨y0,rfl⟩,CH,zJ⟩:=h;have li:=(bx.mp ex).1;rw [av] at li;rw [aZ] at ex;obtain⟨z,ez,rfl⟩:=b_.mp ex;have P_:=Tv z (cv ez);have hzn:z∈ns:=(aX.mp (IQ z P_)).resolve_right (nw z P_);obtain⟨j,hj⟩:=jF hzn;have lj:=(bx.mp hj).1;have fst:∀m,m < j->ns[m]?≠some z:=λm hm e=>by
      have h1:=ou zF hj;have h2:=ou zF e;omega
     refine goN ?_;have P0:aD K H8 N (ns.map V.str):=aD.of (CH _ _ (s7 _ _ hN));refine⟨_,rfl,_,_,rfl,rfl,_,rfl,N,_,rfl,.inl P0,_,_,rfl,rfl,_,rfl,?_⟩;refine dA (λc3=>?_) (λc3=>?_)
     .have c3':(a:Int)+1 < (ns.length:Int):=by
       have:=dF c3;rw [av] at this;exact this
      obtain⟨b,Qm,EZ,Md⟩:∃b:Nat,a < b/\b < ns.length/\((b:Nat):Int)=(if ((j:Nat):Int) > (a:Int)+1 then ((j:Nat):Int) else (a:Int)+1):=by
       by_cases c4:((j:Nat):Int) > (a:Int)+1
       .exact⟨j,∅,lj,by rw [az c4]⟩
       exact⟨a+1,∅,∅,by rw [ay c4];omega⟩
      have F2:ns[b]?=some ns[b]:=dw EZ;have atb:ik (ns.map V.str) (if ((j:Nat):Int) > (a:Int)+1 then ((j:Nat):Int) else (a:Int)+1)=some (.str ns[b]):=by
       rw [<-Md];exact bE (by rw [aZ,F2];rfl)
      refine⟨_,rfl,_,rfl,_,_,rfl,rfl,_,rfl,.inl ⟨rfl,_,P0⟩,_,rfl,N,ns,z,j,rfl,rfl,P0,hj,fst,_,_,rfl,N,_,_,_,rfl,rfl,P0,atb,zJ,bo (by rw [av];omega),vs++[ns[b]],by rw [aQ];rfl,by rw [bW];simp;omega,?_,⟨_,rfl⟩,?_,ab⟩
      .intro x hx;rcases aX.mp hx with h | h
       .exact N6 x h
       rw [bH.mp h];exact⟨b,Qm,F2⟩
      intro b o hb;rw [ai (λz=>by rw [z,Mf] at hb;cases hb)];exact CH b o hb
     exact⟨vs,rfl,∅,N6,⟨_,rfl⟩,CH,zJ⟩
    obtain⟨vs,rfl,hv,N6,_,CH,zJ⟩:=h;rw [av] at hv;exact⟨D8,vs,rfl,s7.trans CH,zJ,∅,λx hx=>.inl (by obtain⟨b,_,e⟩:=N6 x hx;exact cv e),.inr ⟨N6,∅⟩⟩
   have:((zs.map λz=>zC (.str z) (ws.map V.str)).any id)=true:=by simpa using c2
   obtain⟨b,hb,hbt⟩:=nQ.mp this;obtain⟨x,hx,rfl⟩:=cM.mp hb;exact⟨D2,zs,rfl,s6,e7,LW,g7 (.inl ⟨x,hx,(pP x ws).mp hbt⟩)⟩
  refine dA (λc2=>by cases c2) (λ_=>?_);have e0:zs=[]:=by
   cases zs with
   | nil=>rfl
   | cons z r=>exact absurd rfl c
  exact⟨D2,zs,rfl,s5,e5,LW,g7 (.inr e0)⟩
 rintro σ H5 ⟨D3,b8,rfl,s5,e5,l5,ro⟩;obtain⟨n,hn⟩:∃n,ns[a]?=some n:=⟨ns[a],dw la⟩;have Pc:ik (ns.map V.str) (a:Int)=some (.str n):=bE (by rw [aZ,hn];rfl);refine⟨_,rfl,_,rfl,N,_,_,_,rfl,rfl,aD.of (s5 _ _ hN),Pc,_,rfl,D3,_,rfl,.inl ⟨aD.of e5,λt1 LY=>⟨lV,λR hR=>?_⟩⟩⟩;exact q R t1 a n b8 _ (s5.trans ((ae LY _).trans (ae hR _))) (ba.of ab) ((ae hR _).tup (ba.of ab)) hn l5 ro
theorem Paired.app {α β:Type}{F:α->β->Prop}:∀{xs:List α}{ys:List β}{CF:List α}{MO:List β},Paired F xs ys->Paired F CF MO->Paired F (xs++CF) (ys++MO)
 | _,_,_,_,.nil,h=>h
 | _,_,_,_,.cons a b,h=>.cons a (Paired.app b h)
def EA {ns ws:List Str}{r1 r2:List aB}(nd:ns.Nodup)(h0:0 < ns.length)(h4:ns.length<=4)(dj:∀x∈ns,x∉ws)(l1:r1.length=ns.length)
  (f1:∀(j:Nat)(ru:aB),r1[j]?=some ru->ns[j]?=some ru.1/\gK ns ws j ru.2/\ru.2.length<=8)(f2:∀ru∈r2,∃a:Nat,ns[a]?=some ru.1/\j7 ns ws a ru.2/\ru.2.length<=8):Made ns ws (r1++r2) where
 nd:=nd
 pos:=h0
 le:=h4
 dj:=dj
 first i n hn:=by
  have li:=(bx.mp hn).1;have e:r1[i]?=some (r1[i]'∅):=dw ∅;obtain⟨a,b,_⟩:=f1 i _ e;rw [hn] at a;refine⟨(r1[i]'∅).2,?_,b⟩;rw [sN ∅,e]
  congr 1
  exact Prod.ext (by cases a;rfl) rfl
 all ru jj:=by
  rcases aX.mp jj with h | h
  .obtain⟨j,hj⟩:=jF h;obtain⟨a,b,_⟩:=f1 j ru hj;exact⟨j,a,.inl b⟩
  obtain⟨a,b,c,_⟩:=f2 ru h;exact⟨a,b,.inr c⟩
def Ar (K:aY):Sp:=λvs H Q _=>∃(c:Int)(N W C:Addr) (ns ws:List Str)(cs:List Int),vs=[.int c,.ref N,.ref W,.ref C]/\H N=some (.lst (ns.map V.str))/\H W=some (.lst (ws.map V.str))/\aD K H C (cs.map V.int)/\ws.length=5/\0 < ns.length/\ns.length<=4/\ns.Nodup/\(∀x∈ns,x∉ws)/\cs.length<=50 /\
 ∀(R:Addr)(rs:List Addr)(aa:List aB)(H':Hp),aC H H'->H' R=some (.lst (rs.map V.ref))->aS K H' rs aa->Made ns ws aa->aa.length<=ns.length+cs.length->(∀ru∈aa,ru.2.length<=8)->Q (.ref R) H'
def uY:aK ["_law_cell","_law_names","_law_words","_law_cells","_law_draws","_law_rules_here"] ["_law_cell","_law_names","_law_words","_law_cells"] (ax yB):=iI rfl rfl rfl rfl nofun
def D_ (F:ig K "_law_rules" "_law_rules" yB f fd)(T:Txt mg)(GS:aH P w K mg base 1 "_law_stream" ["_law_cell","_law_many"] jS)(GF:aH P w K mg base 1 "_law_first" ["_law_names","_law_words","_law_at","_law_draw"] (Az K))
  (GR:aH P w K mg base 1 "_law_rule" ["_law_names","_law_words","_law_digits_here"] (De K))(GD:aH P w K mg base 2 "_law_digits" ["_law_cell","_law_many"] wq):bS P w K mg base fu 3 f fd ["_law_cell","_law_names","_law_words","_law_cells"] (Ar K):=by
 refine F.ok uY (λvs H Q E h=>?_) (λeB A outer s H vs Q E hr h=>?_)
 .obtain⟨c,N,W,C,ns,ws,cs,rfl,_⟩:=h;rfl
 obtain⟨c,N,W,C,ns,ws,cs,rfl,hN,hW,hC,h4,AX,Ow,zF,hdj,hcs,q⟩:=h;refine⟨_,ak (aE (i:=4) uY.nd rfl (Or.inr rfl) (bI (GS.mono (by decide:1<=2)) hr rfl (af (pv 0) (af (aV bD rfl T.len fw (af (pv 1) aj)) aj))))
  (ak (f_ (iy:=5) ["_law_at"] [(1,"_law_names"),(2,"_law_words"),(4,"_law_draws")] uY.nd rfl rfl rfl (iQ rfl T.FR (af (aV bD rfl T.len fw (af (pv 1) aj)) aj)) (a_ rfl rfl) nofun rfl nofun
   (λ_ _ _ _ _=>au (i:=0) (show (["_law_at","_law_names","_law_words","_law_draws"]:List Str).Nodup by decide +kernel) rfl (bJ rfl)) (λ_ _ _ _ _=>cb)
   (λ_ _ _ _ _=>bI (GF.mono (by decide:1<=2)) hr rfl (af (pv 1) (af (pv 2) (af (pv 0) (af (aM (j3 K) (pv 3) (pv 0) (λ_ _=>rfl)) aj))))))
  (ar (bf (aI h_ (pv 5) (bL ["_law_one"] [(1,"_law_names"),(2,"_law_words")] rfl (a9 (pv 3)) (a_ rfl rfl) nofun rfl nofun
   (λ_ _ _ _ _=>au (i:=0) (show (["_law_one","_law_names","_law_words"]:List Str).Nodup by decide +kernel) rfl (bJ rfl)) (λ_ _ _ _ _=>cb)
   (λ_ _ _ _ _=>bI (GR.mono (by decide:1<=2)) hr rfl (af (pv 1) (af (pv 2) (af (bI GD hr rfl (af (pv 0) (af ao aj))) aj))))))))),?_⟩
 refine⟨_,rfl,_,rfl,N,_,rfl,.inl (aD.of hN),c,(ns.map V.str).length,rfl,by rw [av];omega,λD ds H1 fD s1 e1 l1 b1=>?_⟩;rw [av] at l1;refine⟨_,rfl,N,_,rfl,.inl (aD.of (s1 _ _ hN)),_,rfl,by rw [av];omega,by rw [av];omega,λD2 ic=>?_⟩;rw [av,kK];refine xB (λi ys σ2 H3=>∃(rs:List Addr)(aa:List aB),ys=rs.map V.ref/\aa.length=i/\aS K H3 rs aa/\(∀(j:Nat)(ru:aB),aa[j]?=some ru->ns[j]?=some ru.1/\gK ns ws j ru.2/\ru.2.length<=8)/\(∃y0,σ2=[y0,aG N,aG W,aG D])/\aC H1 H3/\H3 D2=some (.lst ys))
  ⟨[],[],rfl,rfl,.nil,λj ru e=>(by cases e),⟨none,rfl⟩,ae ic _,ab⟩ (λi ys σ2 H3 hi h=>?_) (λys σ2 H3 h=>?_)
 .obtain⟨rs,aa,rfl,hl,cK,hf,⟨y0,rfl⟩,sm,hd⟩:=h;have s3:=s1.trans sm;obtain⟨n,hn⟩:∃n,ns[i]?=some n:=⟨ns[i],dw hi⟩;obtain⟨dr,T_⟩:∃dr,ds[i]?=some dr:=⟨ds[i]'∅,dw ∅⟩;have atd:ik (ds.map V.int) (0+(i:Int))=some (.int dr):=by
   rw [Int.zero_add];exact bE (by rw [aZ,T_];rfl)
  refine goN (sD ?_);refine⟨_,rfl,_,rfl,_,rfl,_,rfl,_,rfl,D,_,_,_,rfl,rfl,aD.of (sm _ _ e1),atd,N,W,ns,ws,i,dr,n,(by show [V.ref N,V.ref W,V.int (0+(i:Int)),V.int dr]=_;rw [Int.zero_add]),aD.of (s3 _ _ hN),aD.of (s3 _ _ hW),h4,hn,∅,b1 dr (cv T_),λR p b8 H4 s4 v1 v2 l4 fo=>?_⟩;have xb:=s4 _ _ hd;have lrs:=bK cK;refine⟨xb,bo (by rw [av];omega),rs++[R],aa++[(n,b8)],by rw [aQ];rfl,by rw [bW,hl];rfl,fN (cK.keep λb xs z=>aR xb (s4.tup z)) ⟨p,aR xb v1,aR xb v2⟩,λj ru e=>?_,⟨_,rfl⟩,λb o hb=>?_,ab⟩
  .by_cases c2:j < aa.length
   .rw [sN c2] at e;exact hf j ru e
   rw [sO ∅] at e;have:j - aa.length=0:=by
    have:=(bx.mp e).1;simp at this;omega
   rw [this] at e;cases e;have:j=i:=by omega
   rw [this];exact⟨hn,fo,dI l4 nofun⟩
  rw [ai (λz=>by rw [z,ic] at hb;cases hb)];exact s4 _ _ (sm b o hb)
 obtain⟨rs,aa,rfl,hl,cK,hf,_,sm,hd⟩:=h;have s3:=s1.trans sm;have lrs:=bK cK;refine⟨_,rfl,_,rfl,C,rfl,⟨_,s3.seq hC⟩,λD4 Qs=>bq (xs:=cs.map V.int) (λi ys σ2 H5=>∃(mH:List Addr)(lD:List aB),ys=mH.map V.ref/\lD.length=i/\aS K H5 mH lD/\(∀ru∈lD,∃a:Nat,ns[a]?=some ru.1/\j7 ns ws a ru.2/\ru.2.length<=8)/\(∃y0,σ2=[y0,aG N,aG W])/\aC H3 H5/\H5 D4=some (.lst ys))
  ⟨[],[],rfl,rfl,.nil,λru h=>(by cases h),⟨none,rfl⟩,ae Qs _,ab⟩ (λi ys σ2 H5 _ h=>?_) (λi x ys σ2 H5 ex h=>?_) (λys σ2 H5 h=>?_)⟩
 .obtain⟨_,_,_,_,_,_,_,rX,_⟩:=h;exact(s3.trans rX).seq hC
 .obtain⟨mH,lD,rfl,oy,jC,FZ,⟨y0,rfl⟩,rX,HG⟩:=h;have li:=(bx.mp ex).1;rw [av] at li;rw [aZ] at ex;obtain⟨d,ed2,rfl⟩:=b_.mp ex;refine goN (sD ?_);refine⟨_,rfl,_,rfl,_,rfl,d,8,rfl,nofun,λD6 dg H6 f6 s6 e6 l6=>?_⟩;have s7:=(s3.trans rX).trans s6;refine⟨N,W,D6,ns,ws,dg,rfl,s7 _ _ hN,s7 _ _ hW,e6,h4,AX,Ow,zF,l6,λR p a n b8 H8 s8 v1 v2 hn l8 ro=>?_⟩;have zJ:=s8 _ _ (s6 _ _ HG);have Sr:=bK jC;refine⟨zJ,bo (by rw [av];omega),mH++[R],lD++[(n,b8)],by rw [aQ];rfl,by rw [bW,oy];rfl,fN (jC.keep λb xs z=>aR zJ (s8.tup (s6.tup z))) ⟨p,aR zJ v1,aR zJ v2⟩,λru jj=>?_,⟨_,rfl⟩,λb o hb=>?_,ab⟩
  .rcases aX.mp jj with h | h
   .exact FZ ru h
   rw [bH.mp h];exact⟨a,hn,ro,l8⟩
  rw [ai (λz=>by rw [z,Qs] at hb;cases hb)];exact s8 _ _ (s6 _ _ (rX b o hb))
 obtain⟨mH,lD,rfl,oy,jC,FZ,_,rX,HG⟩:=h;rw [av] at oy;have Sr:=bK jC;refine⟨D2,D4,_,_,rfl,rfl,rX _ _ hd,HG,fits (by rw [av,av];omega),λR hR=>?_⟩;rw [<-aQ];refine q R (rs++mH) (aa++lD) _ ((s3.trans rX).trans (ae hR _)) ab (aS.same (Paired.app (aS.same cK rX) jC) (ae hR _)) (EA zF AX Ow hdj hl hf FZ) (by rw [bW];omega) λru jj=>?_;rcases aX.mp jj with h | h
 .obtain⟨j,hj⟩:=jF h;exact(hf j ru hj).2.2
 obtain⟨_,_,_,l⟩:=FZ ru h;exact l
theorem o5 {F:V->V->Prop}:∀(xs:List V),(∀x∈xs,F x x)->Paired F xs xs
 | [],_=>.nil
 | x::r,h=>.cons (h x bG) (o5 r λy hy=>h y (cJ _ hy))
theorem tD {H:Hp}:∀{rs mH:List Addr}{aa:List aB},aS K H rs aa->aS K H mH aa->Paired (Jl K H 2) (rs.map V.ref) (mH.map V.ref)
 | _,_,_,.nil,.nil=>.nil
 | _,_,_,.cons ⟨p,a1,a2⟩ t,.cons ⟨p2,b1,b2⟩ t2=>.cons (.inr ⟨_,_,_,_,rfl,rfl,.inr ⟨a1,b1⟩,.cons (Jl.self (.inl rfl) 1) (.cons (.inr ⟨_,_,_,_,rfl,rfl,.inr ⟨a2,b2⟩,o5 _ λx hx=>Jl.self (yS _ x hx) 0⟩) .nil)⟩) (tD t t2)
def wm (K:aY):Sp:=λvs H Q _=>∃(R R2:Addr)(rs mH:List Addr)(aa:List aB),vs=[.ref R,.ref R2]/\aD K H R (rs.map V.ref)/\aD K H R2 (mH.map V.ref)/\aS K H rs aa/\aS K H mH aa/\(∀ru∈aa,ru.2.length<=8) /\
 ∀H',aC H H'->Q (.bl true) H'
def wy:aK ["_law_found","_law_due","_law_one"] ["_law_found","_law_due"] (ax u5):=iI rfl rfl rfl rfl nofun
def BE (F:ig K "_law_tuples" "_law_tuples" u5 f fd)(T:Txt mg):bS P w K mg base fu 1 f fd ["_law_found","_law_due"] (wm K):=by
 refine F.ok wy (λvs H Q E h=>?_) (λeB A outer s H vs Q E hr h=>?_)
 .obtain⟨R,R2,rs,mH,aa,rfl,_⟩:=h;rfl
 obtain⟨R,R2,rs,mH,aa,rfl,hR,xU,cK,jC,h8,q⟩:=h;have hu:=oR (Nat.add_le_add_left (by decide:3<=64) _) hr.units;refine⟨_,ak (cN (PW.pt (qI (iF (fk (aV vL rfl T.P9 uL (af (pv 0) (af (pL (v:=.ty "list") rfl T.lst fI rfl) aj)))))
   (lE (bB (yX 2 hu) (pv 0) (pv 1) (cf _))))) (ar (bf eV)) bC)
  (ak (cw cP rfl (a9 (pv 0)) (au (i:=2) wy.nd rfl (bJ rfl))
   (ar (cN (PW.pt (qI (iF (fk (aV j6 rfl T.P9 uL (af (pv 2) (af (pL (v:=.ty "tuple") rfl T.tup oW rfl) aj)))))
    (lE (iF (fk (aV j6 rfl T.P9 uL (af (aM b9 (pv 2) ao (λ_ _=>rfl)) (af (pL (v:=.ty "tuple") rfl T.tup oW rfl) aj)))))))) (ar (bf eV)) bC)))
  (ar (bf eV))),?_⟩
 refine⟨_,rfl,R,_,"list",true,rfl,hR,mS,true,rfl,?_⟩;refine gI ?_;refine⟨_,rfl,_,rfl,R,R2,_,_,rfl,rfl,hR,xU,tD cK jC,false,rfl,?_⟩;refine gI ?_;refine⟨_,rfl,R,rfl,⟨_,hR⟩,eZ (xs:=rs.map V.ref) (λi σ H2=>(∃y,σ=[aG R,aG R2,y])/\aC H H2) ⟨⟨none,rfl⟩,λ_ _ h=>h⟩ ?_ ?_ ?_⟩
 .rintro i σ H2 _ ⟨_,sm⟩;exact sm.seq hR
 .rintro i x σ H2 ex ⟨⟨y,rfl⟩,sm⟩;rw [aZ] at ex;obtain⟨r,er,rfl⟩:=b_.mp ex;obtain⟨ru,e1,p,v1,v2⟩:=cK.get er;have t1:=sm.tup v1;have t2:=sm.tup v2;have l8:=h8 ru (cv e1);refine goN ?_;refine⟨_,rfl,.ref r,"tuple","tuple",true,rfl,.tup t1,mS,true,rfl,?_⟩;refine gI ?_;refine⟨_,rfl,r,_,1,_,rfl,rfl,t1,rfl,.ref p,"tuple","tuple",true,rfl,.tup t2,mS,true,rfl,?_⟩;refine gI ?_;exact⟨⟨_,rfl⟩,sm⟩
 rintro σ H2 ⟨_,sm⟩;exact q H2 sm
end
end gu
namespace L2
open PySem PySem.Spec PyProof.Rows
section
variable {prog:Program}{w:World}{A:Around}{E:Value->Shared->Prop}{s:Shared}
end
open PySem.AutoSeq1 (wpAny_loadPart')
section
variable {prog:Program}{w:World}{A:Around}{E:Value->Shared->Prop}{s:Shared}
end
section
variable {prog:Program}{w:World}{A:Around}{E:Value->Shared->Prop}{s:Shared}
end
structure EZn (h:Heap)(e z TI TO i1 i2 l1 l2:Addr) (i:Nat):Prop where
 he:∃old,IsEnum h e z i old
 hz:∃f0 f1,Aa h z f0 f1 TI TO/\(f0=.none\/∃T:Nat,f0=rawInt T)
 hI:IsPair h TI (.ref i1) (.ref i2)
 hO:∃a b,IsPair h TO a b
 h1:h.IsListIter i1 l1 i
 h2:h.IsListIter i2 l2 i
def FE (K:aY)(a b:Addr):It :=
 ⟨λi H=>∃xs ys x y,aD K H a xs/\aD K H b ys/\xs[i]?=some x/\ys[i]?=some y,λi H x H'=>∃t y1 y2,x=.ref t/\H t=none/\H'=upd H t (.tup [y1,y2])/\(∀xs,aD K H a xs->xs[i]?=some y1)/\∀ys,aD K H b ys->ys[i]?=some y2,λi H=>∃xs ys,aD K H a xs/\aD K H b ys/\(xs.length<=i\/ys.length<=i)⟩
structure ZLn (h:Heap)(z TI TO i1 i2 l1 l2:Addr) (i:Nat):Prop where
 hz:IsZip h z TI TO .none
 hI:IsPair h TI (.ref i1) (.ref i2)
 hO:∃a b,IsPair h TO a b
 h1:h.IsListIter i1 l1 i
 h2:h.IsListIter i2 l2 i
def Bk {P:Program}{w:World}{K:aY}{elts:List Expr}{k:Nat}{tpos:Pos}(l1 l2 z TI TO i1 i2:Addr)(ap:ZipApart z TI TO i1 i2 l1 l2) :
  Turn P w K (.Tuple elts k tpos) (FE K l1 l2) [z,TI,TO,i1,i2] z (λi h=>ZLn h z TI TO i1 i2 l1 l2 i) where
 mem:=by simp
 obj:=λi h st b hb=>by
  obtain⟨hz,hI,⟨a,c,hO⟩,⟨o1,e1,c1,d1⟩,⟨o2,e2,c2,d2⟩⟩:=st;simp only [aW,kC,or_false] at hb;rcases hb with rfl | rfl | rfl | rfl | rfl
  .exact⟨_,hz,λv z=>by cases z⟩
  .exact⟨_,hI,λv z=>by cases z⟩
  .exact⟨_,hO,λv z=>by cases z⟩
  .exact⟨o1,e1,λv z=>by rw [d1] at z;cases z⟩
  exact⟨o2,e2,λv z=>by rw [d2] at z;cases z⟩
 keep:=λi h h' st k=>by
  obtain⟨hz,hI,⟨a,c,hO⟩,h1,h2⟩:=st;exact⟨k z (by simp) _ hz,k TI (by simp) _ hI,⟨a,c,k TO (by simp) _ hO⟩,h1.at λo q=>k i1 (by simp) o q,h2.at λo q=>k i2 (by simp) o q⟩
 item:=by
  intro X hP hw hK hc i ah s σ H E I hf st hg;subst hP hw hK;obtain⟨xs,ys,x,y,hx,hy,ex,ey⟩:=hg;obtain⟨is1,RJ,p1,_⟩:=I.list hx;obtain⟨is2,RI,p2,_⟩:=I.list hy;obtain⟨u,hu,ru⟩:=RJ.get ex;obtain⟨v,hv,rv⟩:=RI.get ey;obtain⟨hz,hI,⟨a,c,hO⟩,h1,h2⟩:=st;refine wpAny_pyNext_zip_item ap hz hI hO h1 h2 p1.isList p2.isList (x:=u) (y:=v) (by simpa using hu) (by simpa using hv) λh' EJ hO' h1' h2' hT hsz kk=>?_;refine⟨_,rfl,wpAny_letOwnedTupleGo_zip EJ λh3 SS sb=>?_⟩;have WC:∀b o,s.heap.get? b=some o->b≠s.heap.objs.size:=λb o q=>bT (bc q);have nz:s.heap.objs.size≠z:=(WC z _ hz).symm;have T2:IsPair h3 s.heap.objs.size u v:=(sb.2 _ nz).trans hT;have k3:∀b o,b∉[z,TI,TO,i1,i2]->s.heap.get? b=some o->h3.get? b=some o:=λb o nb q=>by
   simp only [aW,kC,or_false,not_or] at nb;exact(sb.2 b nb.1).trans (kk b o nb.1 nb.2.2.1 nb.2.2.2.1 nb.2.2.2.2 q)
  have kTI:h3.get? TI=s.heap.get? TI:=(sb.2 TI ap.TIz).trans ((kk TI _ ap.TIz ap.TITO ap.TIi1 ap.TIi2 hI).trans hI.symm);have I2:Inv X ah σ (upd H s.heap.objs.size (.tup [x,y])) { s with heap:=h3,toks:=s.toks }:=Inv.Gk I hf k3 T2 ru rv;refine⟨.ref s.heap.objs.size,_,I2,rfl,⟨_,x,y,rfl,I.bU.fresh (aL _),rfl,λzs hz=>by rw [I.iS hz hx];exact ex,λzs hz=>by rw [I.iS hz hy];exact ey⟩,⟨SS,kTI.trans hI,⟨_,_,(sb.2 TO ap.TOz).trans hO'⟩,h1'.at λo q=>(sb.2 i1 ap.i1z).trans q,h2'.at λo q=>(sb.2 i2 ap.i2z).trans q⟩,λb hb=>?_⟩;have AY:∃o,s.heap.get? b=some o:=by
   obtain⟨o1,e1,_⟩:=h1;obtain⟨o2,e2,_⟩:=h2;simp only [aW,kC,or_false] at hb;rcases hb with rfl | rfl | rfl | rfl | rfl
   .exact⟨_,hz⟩
   .exact⟨_,hI⟩
   .exact⟨_,hO⟩
   .exact⟨_,e1⟩
   exact⟨_,e2⟩
  obtain⟨o,q⟩:=AY;rw [ai (WC b o q)];exact(hf b hb).1
 done:=by
  intro X hP hw hK hc i ah s σ H E I hf st hg;subst hP hw hK;obtain⟨xs,ys,hx,hy,hl⟩:=hg;obtain⟨is1,RJ,p1,_⟩:=I.list hx;obtain⟨is2,RI,p2,_⟩:=I.list hy;have ll:=RJ.length;have ll2:=RI.length;obtain⟨hz,hI,⟨a,c,hO⟩,h1,h2⟩:=st;refine wpAny_pyNext_zip_end (I.ok.hd hc) ap hz hI hO h1 h2 p1.isList p2.isList (hl.imp (λhl=>by simp;omega) (λhl=>by simp;omega)) λh' kk=>⟨rfl,Inv.Gm (t':=s.toks) I hf λb o nb q=>?_⟩;simp only [aW,kC,or_false,not_or] at nb;exact kk b o nb.1 nb.2.2.1 nb.2.2.2.1 nb.2.2.2.2 q
 self:=λ_ _ _ _ _ st h=>wpAny_pyIter_zip st.hz h
def NY (K:aY)(ta:TA):TI:=λσ H R=>ta σ H λvs H1=>∃a b xs ys,vs=[.ref a,.ref b]/\aD K H1 a xs/\aD K H1 b ys/\R (FE K a b) H1
def AK {X:Cx}{elts:List Expr}{k:Nat}{tpos:Pos}{a b:Expr}{ta:TA}{p pos:Pos}(hg:Gl X "zip")(hm:X.mg "zip"=none)(ha:PA X [a,b] ta)(he:starEach [a,b] X.env=(false,eval a X.env)::starEach [b] X.env:=by rfl)(pQ:(backTo pos (starEach [b] X.env)).any (·.1)=false:=by rfl) :
  PI X (.Tuple elts k tpos) (.Call (.Name "zip" p) [a,b] [] pos) (NY X.K ta):=by
 intro ah s σ H R I h;refine me (ib I hg hm (by decide +kernel:bootBuiltins "zip"=some (.type "zip")) ?_ nofun nofun);refine v8 (cS (ha pos ah s σ H _ I h) λus s1 bh=>?_) he pQ;obtain⟨vs,H1,I1,r1,q1⟩:=bh;obtain⟨l1,l2,xs,ys,rfl,hx,hy,q⟩:=q1;obtain⟨u1,u2,rfl,rx,ry⟩:=vals2 r1;cases (show u1=Value.ref l1 from rx);cases (show u2=Value.ref l2 from ry);obtain⟨i1,v1,t1,z1⟩:=I1.list hx;obtain⟨i2,v2,t2,z2⟩:=I1.list hy;have t1:=t1.isList;have t2:=t2.isList;refine call_zip_2 t1 t2 λh' hz hI hO Xj Xi hsz hk=>?_;obtain⟨o1,g1,_,_⟩:=id t1;obtain⟨o2,g2,_,_⟩:=id t2;have ap:=zipApart_new (bc g1) (bc g2);have tz:=Bk (P:=X.prog) (w:=X.w) (K:=X.K) (elts:=elts) (k:=k) (tpos:=tpos) l1 l2 _ _ _ _ _ ap;refine tz.self X.A 0 { s1 with heap:=h' } _ _ ⟨hz,hI,⟨_,_,hO⟩,Xj,Xi⟩ ?_;refine⟨s1.heap.objs.size+4,_,_,_,H1,rfl,I1.kept (t':=s1.toks) λb o e=>hk b o e,tz,⟨hz,hI,⟨_,_,hO⟩,Xj,Xi⟩,λb hb=>?_,q⟩;simp only [aW,kC,or_false] at hb;rcases hb with rfl | rfl | rfl | rfl | rfl
 .exact I1.ky (kF _ _) (I1.bU.fresh (kF _ _))
 .exact I1.ky (kF _ _) (I1.bU.fresh (kF _ _))
 .exact I1.ky (kF _ _) (I1.bU.fresh (kF _ _))
 .exact I1.ky (aL _) (I1.bU.fresh (aL _))
 exact I1.ky (kF _ _) (I1.bU.fresh (kF _ _))
def xf {K:aY}{a b:Addr}{xs ys:List V}{g:TG}{tb:TS}{D:Ends}{σ:St}{H:Hp}(hxy:xs.length<=ys.length)(Pv:Nat->St->Hp->Prop)(h0:Pv 0 σ H)(hl:∀i σ H,i<=xs.length->Pv i σ H->aD K H a xs/\aD K H b ys)
  (hs:∀i x y σ H t,xs[i]?=some x->ys[i]?=some y->Pv i σ H->H t=none->g (.ref t) σ (upd H t (.tup [x,y])) λσ2 H2=>tb { D with nx:=Pv (i+1),ct:=Pv (i+1),bk:=D.nx } σ2 H2)(hd:∀σ H,Pv xs.length σ H->D.nx σ H) :
  ∃W:Nat->Nat->St->Hp->Prop,(∃m,W 0 m σ H)/\∀i m σ H,W i m σ H ->
   ((FE K a b).stop i H/\D.nx σ H)\/((FE K a b).go i H/\∃N:St->Hp->Prop,(∀σ' H',N σ' H'->∃m',m' < m/\W (i+1) m' σ' H')/\∀x H',(FE K a b).mi i H x H'->g x σ H' λσ2 H2=>tb { D with nx:=N,ct:=N,bk:=D.nx } σ2 H2):=by
 refine⟨λi m σ H=>m=xs.length - i/\i<=xs.length/\Pv i σ H,⟨xs.length,by simp,dD _,h0⟩,?_⟩;rintro i m σ H ⟨rfl,hi,p⟩;obtain⟨q1,q2⟩:=hl i σ H hi p;by_cases gT:i < xs.length
 .refine .inr ⟨⟨xs,ys,xs[i],ys[i]'∅,q1,q2,dw gT,dw ∅⟩,Pv (i+1),λσ' H' p'=>⟨xs.length - (i+1),∅,rfl,gT,p'⟩,λx H' y=>?_⟩;obtain⟨t,y1,y2,rfl,ht,rfl,e1,e2⟩:=y;exact hs i y1 y2 σ _ t (e1 xs q1) (e2 ys q2) p ht
 have e:i=xs.length:=by omega
 subst e;exact .inl ⟨⟨xs,ys,q1,q2,.inl (aL _)⟩,hd σ H p⟩
end L2
namespace gu
open PySem L2 M11
abbrev yE:Stmt:=top 59
section
def qW:List Str:=["","  ","#","# a : b"," #x | y"]
def EI:∀t∈qW,LK (wordsOf t)/\10∉sg t/\t.length<=7:=by
 intro t ht;simp only [qW,aW,kC,or_false] at ht;rcases ht with rfl | rfl | rfl | rfl | rfl
 .exact⟨.inl (dG nofun),nofun,nofun⟩
 .exact⟨.inl (dG nofun),nofun,nofun⟩
 .exact⟨.inr ⟨"#",[],dG nofun,nofun⟩,nofun,nofun⟩
 .exact⟨.inr ⟨"#",["a",":","b"],dG nofun,nofun⟩,nofun,nofun⟩
 exact⟨.inr ⟨"#x",["|","y"],dG nofun,nofun⟩,nofun,nofun⟩
def Av (K:aY):Sp:=λvs H Q _=>∃(L D:Addr) (ts:List Str)(ds:List Int)(aa dZ:List aB),vs=[.ref L,.ref D]/\aD K H L (ts.map V.str)/\aD K H D (ds.map V.int)/\ts.length<=ds.length/\ts≠[]/\ts.length<=100/\(ts.map (·.length)).sum<=20000 /\
 (∀t∈ts,10∉sg t)/\cq [] [] (ts.map wordsOf) aa dZ/\∀(z:Str)(H':Hp),aC H H'->z.length<=90000->cq [] [] ((Txt.split z ⟨#[10]⟩).map wordsOf) aa dZ->Q (.str z) H'
def ka:aK ["_law_rows_here","_law_draws","_law_told","_law_row","_law_draw","_law_blanks","_law_wide"] ["_law_rows_here","_law_draws"] (ax yE):=iI rfl rfl rfl rfl nofun
def Ec (F:ig K "_law_noisy" "_law_noisy" yE f fd)(T:Txt mg)(hz:mg "zip"=none):bS P w K mg base fu 1 f fd ["_law_rows_here","_law_draws"] (Av K):=by
 refine F.ok ka (λvs H Q E h=>?_) (λeB A outer s H vs Q E hr h=>?_)
 .obtain⟨L,D,ts,ds,aa,dZ,rfl,_⟩:=h;rfl
 obtain⟨L,D,ts,ds,aa,dZ,rfl,hL,hD,hle,pR,aas,EL,Qd,tok,q⟩:=h;refine⟨_,ak (aE (i:=2) ka.nd rfl (bJ rfl) (bA aj))
  (ak (cw cP rfl (AK rfl hz (af (pv 0) (af (pv 1) aj))) (eU rfl (aF (au (i:=3) ka.nd rfl (bJ rfl)) (aF (au (i:=4) ka.nd rfl (bJ rfl)) cy)))
   (ak (cO (cN (bB mQ (aI cz (pv 4) ao) ao (cf _)) (ar (cx (di fQ gM gN bX (pv 2) (af (aM aP (bA (af aU (af aU (af aU (af aU (af aU aj)))))) (aI cz (aI dM (pv 4) ao) ao) (λ_ _=>rfl)) aj)))) bC))
   (ak (aE (i:=5) ka.nd rfl (bJ rfl) (aI vj aU (aI dC ao (aI cz (aI dM (pv 4) ao) ao))))
   (ak (aE (i:=6) ka.nd rfl (bJ rfl) (aI dX (aI vj aU (aI cz (aI dM (pv 4) ao) ao)) (di ju pZ p5 mR (pv 5) (af (di ju x8 x9 qP (pv 3) (af aU aj)) aj))))
   (ar (cx (di fQ gM gN bX (pv 2) (af (aI dX (pv 6) (aI vj aU (aI cz (aI dM (pv 4) ao) ao))) aj))))))))
  (ar (bf (di ju pZ p5 mR aU (af (pv 2) aj))))),?_⟩
 refine⟨sj,λL2 OJ=>?_⟩;have s1:=ae OJ (.lst []);have e1:upd H L2 (.lst []) L2=some (.lst (List.map V.str [])):=ab;generalize upd H L2 (.lst [])=H1 at s1 e1;refine⟨_,rfl,_,rfl,L,D,_,_,rfl,s1.seq hL,s1.seq hD,xf (xs:=ts.map V.str) (ys:=ds.map V.int) (by rw [av,av];exact hle)
  (λi σ H2=>∃(us:List Str)(y3 y4 y5 y6:Option V),σ=[aG L,aG D,aG L2,y3,y4,y5,y6]/\aC H H2/\H2 L2=some (.lst (us.map V.str))/\NZ ((ts.take i).map wordsOf) (us.map wordsOf)/\(∀u∈us,10∉sg u)/\(us.map (·.length)).sum<=4 * ((ts.take i).map (·.length)).sum+16 * i/\us.length<=2 * i/\i<=us.length)
  ⟨[],none,none,none,none,rfl,s1,e1,.nil,by simp,by simp,by simp,by simp⟩ ?_ ?_ ?_⟩
 .rintro i σ H2 _ ⟨us,y3,y4,y5,y6,_,sm,_⟩;exact⟨sm.seq hL,sm.seq hD⟩
 .rintro i x y σ H2 tt ex ey ⟨us,y3,y4,y5,y6,rfl,sm,hU,nz,nl,su,lu,LS⟩ Tb;rw [aZ] at ex ey;obtain⟨t,et,rfl⟩:=b_.mp ex;obtain⟨d,ed,rfl⟩:=b_.mp ey;have hi:=(bx.mp et).1;have Ra:((ts.take (i+1)).map (·.length)).sum=((ts.take i).map (·.length)).sum+t.length:=by
   rw [cY,et,aQ,ma];simp
  have Zn:((ts.take (i+1)).map (·.length)).sum<=20000:=by
   refine dI ?_ EL;have e:(ts.map (·.length)).sum=((ts.take (i+1)).map (·.length)).sum+((ts.drop (i+1)).map (·.length)).sum:=by
    rw [<-ma,<-aQ,oT]
   omega
  refine⟨tt,_,rfl,ba.of ab,rfl,_,_,rfl,_,_,rfl,rfl,?_⟩;have s2:=ae Tb (.tup [.str t,.int d]);have n8:=sm.trans s2;have Qn:=s2 _ _ hU;generalize upd H2 tt (.tup [.str t,.int d])=H3 at s2 n8 Qn;refine⟨λσ H4=>∃(us:List Str),σ=[aG L,aG D,aG L2,some (.str t),some (.int d),y5,y6]/\aC H H4/\H4 L2=some (.lst (us.map V.str))/\NZ ((ts.take i).map wordsOf) (us.map wordsOf)/\(∀u∈us,10∉sg u)/\(us.map (·.length)).sum<=4 * ((ts.take i).map (·.length)).sum+16 * i+7/\us.length<=2 * i+1/\i<=us.length,?_,?_⟩
  .refine⟨_,rfl,_,_,rfl,rfl,(by show (0:Int) < 4;decide),rfl,_,rfl,?_⟩;refine dA (λ_=>?_) (λ_=>?_)
   .obtain⟨u,hu,hua⟩:=VA (zs:=qW) rfl (d / 4);obtain⟨i1,i2,i3⟩:=EI u hu;refine⟨_,rfl,.inl ⟨rfl,_,aD.of Qn⟩,Ze,λL3 hL3=>?_⟩;have s3:=ae hL3 (.lst (qW.map V.str));have e3:upd H3 L3 (.lst (qW.map V.str)) L3=some (.lst (qW.map V.str)):=ab;have hU3:=s3 _ _ Qn;have Br:=n8.trans s3;refine⟨_,rfl,_,_,rfl,rfl,⟨nofun,nofun⟩,_,_,rfl,rfl,(by show (0:Int) < 5;decide),L3,qW.map V.str,_,.str u,rfl,rfl,?_,hua,L2,us.map V.str,_,rfl,rfl,?_,bo (by rw [av];omega),?_⟩
    .exact aD.of e3
    .exact hU3
    refine⟨us++[u],rfl,λb o hb=>?_,by rw [aQ];exact ab,by rw [aQ];exact nz.Nj i1,λv hv=>?_,?_,by rw [bW];simp;omega,by rw [bW];omega⟩
    .rw [ai (aq hb OJ)];exact Br b o hb
    .rcases aX.mp hv with hv | hv
     .exact nl v hv
     rw [bH.mp hv];exact i2
    rw [aQ,ma];show _+(u.length+0)<=_;omega
   exact⟨us,rfl,n8,Qn,nz,nl,∅,∅,LS⟩
  rintro σ H4 ⟨us,rfl,FO,hU4,nz,nl,su,lu,LS⟩;have tl:t.length<=20000:=by omega
  obtain⟨n1,en1⟩:∃n1:Nat,1+d / 20 % 3=((n1+1:Nat):Int):=⟨(d / 20 % 3).toNat,∅⟩;obtain⟨n2,en2⟩:∃n2:Nat,d / 60 % 3=(n2:Int):=⟨(d / 60 % 3).toNat,∅⟩;obtain⟨n3,en3⟩:∃n3:Nat,d / 180 % 2=(n3:Int):=⟨(d / 180 % 2).toNat,∅⟩;have b1:n1+1<=3:=by omega
  have b2:n2<=3:=by omega
  have b3:n3<=3:=by omega
  have wl:=CY (k:=n1+1) (z:=t) b1;have wn:=Gg (k:=n1+1) (Qd t (cv et));have ss:=sX 32 t;refine⟨_,rfl,_,_,rfl,rfl,⟨nofun,nofun⟩,_,_,rfl,rfl,(by show (0:Int) < 3;decide),_,_,rfl,rfl,n1+1,rfl,congrArg V.int en1,b1,?_⟩;refine⟨_,rfl,_,_,rfl,rfl,⟨nofun,nofun⟩,_,_,rfl,rfl,(by show (0:Int) < 3;decide),n2,rfl,congrArg V.int en2,b2,_,rfl,rfl,_,rfl,rfl,t,⟨#[32]⟩,rfl,rfl,nofun,fits ∅,λL4 K6=>?_⟩;have s5:=ae K6 (.lst ((Txt.split t ⟨#[32]⟩).map V.str));have e5:upd H4 L4 (.lst ((Txt.split t ⟨#[32]⟩).map V.str)) L4=some (.lst ((Txt.split t ⟨#[32]⟩).map V.str)):=ab;have Ug:=s5 _ _ hU4;have rX:=FO.trans s5;generalize upd H4 L4 (.lst ((Txt.split t ⟨#[32]⟩).map V.str))=H5 at s5 e5 Ug rX;refine⟨jA (n1+1),L4,Txt.split t ⟨#[32]⟩,rfl,rfl,aD.of e5,?_,_,_,rfl,rfl,fits (by rw [ki];omega),?_⟩
  .rw [ki];have h3:(Txt.split t ⟨#[32]⟩).length * (n1+1)<=(Txt.split t ⟨#[32]⟩).length * 3:=Nat.mul_le_mul_left _ b1;omega
  have lw:(jA n2++Txt.join (jA (n1+1)) (Txt.split t ⟨#[32]⟩)).length=n2+(Txt.join (jA (n1+1)) (Txt.split t ⟨#[32]⟩)).length:=by
   rw [<-cA,df,bW,cA,cA,ki]
  refine⟨_,rfl,.inl ⟨rfl,_,aD.of Ug⟩,_,rfl,_,rfl,_,_,rfl,rfl,⟨nofun,nofun⟩,_,_,rfl,rfl,(by show (0:Int) < 2;decide),n3,rfl,congrArg V.int en3,b3,_,_,rfl,rfl,fits (by rw [lw,ki];omega),L2,us.map V.str,_,rfl,rfl,Ug,bo (by rw [av];omega),?_⟩;have ZJ:=GO n2 n1 n3 t;have lz:(jA n2++Txt.join (jA (n1+1)) (Txt.split t ⟨#[32]⟩)++jA n3).length=n2+(Txt.join (jA (n1+1)) (Txt.split t ⟨#[32]⟩)).length+n3:=by
   rw [<-cA,df,bW,cA,cA,lw,ki]
  refine⟨us++[jA n2++Txt.join (jA (n1+1)) (Txt.split t ⟨#[32]⟩)++jA n3],_,_,_,_,rfl,λb o hb=>?_,by rw [aQ];exact ab,?_,λv hv=>?_,?_,by rw [bW];simp;omega,by rw [bW];simp;omega⟩
  .rw [ai (aq hb OJ)];exact rX b o hb
  .rw [cY,et,aQ,aQ];show NZ (_++[wordsOf t]) (_++[wordsOf _]);rw [ZJ];exact nz.snoc _
  .rcases aX.mp hv with hv | hv
   .exact nl v hv
   rw [bH.mp hv,df,df,lB,lB];intro hx;rcases aX.mp hx with hx | hx
   .rcases aX.mp hx with hx | hx
    .have:=yc hx;omega
    exact wn hx
   have:=yc hx;omega
  rw [aQ,ma,Ra];show _+((jA n2++Txt.join (jA (n1+1)) (Txt.split t ⟨#[32]⟩)++jA n3).length+0)<=_;rw [lz];omega
 rintro σ H2 ⟨us,y3,y4,y5,y6,rfl,sm,hU,nz,nl,su,lu,LS⟩;simp only [av,dB] at nz su lu LS;have hus:us≠[]:=λe=>by
  rw [e] at LS;exact pR (uI.mp (Nat.le_zero.mp LS))
 have jl:(Txt.join ⟨#[10]⟩ us).length<=(us.map (·.length)).sum+us.length * 1:=by
  have h1:=qr ⟨#[10]⟩ us;have e2:Txt.join ⟨#[10]⟩ us=Str.join ⟨#[10]⟩ us:=kN _ _;rw [e2];exact h1
 refine⟨rfl,_,rfl,⟨#[10]⟩,L2,us,rfl,rfl,aD.of hU,?_,?_⟩
 .show (us.map (·.length)).sum+us.length * 1<=16777216;omega
 exact q _ H2 sm ∅ (by rw [yq hus nl];exact nz.text tok)
end
structure fR (p:Str):Prop where
 wd:Wd p
 ns:p≠("|":Str)
 ip:eE p=true
 le:p.length<=14
structure rQ (n:Str):Prop where
 pt:fR n
 ag:again n=false
 nh:(sg n).head?≠some 35
structure xJ (st:aB):Prop where
 way:st.1∈ml
 ne:st.2≠[]
 nc:st.2.head?≠some (":":Str)
 le:st.2.length<=8
 pt:∀p∈st.2,Wd p/\eE p=true/\p.length<=14
def fM (r0:List aB) (ws:List Str)(r:List aB)(h:Str):Prop :=
 (∃rest rws ps,ws=("|":Str)::rest/\r0.getLast?=some (h,ps)/\cZ [] [] rest=some rws/\r=r0++rws.map λp=>(h,p)) \/
 (∃rest rws,ws=h::(":":Str)::rest/\rQ h/\cZ [] [] rest=some rws/\r=r0++rws.map λp=>(h,p))
def fM.text {r0 r s0:List aB}{ws:List Str}{h:Str}{rows:List (List Str)}(l:fM r0 ws r h)(t:cq [] [] rows r0 s0)(l1:r0.length<=100000)(l2:s0.length<=100000):cq [] [] (rows++[ws]) r s0:=by
 rcases l with ⟨rest,rws,ps,rfl,e,er,rfl⟩ | ⟨rest,rws,rfl,hn,er,rfl⟩
 .exact t.snoc nofun (.more h ps rest rws e er) l1 l2
 exact t.snoc hn.nh (.head h rest rws hn.pt.ns hn.pt.ip hn.ag er) l1 l2
def fM.add {r0 r:List aB}{ws ps:List Str}{h:Str}(l:fM r0 ws r h)(hp:∀p∈ps,fR p):fM r0 (ws++("|":Str)::ps) (r++[(h,ps)]) h:=by
 have lX:∀p∈ps,p≠("|":Str)/\eE p=true:=λp h=>⟨(hp p h).ns,(hp p h).ip⟩;rcases l with ⟨rest,rws,qs,rfl,e,er,rfl⟩ | ⟨rest,rws,rfl,hn,er,rfl⟩
 .exact .inl ⟨rest++("|":Str)::ps,rws++[ps],qs,rfl,e,iO _ _ _ _ _ er lX,by rw [aQ,gA];rfl⟩
 exact .inr ⟨rest++("|":Str)::ps,rws++[ps],rfl,hn,iO _ _ _ _ _ er lX,by rw [aQ,gA];rfl⟩
def fM.Hq (r0:List aB){h:Str}{ps:List Str}(hn:rQ h)(hp:∀p∈ps,fR p):fM r0 (h::(":":Str)::ps) (r0++[(h,ps)]) h :=
 .inr ⟨ps,[ps],rfl,hn,tE λp h=>⟨(hp p h).ns,(hp p h).ip⟩,rfl⟩
def fM.Ho {r0:List aB}{h:Str}{ps qs:List Str}(e:r0.getLast?=some (h,qs))(hp:∀p∈ps,fR p):fM r0 (("|":Str)::ps) (r0++[(h,ps)]) h :=
 .inl ⟨ps,[ps],qs,rfl,e,tE λp h=>⟨(hp p h).ns,(hp p h).ip⟩,rfl⟩
structure HZ (aa dZ:List aB) (i k n:Nat) (ts:List Str):Prop where
 whole:cq [] [] (ts.map wordsOf) (aa.take i) (dZ.take k)
 nl:∀t∈ts,10∉sg t
 sum:(ts.map (·.length)).sum<=200 * n
 len:ts.length<=n
def pd (aa dZ:List aB) (i k:Nat)(h:Str) (ts:List Str):Prop:=∃init l r0,ts=init++[l]/\cq [] [] (init.map wordsOf) r0 (dZ.take k)/\r0.length<=100000/\fM r0 (wordsOf l) (aa.take i) h
def qN {a b:Str}(ha:10∉sg a)(hb:10∉sg b):10∉sg (a++b):=λh=>by
 rw [df] at h;exact(aX.mp h).elim ha hb
def vo {ps:List Str}(h:∀p∈ps,Wd p):10∉sg (Txt.join ⟨#[32]⟩ ps):=λhx=>by
 have e:Txt.join ⟨#[32]⟩ ps=Str.join ⟨#[32]⟩ ps:=kN _ _;rw [e] at hx;rcases qT hx with hx | ⟨t,ht,hx⟩
 .exact absurd hx nofun
 exact(h t ht).nl hx
def qR {ps:List Str}(h:∀p∈ps,p.length<=14):(Txt.join ⟨#[32]⟩ ps).length<=15 * ps.length:=by
 have e:Txt.join ⟨#[32]⟩ ps=Str.join ⟨#[32]⟩ ps:=kN _ _;have h1:=qr ⟨#[32]⟩ ps;have h2:(ps.map (·.length)).sum<=14 * ps.length:=by
  clear h1 e
  induction ps with
  | nil=>exact dD _
  | cons p r ih =>
   have:=ih λq hq=>h q (cJ _ hq);have hp:=h p bG;rw [br,gw,bV];omega
 have e1:((⟨#[32]⟩:Str)).length=1:=rfl;rw [e1] at h1;rw [e];omega
def HZ.put {aa dZ:List aB}{i k i' k' n:Nat}{ts:List Str}{t:Str}(r:HZ aa dZ i k n ts)(hw:cq [] [] ((ts++[t]).map wordsOf) (aa.take i') (dZ.take k'))(hn:10∉sg t)(hl:t.length<=200):HZ aa dZ i' k' (n+1) (ts++[t]) where
 whole:=hw
 nl:=λu hu=>by
  rcases aX.mp hu with h | h
  .exact r.nl u h
  rw [bH.mp h];exact hn
 sum:=by
  have:=r.sum;rw [aQ,ma];show _+(t.length+0)<=_;omega
 len:=by
  have:=r.len;rw [bW];show _+1<=_;omega
end gu
namespace L2
open PySem
def sI {X:Cx}(K:aY)(hK:X.K=K:=by rfl):eK X (.type "list") (λxs H Q=>Ft xs (λp ys=>aD K H p ys\/ba K H p ys) λys=>∀l,H l=none->Q (.ref l) (upd H l (.lst ys))):=by
 subst hK;exact fg
def Ew {X:Cx}(K:aY)(hK:X.K=K:=by rfl):FC X "str.join" (rJoin K):=by
 subst hK;exact mR
end L2
namespace gu
open PySem L2 M11
abbrev Du:Stmt:=top 58
section
def Pf (x:Addr)(r:List Addr):ik ((x::r).map V.ref) 0=some (.ref x):=bE (j:=0) rfl
def uN:∀z∈ml,(sg z≠[]/\32∉sg z/\10∉sg z)/\(sg z).head?≠some 35/\z.length<=14:=by decide +kernel
theorem zp:∀{zs:List Str},(∀z∈zs,z.length<=14)->(zs.map (·.length)).sum<=14 * zs.length
 | [],_=>dD _
 | p::r,h=>by
  have:=zp (zs:=r) λq hq=>h q (cJ _ hq);have hp:=h p bG;rw [br,gw,bV];omega
def yg (sv:aB):Str:=Txt.join ⟨#[32]⟩ (sv.1::sv.2)
def uO {sv:aB}(h:xJ sv):wordsOf (yg sv)=sv.1::sv.2/\10∉sg (yg sv)/\(yg sv).length<=200:=by
 have AV:=uN sv.1 h.way;have jO:∀z∈sv.1::sv.2,Wd z:=λz hz=>by
  rcases aW.mp hz with rfl | hz
  .exact⟨AV.1.1,AV.1.2.1,AV.1.2.2⟩
  exact(h.pt z hz).1
 have lj:=qR (ps:=sv.1::sv.2) λz hz=>by
  rcases aW.mp hz with rfl | hz
  .exact AV.2.2
  exact(h.pt z hz).2.2
 have l8:=h.le;rw [bV] at lj;exact⟨DE jO,vo jO,by show (Txt.join _ _).length<=200;omega⟩
theorem cq.MP {rows:List (List Str)}{r:List aB}(lr:r.length<=100000):∀{sts s:List aB},cq [] [] rows r s->(∀sv∈sts,xJ sv)->s.length+sts.length<=100000->cq [] [] (rows++(sts.map yg).map wordsOf) r (s++sts)
 | [],s,t,_,_=>by rw [jm,jm,fh,fh];exact t
 | sv::sts,s,t,h,l=>by
  have h1:=h sv bG;have AV:=uN sv.1 h1.way;rw [bV] at l;have t2:cq [] [] (rows++[sv.1::sv.2]) r (s++[sv]):=t.snoc AV.2.1 (.way sv.1 sv.2 h1.way h1.ne h1.nc λp hp=>(h1.pt p hp).2.1) lr ∅;have:=cq.MP lr (sts:=sts) t2 (λz hz=>h z (cJ _ hz)) (by rw [bW];show s.length+1+_<=_;omega);rw [gA,gA] at this;rw [br,br,(uO h1).1];exact this
def Df (K:aY):Sp:=λvs H Q _=>∃(R S D:Addr)(rs ss:List Addr)(aa dZ:List aB)(ds:List Int),vs=[.ref R,.ref S,.ref D]/\aD K H R (rs.map V.ref)/\aS K H rs aa/\aD K H S (ss.map V.ref)/\aS K H ss dZ/\aD K H D (ds.map V.int)/\aa.length<=ds.length /\
 aa≠[]/\aa.length<=50/\dZ.length<=10/\(∀ru∈aa,rQ ru.1/\ru.2.length<=8/\∀p∈ru.2,fR p)/\(∀st∈dZ,xJ st) /\
 ∀(L:Addr) (ts:List Str)(H':Hp),aC H H'->H' L=some (.lst (ts.map V.str))->ts≠[]->ts.length<=80->(ts.map (·.length)).sum<=20000->(∀t∈ts,10∉sg t)->cq [] [] (ts.map wordsOf) aa dZ->Q (.ref L) H'
def ja:aK ["_law_rules_here","_law_strengths","_law_draws","_law_rows_here","_law_head","_law_left","_law_rule_here","_law_draw","_law_words"] ["_law_rules_here","_law_strengths","_law_draws"] (ax Du):=iI rfl rfl rfl rfl nofun
def Hg (F:ig K "_law_rows" "_law_rows" Du f fd)(T:Txt mg)(hz:mg "zip"=none):bS P w K mg base fu 1 f fd ["_law_rules_here","_law_strengths","_law_draws"] (Df K):=by
 refine F.ok ja (λvs H Q E h=>?_) (λeB A outer s H vs Q E hr h=>?_)
 .obtain⟨R,S,D,rs,ss,aa,dZ,ds,rfl,_⟩:=h;rfl
 obtain⟨R,S,D,rs,ss,aa,dZ,ds,rfl,hR,cK,hS,tS,hD,hle,pR,h50,XF,jj,sf,q⟩:=h;have hu:=oR (kF _ 64) hr.units;refine⟨_,ak (aE (i:=3) ja.nd rfl (bJ rfl) (bA aj))
  (ak (aE (i:=4) ja.nd rfl (bJ rfl) J_)
  (ak (aE (i:=5) ja.nd rfl (bJ rfl) (a8 fg rfl T.lst fI (af (pv 1) aj)))
  (ak (cw cP rfl (AK rfl hz (af (pv 0) (af (pv 2) aj))) (eU rfl (aF (au (i:=6) ja.nd rfl (bJ rfl)) (aF (au (i:=7) ja.nd rfl (bJ rfl)) cy)))
   (ak (cO (cN (PW.pt (jd (bB mQ (aI cz (pv 7) ao) ao (cf _)) (jc (bB (tK hu) (pv 5) (bA aj) (cf _)))))
    (ak (cx (di fQ gM gN bX (pv 3) (af (di ju pZ p5 mR aU (af (aI h_ (bA (af (aM b9 (aM aP (pv 5) ao (λ_ _=>rfl)) ao (λ_ _=>rfl)) aj)) (a8 fg rfl T.lst fI (af (aM b9 (aM aP (pv 5) ao (λ_ _=>rfl)) ao (λ_ _=>rfl)) aj))) aj)) aj)))
    (ar (aE (i:=5) ja.nd rfl (bJ rfl) (bR cH (pv 5) (bQ ao) cU)))) bC))
   (ak (aE (i:=8) ja.nd rfl (bJ rfl) (di ju pZ p5 wU aU (af (aM b9 (pv 6) ao (λ_ _=>rfl)) aj)))
   (ak (cO (cN (PW.pt (qI (bB IA (aM b9 (pv 6) ao (λ_ _=>rfl)) (pv 4) (cf _)) (lE (bB mQ (aI cz (aI dM (pv 7) ao) ao) ao (cf _)))))
    (ar (cx (di fQ gM gN bX (pv 3) (af (aI dX (aI dX (aM b9 (pv 6) ao (λ_ _=>rfl)) aU) (pv 8)) aj))))
    (ar (cN (PW.pt (qI (bB mQ (aI cz (aI dM (pv 7) ao) ao) ao (cf _)) (lE (bB mQ (aI cz (pv 7) ao) ao (cf _)))))
     (ar (cx (di fQ gM gN bX (pv 3) (af (aI dX aU (pv 8)) aj))))
     (ar (yR (aI dX (aI dX (aM aP (pv 3) (qJ lh ao) (λ_ _=>rfl)) aU) (pv 8)) (yT (pv 3) (qJ lh ao) set_list)))))))
   (ar (aE (i:=4) ja.nd rfl (bJ rfl) (aM b9 (pv 6) ao (λ_ _=>rfl))))))))
  (ar (bf (aI h_ (pv 3) (bL ["_law_way","_law_words"] [] rfl (a9 (pv 5)) (a_ rfl rfl) nofun rfl nofun
   (λ_ _ _ _ _=>je (n:=2) K rfl (aF (au (i:=0) (show (["_law_way","_law_words"]:List Str).Nodup by decide +kernel) rfl (bJ rfl)) (aF (au (i:=1) (show (["_law_way","_law_words"]:List Str).Nodup by decide +kernel) rfl (bJ rfl)) cy))) (λ_ _ _ _ _=>cb)
   (λ_ _ _ _ _=>DS K ju pZ p5 (Ew K) aU (af (aI h_ (bA (af (pv 0) aj)) (a8 (sI K) rfl T.lst fI (af (pv 1) aj))) aj))))))))),?_⟩
 dsimp only [oH];refine⟨sj,λL Me=>⟨_,rfl,S,_,rfl,.inl ((ae Me _).seq hS),λLJ K5=>?_⟩⟩;have n0:L≠LJ:=λe=>by rw [<-e,ab] at K5;cases K5
 have s1:aC H (upd (upd H L (.lst [])) LJ (.lst (ss.map V.ref))):=(ae Me _).trans (ae K5 _);have e1:upd (upd H L (.lst [])) LJ (.lst (ss.map V.ref)) L=some (.lst (List.map V.str [])):=by rw [ai n0,ab];rfl
 have e2:upd (upd H L (.lst [])) LJ (.lst (ss.map V.ref)) LJ=some (.lst (ss.map V.ref)):=ab;generalize upd (upd H L (.lst [])) LJ (.lst (ss.map V.ref))=H1 at s1 e1 e2;have WG:=bK cK;have WE:=bK tS;refine⟨_,rfl,_,rfl,R,D,_,_,rfl,s1.seq hR,s1.seq hD,xf (xs:=rs.map V.ref) (ys:=ds.map V.int) (by rw [av,av,WG];exact hle)
  (λi σ H2=>∃(ts:List Str) (k:Nat)(hv:V)(Lf:Addr)(y6 y7 y8:Option V),σ=[aG R,aG S,aG D,aG L,some hv,aG Lf,y6,y7,y8]/\aC H H2/\L≠Lf/\H2 L=some (.lst (ts.map V.str))/\H2 Lf=some (.lst ((ss.drop k).map V.ref))/\k<=ss.length/\HZ aa dZ i k (i+k) ts /\
   ((i=0/\hv=.d5)\/∃j ru,i=j+1/\aa[j]?=some ru/\hv=.str ru.1/\pd aa dZ i k ru.1 ts))
  ⟨[],0,.d5,LJ,none,none,none,rfl,s1,n0,e1,e2,dD _,⟨.nil _ _,by simp,by simp,by simp⟩,.inl ⟨rfl,rfl⟩⟩ ?_ ?_ ?_⟩
 .rintro i σ H2 _ ⟨ts,k,hv,Lf,y6,y7,y8,_,sm,_⟩;exact⟨sm.seq hR,sm.seq hD⟩
 .rintro i x y σ H2 tt ex ey ⟨ts,k,hv,Lf,y6,y7,y8,rfl,sm,nL,eL,eF,hk,st,hh⟩ Tb;rw [aZ] at ex ey;obtain⟨r,er,rfl⟩:=b_.mp ex;obtain⟨d,ed,rfl⟩:=b_.mp ey;obtain⟨ru,Qy,p,v1,v2⟩:=cK.get er;have hi:=(bx.mp Qy).1;obtain⟨FX,pQ,EN⟩:=jj ru (cv Qy);have lst:=st.len;refine⟨tt,_,rfl,ba.of ab,rfl,_,_,rfl,_,_,rfl,rfl,?_⟩;have s2:=ae Tb (.tup [.ref r,.int d]);have n8:=sm.trans s2;have U_:=s2 _ _ eL;have Vb:=s2 _ _ eF;generalize upd H2 tt (.tup [.ref r,.int d])=H3 at s2 n8 U_ Vb;refine⟨λσ H4=>∃(ts:List Str) (k:Nat)(Lf:Addr),σ=[aG R,aG S,aG D,aG L,some hv,aG Lf,aG r,some (.int d),y8]/\aC H H4/\L≠Lf/\H4 L=some (.lst (ts.map V.str))/\H4 Lf=some (.lst ((ss.drop k).map V.ref))/\k<=ss.length/\HZ aa dZ i k (i+k) ts /\
   ((i=0/\hv=.d5)\/∃j ru,i=j+1/\aa[j]?=some ru/\hv=.str ru.1/\(d % 4≠1->pd aa dZ i k ru.1 ts)),?_,?_⟩
  .have Xk:(i=0/\hv=.d5)\/∃j ru,i=j+1/\aa[j]?=some ru/\hv=.str ru.1/\(d % 4≠1->pd aa dZ i k ru.1 ts):=hh.imp (λz=>z) λ⟨j,ru,a,b,c,e⟩=>⟨j,ru,a,b,c,λ_=>e⟩;refine⟨_,rfl,_,_,rfl,rfl,(by show (0:Int) < 4;decide),rfl,_,rfl,?_⟩;refine dA (λc1=>?_) (λc1=>gI ⟨ts,k,Lf,rfl,n8,nL,U_,Vb,hk,st,Xk⟩);have K0:d % 4=1:=by
    have:=dF c1;injection this
   refine⟨_,rfl,sj,λL5 hL5=>?_⟩;have s3:=ae hL5 (.lst []);have e5:upd H3 L5 (.lst []) L5=some (.lst []):=ab;have Br:=n8.trans s3;have QK:=s3 _ _ U_;have Mu:=s3 _ _ Vb;generalize upd H3 L5 (.lst [])=H4 at s3 e5 Br QK Mu;refine⟨Lf,L5,_,rfl,rfl,aD.of Mu,aD.of e5,_,rfl,?_⟩;refine dA (λc2=>?_) (λc2=>⟨ts,k,Lf,rfl,Br,nL,QK,Mu,hk,st,Xk⟩);obtain⟨a,rest,Mb⟩:∃a rest,ss.drop k=a::rest:=by
    cases Mb:ss.drop k with
    | nil=>rw [Mb] at c2;cases c2
    | cons a rest=>exact⟨a,rest,rfl⟩
   have hkl:k < ss.length:=by
    have:=congrArg List.length Mb;rw [fj,bV] at this;omega
   have eka:ss[k]?=some a:=by
    have:=congrArg (λl:List Addr=>l[0]?) Mb;simpa using this
   have Ol:ss.drop (k+1)=rest:=by
    have:=congrArg (List.drop 1) Mb;rw [List.drop_drop] at this;simpa [Nat.add_comm] using this
   obtain⟨sv,Mp,pa,w1,w2⟩:=tS.get eka;have AW:=sf sv (cv Mp);have AV:=uN sv.1 AW.way;rw [Mb] at Mu;have u1:=Br.tup w1;refine⟨_,rfl,.inl ⟨rfl,_,aD.of QK⟩,rfl,_,rfl,Lf,_,_,_,rfl,rfl,aD.of Mu,Pf _ _,a,_,_,_,rfl,rfl,u1,rfl,CT,λL6 Uo=>?_⟩;have s4:=ae Uo (.lst [.str sv.1]);have e6:upd H4 L6 (.lst [.str sv.1]) L6=some (.lst [.str sv.1]):=ab;have FO:=Br.trans s4;have YF:=s4 _ _ QK;have Va:=s4 _ _ Mu;generalize upd H4 L6 (.lst [.str sv.1])=H5 at s4 e6 FO YF Va;refine⟨_,rfl,Lf,_,_,_,rfl,rfl,aD.of Va,Pf _ _,a,_,_,_,rfl,rfl,FO.tup w1,rfl,pa,_,rfl,.inr (FO.tup w2),λL7 Um=>?_⟩;have s5:=ae Um (.lst (sv.2.map V.str));have e7:upd H5 L7 (.lst (sv.2.map V.str)) L7=some (.lst (sv.2.map V.str)):=ab;have rX:=FO.trans s5;have QJ:=s5 _ _ YF;have QL:=s5 _ _ Va;have YL:=s5 _ _ e6;generalize upd H5 L7 (.lst (sv.2.map V.str))=H6 at s5 e7 rX QJ QL YL;have l8:=AW.le;refine⟨L6,L7,_,_,rfl,rfl,YL,e7,fits (by rw [av];show 1+sv.2.length<=_;omega),λL8 Ul=>?_⟩;have s6:=ae Ul (.lst ([V.str sv.1]++sv.2.map V.str));have e8:upd H6 L8 (.lst ([V.str sv.1]++sv.2.map V.str)) L8=some (.lst ((sv.1::sv.2).map V.str)):=ab;have Dl:=rX.trans s6;have YE:=s6 _ _ QJ;have YH:=s6 _ _ QL;generalize upd H6 L8 (.lst ([V.str sv.1]++sv.2.map V.str))=H7 at s6 e8 Dl YE YH;have jO:∀z∈sv.1::sv.2,Wd z:=λz hz=>by
    rcases aW.mp hz with rfl | hz
    .exact⟨AV.1.1,AV.1.2.1,AV.1.2.2⟩
    exact(AW.pt z hz).1
   have Kn:∀z∈sv.1::sv.2,z.length<=14:=λz hz=>by
    rcases aW.mp hz with rfl | hz
    .exact AV.2.2
    exact(AW.pt z hz).2.2
   have lj:=qR Kn;rw [bV] at lj;have lsum:((sv.1::sv.2).map (·.length)).sum<=14 * (sv.1::sv.2).length:=by
    clear lj;revert Kn;generalize sv.1::sv.2=zs;intro Kn
    induction zs with
    | nil=>exact dD _
    | cons p r ih =>
     have:=ih λq hq=>Kn q (cJ _ hq);have hp:=Kn p bG;rw [br,gw,bV];omega
   refine⟨⟨#[32]⟩,L8,sv.1::sv.2,rfl,rfl,aD.of e8,?_,L,ts.map V.str,_,rfl,rfl,YE,bo (by rw [av];omega),?_⟩
   .show _+_ * 1<=16777216;rw [bV] at lsum ⊢;omega
   have U9:upd H7 L (.lst (ts.map V.str++[.str (Txt.join ⟨#[32]⟩ (sv.1::sv.2))])) L=some (.lst ((ts++[Txt.join ⟨#[32]⟩ (sv.1::sv.2)]).map V.str)):=by rw [ab,aQ];rfl
   have YG:upd H7 L (.lst (ts.map V.str++[.str (Txt.join ⟨#[32]⟩ (sv.1::sv.2))])) Lf=some (.lst ((a::rest).map V.ref)):=by rw [ai nL.symm];exact YH
   have Nk:aC H (upd H7 L (.lst (ts.map V.str++[.str (Txt.join ⟨#[32]⟩ (sv.1::sv.2))]))):=λb o hb=>by rw [ai (aq hb Me)];exact Dl b o hb
   generalize upd H7 L (.lst (ts.map V.str++[.str (Txt.join ⟨#[32]⟩ (sv.1::sv.2))]))=H8 at U9 YG Nk;refine⟨_,rfl,1,rfl,Lf,_,rfl,aD.of YG,λQU K4=>?_⟩;have s9:=ae K4 (.lst (dq ((a::rest).map V.ref) (some 1) none));have eF9:upd H8 QU (.lst (dq ((a::rest).map V.ref) (some 1) none)) QU=some (.lst (rest.map V.ref)):=by
    rw [ab]
    congr 2
    unfold dq;have x1:HT.jw ((a::rest).map V.ref).length 0 (some (1:Int))=1:=by
     unfold HT.jw;rw [av];simp
    have x2:HT.jw ((a::rest).map V.ref).length ((a::rest).map V.ref).length none=((a::rest).map V.ref).length:=by unfold HT.jw;rfl
    rw [x1,x2,br,List.drop_succ_cons,List.drop_zero,oV];simp
   have n9:L≠QU:=λe=>by rw [<-e,U9] at K4;cases K4
   refine⟨_,k+1,QU,rfl,Nk.trans s9,n9,s9 _ _ U9,by rw [Ol];exact eF9,∅,?_,?_⟩
   .have hl:=WE;have tk:dZ.take (k+1)=dZ.take k++[sv]:=by rw [cY,Mp];rfl
    have hw:cq [] [] ((ts++[Txt.join ⟨#[32]⟩ (sv.1::sv.2)]).map wordsOf) (aa.take i) (dZ.take (k+1)):=by
     rw [aQ,br,jm,DE jO,tk];refine st.whole.snoc AV.2.1 (.way sv.1 sv.2 AW.way AW.ne AW.nc λp hp=>(AW.pt p hp).2.1) ?_ ?_
     .rw [cX];omega
     rw [cX];omega
    have:=st.put hw (vo jO) ∅;exact this
   exact hh.imp (λz=>z) λ⟨j,ru,a,b,c,e⟩=>⟨j,ru,a,b,c,λz=>absurd K0 z⟩
  rintro σ H4 ⟨ts,k,Lf,rfl,FO,nL,eL,eF,hk,st,hh⟩;have u1:=FO.tup v1;have u2:=FO.tup v2;have lst:=st.len;have lsm:=st.sum;have jO:∀z∈ru.2,Wd z:=λz hz=>(EN z hz).wd;have lj:=qR λz hz=>(EN z hz).le;have ln:=FX.pt.le;have nj:=vo jO;have Rc:aa.take (i+1)=aa.take i++[(ru.1,ru.2)]:=by rw [cY,Qy];rfl
  have Sq:(aa.take i).length<=100000:=by rw [cX];omega
  have So:(dZ.take k).length<=100000:=by rw [cX];omega
  have l3:(ru.1++(" : ":Str)).length=ru.1.length+3:=by rw [<-cA,df,bW,cA];rfl
  have jb:(ru.2.map (·.length)).sum+ru.2.length * (⟨#[32]⟩:Str).length<=16777216:=by
   have h2:=zp λz hz=>(EN z hz).le;show _+_ * 1<=_;omega
  refine⟨rfl,_,rfl,r,_,_,_,rfl,rfl,u1,rfl,⟨#[32]⟩,p,ru.2,rfl,rfl,u2,jb,?_⟩;generalize hJ:Txt.join ⟨#[32]⟩ ru.2=J at lj nj;refine⟨λσ H5=>∃(ts:List Str),σ=[aG R,aG S,aG D,aG L,some hv,aG Lf,aG r,some (.int d),some (.str J)]/\aC H H5/\H5 L=some (.lst (ts.map V.str))/\H5 Lf=some (.lst ((ss.drop k).map V.ref))/\HZ aa dZ (i+1) k (i+k+1) ts/\pd aa dZ (i+1) k ru.1 ts,?_,?_⟩
  .have up:∀(us:List Str),aC H (upd H4 L (.lst (us.map V.str)))/\upd H4 L (.lst (us.map V.str)) L=some (.lst (us.map V.str))/\upd H4 L (.lst (us.map V.str)) Lf=some (.lst ((ss.drop k).map V.ref)):=λus =>
    ⟨λb o hb=>by rw [ai (aq hb Me)];exact FO b o hb,ab,by rw [ai nL.symm];exact eF⟩
   have Iz:∀(t:Str),fM (aa.take i) (wordsOf t) (aa.take (i+1)) ru.1->10∉sg t->t.length<=200->HZ aa dZ (i+1) k (i+k+1) (ts++[t])/\pd aa dZ (i+1) k ru.1 (ts++[t]):=λt hl hn Uu =>
    ⟨st.put (by rw [aQ];exact hl.text st.whole Sq So) hn Uu,⟨ts,t,_,rfl,st.whole,Sq,hl⟩⟩
   have OU:∃(us:List Str),[some (V.ref R),aG S,aG D,aG L,some hv,aG Lf,aG r,some (.int d),some (.str J)]=[aG R,aG S,aG D,aG L,some hv,aG Lf,aG r,some (.int d),some (.str J)]/\aC H (upd H4 L (.lst (ts.map V.str++[.str (ru.1++(" : ":Str)++J)])))/\upd H4 L (.lst (ts.map V.str++[.str (ru.1++(" : ":Str)++J)])) L=some (.lst (us.map V.str))/\upd H4 L (.lst (ts.map V.str++[.str (ru.1++(" : ":Str)++J)])) Lf=some (.lst ((ss.drop k).map V.ref))/\HZ aa dZ (i+1) k (i+k+1) us/\pd aa dZ (i+1) k ru.1 us:=by
    have e:ts.map V.str++[.str (ru.1++(" : ":Str)++J)]=(ts++[ru.1++(" : ":Str)++J]).map V.str:=by rw [aQ];rfl
    rw [e];obtain⟨a1,a2,a3⟩:=up (ts++[ru.1++(" : ":Str)++J]);obtain⟨b1,b2⟩:=Iz (ru.1++(" : ":Str)++J) (by rw [<-hJ,GU FX.pt.wd jO,Rc];exact .Hq _ FX EN) (qN (qN FX.pt.wd.nl nofun) nj) (by rw [<-cA,df,bW,cA,cA,l3];omega);exact⟨_,rfl,a1,a2,a3,b1,b2⟩
   have hsc:JG (.str ru.1) hv=true:=by
    rcases hh with ⟨_,e⟩ | ⟨j,rZ,_,_,e,_⟩ <;> rw [e] <;> rfl
   refine⟨_,rfl,r,_,_,_,rfl,rfl,u1,rfl,_,rfl,hsc,_,rfl,?_⟩;refine dA (λc=>?_) (λc=>?_)
   .refine⟨_,rfl,.inl ⟨rfl,_,aD.of eL⟩,_,rfl,r,_,_,_,rfl,rfl,u1,rfl,_,_,rfl,rfl,fits (by show ru.1.length+3<=1000000;omega),_,rfl,_,_,rfl,rfl,fits (by rw [l3];omega),L,ts.map V.str,_,rfl,rfl,eL,bo (by rw [av];omega),?_⟩;exact OU
   have QC:V.str ru.1=hv:=by
    have c':(!decide (V.str ru.1=hv))=false:=kJ.mpr c;rw [Bool.not_eq_false'] at c';exact dF c'
   obtain⟨j,rZ,ej,UI,UP,OA⟩:∃j rZ,i=j+1/\aa[j]?=some rZ/\hv=.str rZ.1/\(d % 4≠1->pd aa dZ i k rZ.1 ts):=by
    rcases hh with ⟨_,e⟩ | h
    .rw [e] at QC;cases QC
    exact h
   have eh:rZ.1=ru.1:=by
    rw [UP] at QC;injection QC with e;exact e.symm
   have fin2:∃(us:List Str),[some (V.ref R),aG S,aG D,aG L,some hv,aG Lf,aG r,some (.int d),some (.str J)]=[aG R,aG S,aG D,aG L,some hv,aG Lf,aG r,some (.int d),some (.str J)]/\aC H (upd H4 L (.lst (ts.map V.str++[.str (("| ":Str)++J)])))/\upd H4 L (.lst (ts.map V.str++[.str (("| ":Str)++J)])) L=some (.lst (us.map V.str))/\upd H4 L (.lst (ts.map V.str++[.str (("| ":Str)++J)])) Lf=some (.lst ((ss.drop k).map V.ref))/\HZ aa dZ (i+1) k (i+k+1) us/\pd aa dZ (i+1) k ru.1 us:=by
    have e:ts.map V.str++[.str (("| ":Str)++J)]=(ts++[("| ":Str)++J]).map V.str:=by rw [aQ];rfl
    rw [e];obtain⟨a1,a2,a3⟩:=up (ts++[("| ":Str)++J]);have gl:(aa.take i).getLast?=some (ru.1,rZ.2):=by
     rw [ej,cY,UI];simp [<-eh]
    obtain⟨b1,b2⟩:=Iz (("| ":Str)++J) (by rw [<-hJ,GQ jO,Rc];exact .Ho gl EN) (qN nofun nj) (by rw [<-cA,df,bW,cA,cA];show 2+_<=_;omega);exact⟨_,rfl,a1,a2,a3,b1,b2⟩
   refine⟨_,rfl,_,_,rfl,rfl,⟨nofun,nofun⟩,_,_,rfl,rfl,(by show (0:Int) < 3;decide),rfl,_,rfl,?_⟩;refine dA (λc2=>?_) (λc2=>?_)
   .refine⟨_,rfl,.inl ⟨rfl,_,aD.of eL⟩,_,rfl,r,_,_,_,rfl,rfl,u1,rfl,_,_,rfl,rfl,fits (by show ru.1.length+3<=1000000;omega),_,rfl,_,_,rfl,rfl,fits (by rw [l3];omega),L,ts.map V.str,_,rfl,rfl,eL,bo (by rw [av];omega),?_⟩;exact OU
   refine⟨_,rfl,_,_,rfl,rfl,⟨nofun,nofun⟩,_,_,rfl,rfl,(by show (0:Int) < 3;decide),rfl,_,rfl,?_⟩;refine dA (λc3=>?_) (λc3=>?_)
   .refine⟨_,rfl,.inl ⟨rfl,_,aD.of eL⟩,_,rfl,_,_,rfl,rfl,fits (by show 2+_<=1000000;omega),L,ts.map V.str,_,rfl,rfl,eL,bo (by rw [av];omega),?_⟩;exact fin2
   refine⟨_,rfl,_,_,rfl,rfl,(by show (0:Int) < 4;decide),rfl,_,rfl,?_⟩;refine dA (λc4=>?_) (λc4=>?_)
   .refine⟨_,rfl,.inl ⟨rfl,_,aD.of eL⟩,_,rfl,_,_,rfl,rfl,fits (by show 2+_<=1000000;omega),L,ts.map V.str,_,rfl,rfl,eL,bo (by rw [av];omega),?_⟩;exact fin2
   have K0:d % 4≠1:=λe=>c4 (fO (congrArg V.int e));obtain⟨init,l,r0,rfl,t0,l0,lr⟩:=OA K0;rw [eh] at lr;have aac:((init++[l]).map (·.length)).sum=(init.map (·.length)).sum+l.length:=by
    rw [aQ,ma];rfl
   have l4:(l++(" | ":Str)).length=l.length+3:=by rw [<-cA,df,bW,cA];rfl
   have l5:(l++(" | ":Str)++J).length=l.length+3+J.length:=by rw [<-cA,df,bW,cA,cA,l4]
   have TQ:L2.r_ ((init++[l]).map V.str).length (-1)=some init.length:=by
    have hl:((init++[l]).map V.str).length=init.length+1:=by simp
    unfold L2.r_;rw [hl,ay nofun,az ∅]
    congr 1
    omega
   refine⟨_,rfl,1,rfl,L,_,_,.str l,rfl,rfl,aD.of eL,by rw [aQ];exact nr _ _,_,_,rfl,rfl,fits (by show l.length+3<=1000000;omega),_,rfl,_,_,rfl,rfl,fits (by rw [l4];omega),_,rfl,1,rfl,L,(init++[l]).map V.str,-1,init.length,rfl,rfl,eL,TQ,?_⟩;have es:((init++[l]).map V.str).set init.length (.str (l++(" | ":Str)++J))=(init++[l++(" | ":Str)++J]).map V.str:=by
    rw [aQ,aQ,List.set_append_right _ _ (by rw [av];exact aL _)];simp
   rw [es];obtain⟨a1,a2,a3⟩:=up (init++[l++(" | ":Str)++J]);have WH:fM r0 (wordsOf (l++(" | ":Str)++J)) (aa.take (i+1)) ru.1:=by
    rw [<-hJ,JT jO,Rc];exact lr.add EN
   refine⟨_,rfl,a1,a2,a3,⟨?_,λt ht=>?_,?_,?_⟩,⟨init,_,r0,rfl,t0,l0,WH⟩⟩
   .rw [aQ];exact WH.text t0 l0 So
   .rcases aX.mp ht with ht | ht
    .exact st.nl t (mf _ ht)
    rw [bH.mp ht];exact qN (qN (st.nl l (fX _ (bH.mpr rfl))) nofun) nj
   .rw [aQ,ma];show _+((l++(" | ":Str)++J).length+0)<=_;rw [l5];omega
   rw [bW] at lst ⊢;show _+1<=_;have:init.length+1<=i+k:=lst;omega
  rintro σ H5 ⟨uP,rfl,rX,QJ,QL,yp,ZL⟩;refine⟨_,rfl,r,_,_,_,rfl,rfl,rX.tup v1,rfl,?_⟩;exact⟨uP,k,.str ru.1,Lf,_,_,_,rfl,rX,nL,QJ,QL,hk,by rw [show i+1+k=i+k+1 by omega];exact yp,.inr ⟨i,ru,rfl,Qy,rfl,ZL⟩⟩
 rintro σ H2 ⟨ts,k,hv,Lf,y6,y7,y8,rfl,sm,nL,eL,eF,hk,st,hh⟩;have ei:(rs.map V.ref).length=aa.length:=by rw [av,WG]
 rw [ei] at st hh;have wh:=st.whole;rw [dB] at wh;have lst:=st.len;have lsm:=st.sum;refine⟨_,rfl,_,rfl,Lf,rfl,⟨_,aD.of eF⟩,λD2 ic=>bq (xs:=(ss.drop k).map V.ref) (λj ys σ2 H5=>ys=(((dZ.drop k).take j).map yg).map V.str/\(∃y0 y1,σ2=[y0,y1])/\aC H2 H5/\H5 D2=some (.lst ys))
  ⟨rfl,⟨none,none,rfl⟩,ae ic _,ab⟩ (λj ys σ2 H5 _ h=>h.2.2.1.seq (aD.of eF)) (λj x ys σ2 H5 ex h=>?_) (λys σ2 H5 h=>?_)⟩
 .obtain⟨rfl,⟨y0,y1,rfl⟩,s5,e5⟩:=h;rw [aZ] at ex;obtain⟨a,ea,rfl⟩:=b_.mp ex;rw [List.getElem?_drop] at ea;obtain⟨sv,Mp,pa,w1,w2⟩:=tS.get ea;have AW:=sf sv (cv Mp);have l8:=AW.le;have hjl:j < (dZ.drop k).length:=by
   have:=(bx.mp Mp).1;rw [fj];omega
  have ld:(dZ.drop k).length<=10:=by rw [fj];omega
  have rX:=sm.trans s5;refine⟨a,_,rfl,rX.tup w1,rfl,_,_,rfl,_,_,rfl,rfl,?_⟩;refine sD ?_;refine⟨rfl,_,rfl,CT,λL6 Uo=>?_⟩;have s6:=ae Uo (.lst [.str sv.1]);have e6:upd H5 L6 (.lst [.str sv.1]) L6=some (.lst [.str sv.1]):=ab;have Dl:=rX.trans s6;have t6:=s5.trans s6;have d6:=s6 _ _ e5;generalize upd H5 L6 (.lst [.str sv.1])=H6 at s6 e6 Dl t6 d6;refine⟨_,rfl,pa,_,rfl,.inr (Dl.tup w2),λL7 Um=>?_⟩;have s7:=ae Um (.lst (sv.2.map V.str));have e7:upd H6 L7 (.lst (sv.2.map V.str)) L7=some (.lst (sv.2.map V.str)):=ab;have t7:=t6.trans s7;have d7:=s7 _ _ d6;have YK:=s7 _ _ e6;generalize upd H6 L7 (.lst (sv.2.map V.str))=H7 at s7 e7 t7 d7 YK;refine⟨L6,L7,_,_,rfl,rfl,YK,e7,fits (by rw [av];show 1+sv.2.length<=_;omega),λL8 Ul=>?_⟩;have s8:=ae Ul (.lst ([V.str sv.1]++sv.2.map V.str));have e8:upd H7 L8 (.lst ([V.str sv.1]++sv.2.map V.str)) L8=some (.lst ((sv.1::sv.2).map V.str)):=ab;have t8:=t7.trans s8;have d8:=s8 _ _ d7;generalize upd H7 L8 (.lst ([V.str sv.1]++sv.2.map V.str))=H8 at s8 e8 t8 d8;have AV:=uN sv.1 AW.way;have lsum:=zp (zs:=sv.1::sv.2) λz hz=>by
   rcases aW.mp hz with rfl | hz
   .exact AV.2.2
   exact(AW.pt z hz).2.2
  refine⟨⟨#[32]⟩,L8,sv.1::sv.2,rfl,rfl,aD.of e8,?_,d8,bo ?_,?_,⟨_,_,rfl⟩,λb o hb=>?_,ab⟩
  .show _+_ * 1<=16777216;rw [bV] at lsum ⊢;omega
  .rw [av,av,cX];omega
  .rw [cY,List.getElem?_drop,Mp,aQ,aQ];rfl
  rw [ai (λe=>by rw [e,ic] at hb;cases hb)];exact t8 b o hb
 obtain⟨rfl,_,s5,e5⟩:=h;rw [av,fj,WE,<-fj,dB] at e5;have KN:∀sv∈dZ.drop k,xJ sv:=λsv h=>sf sv (pY h);have ld:(dZ.drop k).length<=10:=by rw [fj];omega
 refine⟨L,D2,_,_,rfl,rfl,s5 _ _ eL,e5,fits (by rw [av,av,av];omega),λL9 hL9=>?_⟩;refine q L9 (ts++(dZ.drop k).map yg) _ ((sm.trans s5).trans (ae hL9 _)) (by rw [ab,aQ]) ?_ ?_ ?_ ?_ ?_
 .rcases hh with ⟨e,_⟩ | ⟨j,ru,_,_,_,init,l,r0,e,_⟩
  .exact absurd (uI.mp e) pR
  rw [e];simp
 .rw [bW,av];omega
 .rw [aQ,ma];have:∀l:List aB,(∀sv∈l,xJ sv)->((l.map yg).map (·.length)).sum<=200 * l.length:=by
   intro l
   induction l with
   | nil=>intro _;exact dD _
   | cons a r ih =>
    intro h;have h1:=ih λz hz=>h z (cJ _ hz);have h2:=(uO (h a bG)).2.2;rw [br,br,gw,bV];omega
  have:=this _ KN;omega
 .intro t ht;rcases aX.mp ht with ht | ht
  .exact st.nl t ht
  obtain⟨sv,AW,rfl⟩:=cM.mp ht;exact(uO (KN sv AW)).2.1
 rw [aQ];have:=cq.MP (r:=aa) ∅ wh KN (by rw [cX];omega);rw [oT] at this;exact this
end
def GK:∀c∈[32,10,124,58,35,42,43,63],c∉i6.cps.toList:=by decide +kernel
def pF.not {z:Str}(h:pF z){c:Nat}(hc:c∈[32,10,124,58,35,42,43,63]):c∉L2.sg z:=λhx=>GK c hc (h.sg c hx)
def pF.name {z:Str}(h:pF z):rQ z:=by
 have hh:∀c∈[32,10,124,58,35,42,43,63],(L2.sg z).head?≠some c:=λc hc e=>h.not hc (List.mem_of_mem_head? e);have hl:∀c∈[32,10,124,58,35,42,43,63],(L2.sg z).getLast?≠some c:=λc hc e=>h.not hc (List.mem_of_getLast? e);refine⟨⟨⟨λe=>h.ne ?_,h.not nofun,h.not nofun⟩,λe=>?_,tP h.le (hh 58 nofun) (hh 124 nofun),h.le⟩,?_,hh 35 nofun⟩
 .rw [<-cA,e];rfl
 .exact hh 124 nofun (by rw [e];rfl)
 unfold again;rw [beq_false_of_ne (hl 42 nofun),beq_false_of_ne (hl 43 nofun),beq_false_of_ne (hl 63 nofun)];simp
def He (z:Str):Bool:=decide (L2.sg z≠[]) && decide (32∉L2.sg z) && decide (10∉L2.sg z) && decide (z≠("|":Str)) && decide ((L2.sg z).head?≠some 58) && decide ((L2.sg z).head?≠some 124) && decide (z.length<=14)
def oj {z:Str}(h:He z=true):fR z:=by
 simp only [He,nP,decide_eq_true_eq] at h;obtain⟨⟨⟨⟨⟨⟨h1,h2⟩,h3⟩,h4⟩,h5⟩,h6⟩,h7⟩:=h;exact⟨⟨h1,h2,h3⟩,h4,tP h7 h5 h6,h7⟩
def yW:List Str:=["left","right","none","+","?","*","-"]
def dH:List Str:=["+","*","#a","?","right","none","-x"]
def Bz:∀z∈yW,rQ z:=λz hz=>by
 have h:=(show ∀z∈yW,He z=true/\again z=false/\(L2.sg z).head?≠some 35 by decide +kernel) z hz;exact⟨oj h.1,h.2.1,h.2.2⟩
def By:∀z∈dH,fR z/\again z=false:=λz hz=>by
 have h:=(show ∀z∈dH,He z=true/\again z=false by decide +kernel) z hz;exact⟨oj h.1,h.2⟩
theorem Er {α:Type} [DecidableEq α]:∀{l m:List α},l.Nodup->(∀x∈l,x∈m)->l.length<=m.length
 | [],_,_,_=>dD _
 | x::l,m,hn,hs=>by
  have hx:=hs x bG;have IV:=jr.mp hn;have ih:=Er (l:=l) (m:=m.erase x) IV.2 λy hy=>(List.mem_erase_of_ne (λe=>IV.1 (by rw [<-e];exact hy))).mpr (hs y (cJ _ hy));rw [List.length_erase_of_mem hx] at ih;have:=List.length_pos_of_mem hx;rw [bV];omega
def o9:List Str:=["+","*","#a","?"]
def others:List (List Str):=[["left","right","none","+"],["?","none","*","left"],["+","left","-","*"]]
def gq (bz names:List Str):Prop:=∃m:Nat,1<=m/\m<=4/\(names=bz.take m\/∃o∈others,names=o.take m)
def gk {bz:List Str}(hp:∀z∈bz,pF z){z:Str}(c:Nat)(hc:c∈[32,10,124,58,35,42,43,63])(hz:c∈L2.sg z):z∉bz:=λh=>(hp z h).not hc hz
def C4 {p:Str->Bool}{a b:Str}(h:List.Sublist [a,b] dH)(ha:p a=true)(hb:p b=true):2<=(dH.filter p).length:=by
 have h2:=(h.filter p).length_le;have e:[a,b].filter p=[a,b]:=by simp [ha,hb]
 rw [e] at h2;exact h2
def wt {bz names:List Str}(hp:∀z∈bz,pF z)(hn:gq bz names):2<=(dH.filter λz=>decide (z∉names++bz)).length:=by
 have np:∀z∈o9,z∉bz:=λz hz=>by
  simp only [o9,aW,kC,or_false] at hz;rcases hz with rfl | rfl | rfl | rfl
  .exact gk hp 43 nofun nofun
  .exact gk hp 42 nofun nofun
  .exact gk hp 35 nofun nofun
  exact gk hp 63 nofun nofun
 have go:∀a b:Str,a∈o9->b∈o9->List.Sublist [a,b] dH->a∉names->b∉names->2<=(dH.filter λz=>decide (z∉names++bz)).length:=λa b ha hb hs na nb =>
  C4 hs (fO λh=>(aX.mp h).elim na (np a ha)) (fO λh=>(aX.mp h).elim nb (np b hb))
 obtain⟨m,_,_,h⟩:=hn;rcases h with h | ⟨o,ho,h⟩
 .refine go "#a" "?" nofun nofun nofun ?_ ?_
  .rw [h];exact λz=>np "#a" nofun (gC z)
  rw [h];exact λz=>np "?" nofun (gC z)
 have ms:∀z,z∈names->z∈o:=λz hz=>by rw [h] at hz;exact gC hz
 simp only [others,aW,kC,or_false] at ho;rcases ho with rfl | rfl | rfl
 .exact go "#a" "?" nofun nofun nofun (λz=>absurd (ms _ z) nofun) (λz=>absurd (ms _ z) nofun)
 .exact go "+" "#a" nofun nofun nofun (λz=>absurd (ms _ z) nofun) (λz=>absurd (ms _ z) nofun)
 exact go "#a" "?" nofun nofun nofun (λz=>absurd (ms _ z) nofun) (λz=>absurd (ms _ z) nofun)
theorem gq.name {bz names:List Str}(hp:∀z∈bz,pF z)(hn:gq bz names):∀z∈names,rQ z:=λz hz=>by
 obtain⟨m,_,_,h⟩:=hn;rcases h with h | ⟨o,ho,h⟩
 .rw [h] at hz;exact(hp z (gC hz)).name
 rw [h] at hz;have hz:=gC hz;exact Bz z ((show ∀o∈others,∀z∈o,z∈yW by decide +kernel) o ho z hz)
def gq.nd {bz names:List Str}(hd:bz.Nodup)(hn:gq bz names):names.Nodup:=by
 obtain⟨m,_,_,h⟩:=hn;rcases h with h | ⟨o,ho,h⟩
 .rw [h];exact hd.sublist (uu _ _)
 rw [h];exact((show ∀o∈others,o.Nodup by decide +kernel) o ho).sublist (uu _ _)
theorem rg {α:Type}(p:α->Bool):∀l:List α,(l.filter p).length+(l.filter λx=>!p x).length=l.length
 | []=>rfl
 | x::l=>by
  have ih:=rg p l;cases h:p x
  .rw [List.filter_cons_of_neg (by simp [h]),List.filter_cons_of_pos (by simp [h]),bV,bV];omega
  rw [List.filter_cons_of_pos (by simp [h]),List.filter_cons_of_neg (by simp [h]),bV,bV];omega
def yl {bz names:List Str}(hl:bz.length=10)(hd:bz.Nodup)(hp:∀z∈bz,pF z)(hn:gq bz names):3<=((bz.drop 4).filter λz=>decide (z∉names)).length:=by
 have h6:(bz.drop 4).length=6:=by rw [fj];omega
 have f2:=rg (λz=>decide (z∈names)) (bz.drop 4);have e:((bz.drop 4).filter λz=>decide (z∉names))=(bz.drop 4).filter λz=>!decide (z∈names):=List.filter_congr λz _=>by simp
 rw [e]
 suffices h:((bz.drop 4).filter λz=>decide (z∈names)).length<=3 by omega
 have nd:((bz.drop 4).filter λz=>decide (z∈names)).Nodup:=(hd.sublist (List.drop_sublist _ _)).sublist List.filter_sublist;have mem:∀z∈((bz.drop 4).filter λz=>decide (z∈names)),z∈bz.drop 4/\z∈names:=λz hz=>⟨(fV.mp hz).1,dF (fV.mp hz).2⟩;obtain⟨m,_,m4,h⟩:=hn;rcases h with h | ⟨o,ho,h⟩
 .have:((bz.drop 4).filter λz=>decide (z∈names))=[]:=by
   rw [List.filter_eq_nil_iff];intro z hz IS;have IS:=dF IS;rw [h] at IS;have SS:z∈bz.take 4:=List.take_subset_take_left bz m4 IS;have:=hd;rw [<-oT 4 bz] at this;exact(iJ.mp this).2.2 z SS z hz rfl
  rw [this];exact dD _
 have ms:∀z,z∈names->z∈o:=λz hz=>by rw [h] at hz;exact gC hz
 have np:∀z∈o9,z∉bz:=λz hz=>by
  simp only [o9,aW,kC,or_false] at hz;rcases hz with rfl | rfl | rfl | rfl
  .exact gk hp 43 nofun nofun
  .exact gk hp 42 nofun nofun
  .exact gk hp 35 nofun nofun
  exact gk hp 63 nofun nofun
 have key:((bz.drop 4).filter λz=>decide (z∈names)).length<=(o.filter λz=>decide (z∉o9)).length:=Er nd λz hz=>by
  obtain⟨h1,h2⟩:=mem z hz;exact fV.mpr ⟨ms z h2,fO λhf=>np z hf (pY h1)⟩
 exact dI key ((show ∀o∈others,(o.filter λz=>decide (z∉o9)).length<=3 by decide +kernel) o ho)
def jV (bz names:List Str):List Str:=(bz.drop 4).filter λz=>decide (z∉names)
def cu (bz names:List Str):List Str:=dH.filter λz=>decide (z∉names++bz)
structure HY (bz names W:List Str):Prop where
 UA:∃w0 w1 w2 w3 w4,W=[w0,w1,w2,w3,w4]/\∀p9,bz[9]?=some p9->([w0,p9,w3,("x*":Str),w1,w4]:List Str).Nodup
 part:∀z∈W,fR z/\again z=false
 dj:∀x∈names,x∉W
def CU {bz names:List Str}{a:Nat}(hl:bz.length=10)(hd:bz.Nodup)(hp:∀z∈bz,pF z)(hn:gq bz names) :
  HY bz names ((jV bz names).take 3++((cu bz names).drop a++(cu bz names).take a).take 2):=by
 have h3:3<=(jV bz names).length:=yl hl hd hp hn;have h2:2<=(cu bz names).length:=wt hp hn;have ndS:(cu bz names).Nodup:=(show dH.Nodup by decide +kernel).sublist List.filter_sublist;have Sa:((cu bz names).drop a++(cu bz names).take a).Nodup:=by
  rw [iJ];have h:=ndS;rw [<-oT a (cu bz names),iJ] at h;exact⟨h.2.1,h.1,λx hx y hy e=>h.2.2 y hy x hx e.symm⟩
 have lT:((cu bz names).drop a++(cu bz names).take a).length=(cu bz names).length:=by
  rw [bW,fj,cX];omega
 have Ey:∀z∈((cu bz names).drop a++(cu bz names).take a),z∈dH/\z∉names/\z∉bz:=λz hz=>by
  have hz:z∈cu bz names:=(aX.mp hz).elim pY gC;have:=dF (fV.mp hz).2;exact⟨(fV.mp hz).1,λh=>this (mf _ h),λh=>this (fX _ h)⟩
 have Hr:∀z∈jV bz names,z∈bz/\z∉names:=λz hz=>⟨pY (fV.mp hz).1,dF (fV.mp hz).2⟩;refine⟨?_,λz hz=>?_,λx hx hW=>?_⟩
 .generalize hT:(cu bz names).drop a++(cu bz names).take a=Tn at Sa lT Ey;obtain⟨w3,w4,r4,eT⟩:∃w3 w4 r,Tn=w3::w4::r:=by
   match Tn,(show 2<=Tn.length by omega) with
   | w3::w4::r,_=>exact⟨w3,w4,r,rfl⟩
  obtain⟨w0,w1,w2,r2,eO⟩:∃w0 w1 w2 r,jV bz names=w0::w1::w2::r:=by
   match jV bz names,h3 with
   | w0::w1::w2::r,_=>exact⟨w0,w1,w2,r,rfl⟩
  refine⟨w0,w1,w2,w3,w4,by rw [eO,eT];rfl,λp9 h9=>?_⟩;have Ww:(jV bz names).Nodup:=(hd.sublist (List.drop_sublist _ _)).sublist List.filter_sublist;have d9:bz.drop 4=(bz.drop 4).take 5++[p9]:=by
   have e:=(oT 5 (bz.drop 4)).symm;rw [List.drop_drop] at e;have e9:bz.drop 9=[p9]:=by
    obtain⟨lt,e9⟩:=bx.mp h9;rw [v7 lt,e9,List.drop_of_length_le ∅]
   rw [show 4+5=9 from rfl,e9] at e;exact e
  have Wx:(bz.drop 4).Nodup:=hd.sublist (List.drop_sublist _ _);have Yz:jV bz names=(((bz.drop 4).take 5).filter λz=>decide (z∉names))++([p9].filter λz=>decide (z∉names)):=by
   unfold jV;rw [<-kM,<-d9]
  have n9:p9∉(bz.drop 4).take 5:=λh=>by
   rw [d9,iJ] at Wx;exact Wx.2.2 p9 h p9 (bH.mpr rfl) rfl
  have lI:2<=(((bz.drop 4).take 5).filter λz=>decide (z∉names)).length:=by
   have h:=h3;rw [Yz,bW] at h;have:=jG (λz=>decide (z∉names)) [p9];have e:[p9].length=1:=rfl;omega
  have NX:∀z∈[w0,w1],z≠p9:=λz hz e=>by
   have t2:[w0,w1]=(((bz.drop 4).take 5).filter λz=>decide (z∉names)).take 2:=by
    have h:=congrArg (List.take 2) Yz;rw [eO,List.take_append_of_le_length lI] at h;exact h
   rw [t2] at hz;have hz:=(fV.mp (gC hz)).1;rw [e] at hz;exact n9 hz
  have RT:p9∈bz:=cv h9;have m0:=Hr w0 (by rw [eO];simp);have m1:=Hr w1 (by rw [eO];simp);have m3:=Ey w3 (by rw [eT];simp);have m4:=Ey w4 (by rw [eT];simp);have n01:w0≠w1:=by
   rw [eO] at Ww;exact λe=>(jr.mp Ww).1 (by rw [e];simp)
  have n34:w3≠w4:=by
   rw [eT] at Sa;exact λe=>(jr.mp Sa).1 (by rw [e];simp)
  have xs:("x*":Str)∉bz:=gk hp 42 nofun nofun;have xo:("x*":Str)∉dH:=by decide +kernel
  have q:∀{u v:Str},u∈bz->v∉bz->u≠v:=λhu hv e=>hv (by rw [<-e];exact hu);have q2:∀{u v:Str},u∈dH->v∉dH->u≠v:=λhu hv e=>hv (by rw [<-e];exact hu);simp only [jr,aW,kC,or_false,not_or,l_,and_true,not_false_eq_true];exact⟨⟨NX w0 (by simp),q m0.1 m3.2.2,q m0.1 xs,n01,q m0.1 m4.2.2⟩,⟨q RT m3.2.2,q RT xs,(NX w1 (by simp)).symm,q RT m4.2.2⟩,⟨q2 m3.1 xo,(q m1.1 m3.2.2).symm,n34⟩,⟨(q m1.1 xs).symm,(q2 m4.1 xo).symm⟩,q m1.1 m4.2.2⟩
 .rcases aX.mp hz with hz | hz
  .have h:=hp z (Hr z (gC hz)).1;exact⟨h.name.pt,h.name.ag⟩
  exact By z (Ey z (gC hz)).1
 rcases aX.mp hW with h | h
 .exact(Hr x (gC h)).2 hx
 exact(Ey x (gC h)).2.1 hx
def tZ (xs:List V) (k:Nat):dq xs none (some (k:Int))=xs.take k:=by
 unfold dq;rw [HT.ke,HT.qF,List.drop_zero,Nat.sub_zero];by_cases h:k<=xs.length
 .rw [Nat.min_eq_left h]
 rw [Nat.min_eq_right ∅,dB,oV ∅]
def oI (xs:List V) (k:Nat):dq xs (some (k:Int)) none=xs.drop k:=by
 unfold dq;rw [HT.ke,HT.qF];by_cases h:k<=xs.length
 .rw [Nat.min_eq_left h,oV (by rw [fj];omega)]
 rw [Nat.min_eq_right ∅,Nat.sub_self,List.take_zero,List.drop_eq_nil_of_le ∅]
def iY (zs:List Str) (k:Nat):dq (zs.map V.str) none (some (k:Int))=(zs.take k).map V.str:=by rw [tZ,nJ]
def tY (zs:List Str) (k:Nat):dq (zs.map V.str) (some (k:Int)) none=(zs.drop k).map V.str:=by rw [oI,jL]
theorem tI {α β:Type}{F:α->β->Prop}:∀{xs:List α}{ys:List β},Paired F xs ys->∀k:Nat,Paired F (xs.take k) (ys.take k)
 | _,_,.nil,k=>by rw [List.take_nil,List.take_nil];exact .nil
 | _,_,.cons _ _,0=>.nil
 | _,_,.cons h t,k+1=>.cons h (tI t k)
def wk (w0 p9 w3 w1 w4:Str):List aB:=[("left",[w0,p9]),("none",[w3,"x*"]),("right",[w1,w4])]
def Gf:fR ("x*":Str):=oj nofun
def Hc {z:Str}(h:fR z):z≠(":":Str):=λe=>by
 have:=h.ip;rw [e] at this;revert this
 decide +kernel
def uS {w x y:Str}(hw:w∈ml)(hx:fR x)(hy:fR y):xJ (w,[x,y]) where
 way:=hw
 ne:=by simp
 nc:=λe=>Hc hx (g6 e)
 le:=by show 2<=8;decide
 pt:=λp hp=>by
  rcases aW.mp hp with rfl | hp
  .exact⟨hx.wd,hx.ip,hx.le⟩
  rw [bH.mp hp];exact⟨hy.wd,hy.ip,hy.le⟩
def Gq {w0 p9 w3 w1 w4:Str}(h:([w0,p9,w3,("x*":Str),w1,w4]:List Str).Nodup)(h0:fR w0)(h9:fR p9)(h3:fR w3)(h1:fR w1)(h4:fR w4) (k:Nat) :
  (∀st∈(wk w0 p9 w3 w1 w4).take k,xJ st)/\(((wk w0 p9 w3 w1 w4).take k).flatMap (·.2)).Nodup/\((wk w0 p9 w3 w1 w4).take k).length<=3:=by
 refine⟨λst hs=>?_,?_,?_⟩
 .have hs:=gC hs;rcases aW.mp hs with rfl | hs
  .exact uS nofun h0 h9
  rcases aW.mp hs with rfl | hs
  .exact uS nofun h3 Gf
  rw [bH.mp hs];exact uS nofun h1 h4
 .have e:((wk w0 p9 w3 w1 w4).take k).flatMap (·.2)=([w0,p9,w3,("x*":Str),w1,w4]:List Str).take (2 * k):=by
   match k with
   | 0=>rfl
   | 1=>rfl
   | 2=>rfl
   | n+3 =>
    rw [oV (show (wk w0 p9 w3 w1 w4).length<=n+3 by show 3<=n+3;omega),oV (by show 6<=2 * (n+3);omega)];rfl
  rw [e];exact h.sublist (uu _ _)
 rw [cX];exact Nat.min_le_right _ _
def Eu {zs:List Str}{P4 o1 o2 o3:Addr}{H:Hp}(e0:H P4=some (.lst ((zs.take 4).map V.str)))(e1:H o1=some (.lst (List.map V.str ["left","right","none","+"])))(e2:H o2=some (.lst (List.map V.str ["?","none","*","left"])))(e3:H o3=some (.lst (List.map V.str ["+","left","-","*"]))) (c:Int) :
  ∃(X:Addr) (xs:List Str),ik [V.ref P4,.ref o1,.ref o2,.ref o3] (c % 4)=some (.ref X)/\H X=some (.lst (xs.map V.str))/\(xs=zs.take 4\/xs∈others):=by
 obtain⟨j,hj,lt⟩:∃j:Nat,c % 4=(j:Int)/\j < 4:=⟨(c % 4).toNat,∅,∅⟩;rw [hj]
 match j,lt with
 | 0,_=>exact⟨P4,_,rfl,e0,.inl rfl⟩
 | 1,_=>exact⟨o1,_,rfl,e1,.inr (by simp [others])⟩
 | 2,_=>exact⟨o2,_,rfl,e2,.inr (by simp [others])⟩
 | 3,_=>exact⟨o3,_,rfl,e3,.inr (by simp [others])⟩
def Et {zs xs:List Str}{k:Nat}(hk:1<=k)(Xf:k<=4)(h:xs=zs.take 4\/xs∈others):gq zs (xs.take k):=by
 refine⟨k,hk,Xf,?_⟩;rcases h with rfl | h
 .exact .inl (by rw [List.take_take,Nat.min_eq_left Xf])
 exact .inr ⟨xs,h,rfl⟩
def gq.len {zs names:List Str}(hl:zs.length=10)(h:gq zs names):0 < names.length/\names.length<=4:=by
 obtain⟨m,h1,h4,rfl | ⟨o,ho,rfl⟩⟩:=h
 .rw [cX];omega
 have:o.length=4:=(show ∀o∈others,o.length=4 by decide +kernel) o ho;rw [cX];omega
def AQ {z:Str}{xs:List Str}:(if true then !zC (.str z) (xs.map V.str) else zC (.str z) (xs.map V.str))=decide (z∉xs):=by
 rw [az rfl];by_cases h:z∈xs
 .rw [(pP z xs).mpr h,gy (λn=>n h)];rfl
 rw [fO h];cases e:zC (.str z) (xs.map V.str) with
 | false=>rfl
 | true=>exact absurd ((pP z xs).mp e) h
def kn (p:Str->Bool) (l:List Str){i:Nat}{z:Str}(h:l[i]?=some z):(l.take (i+1)).filter p=(l.take i).filter p++(if p z=true then [z] else []):=by
 rw [cY,h,kM]
 congr 1
 by_cases c:p z=true
 .rw [az c];simp [c]
 rw [ay c];simp [c]
end gu
namespace L2
open PySem
def jy {X:Cx}(K:aY)(hK:X.K=K:=by rfl):kU X (compareOp .NotIn) (PY K true):=by
 subst hK;exact mO
end L2
namespace gu
open PySem L2 M11
section
def Kp.Uw {H0 H H':Hp}(k:Kp H H'){Cg g bt:Addr}{rs ss:List Addr}(h:MH H0 H Cg g rs ss bt):MH H0 H' Cg g rs ss bt:=by
 obtain⟨gx,fs,R2,S2,e1,l1,l2,l3,l4,e2,e3,f1,f2⟩:=h;exact⟨gx,fs,R2,S2,k _ _ e1 (λ_ z=>by cases z),l1,l2,l3,l4,k.lst e2,k.lst e3,f1,f2⟩
def AG {H H':Hp}{r:Addr}{ru:aB}(h:kT K H r ru)(s:aC H H'):kT K H' r ru:=by
 obtain⟨p,v1,v2⟩:=h;exact⟨p,s.tup v1,s.tup v2⟩
def Aw (K:aY)(T1 T2 T3:Addr):Sp:=λvs H Q _=>∃(a:Addr)(ns:List Int),vs=[.ref a]/\aD K H a (ns.map V.int)/\ns.length<=63/\vW T1 T2 T3 H/\∀H',Q (.bl true) H'
def hX:aK ["_law_script","_law_first_here","_law_pool_here","_law_others","_law_names","_law_some","_law_at","_law_words","_law_rules_here","_law_draws","_law_strengths","_law_rows_here","_law_again","_law_grammar"] ["_law_script"] (ax JN):=iI rfl rfl rfl rfl nofun
def Kg {Cg T1 T2 T3 fS:Addr}{XO:FuncData}(F:ig K "law" "law" JN f fd)(T:Txt mg)(Zc:aH P w K mg base 9 "_law_cell_at" ["_law_script","_law_k"] (Dk K))(GP:aH P w K mg base 9 "_law_pool" ["_law_cell","_law_many"] Dg)(GS:aH P w K mg base 9 "_law_stream" ["_law_cell","_law_many"] jS)
  (GR:aH P w K mg base 9 "_law_rules" ["_law_cell","_law_names","_law_words","_law_cells"] (Ar K))(GW:aH P w K mg base 9 "_law_rows" ["_law_rules_here","_law_strengths","_law_draws"] (Df K))(GN:aH P w K mg base 9 "_law_noisy" ["_law_rows_here","_law_draws"] (Av K))
  (GG:aH P w K mg base 9 "read_grammar" ["text"] (As K Cg T1 T2 T3))(GT:aH P w K mg base 9 "_law_tuples" ["_law_found","_law_due"] (wm K))
  (G:GC K Cg)(MS:Meth K Cg "start" fS)(FS:bS P w K mg base fu 9 fS XO ["self"] (Aq K Cg))(BS:Binds K XO ["self"] []):bS P w K mg base fu 10 f fd ["_law_script"] (Aw K T1 T2 T3):=by
 refine F.ok hX (λvs H Q E h=>?_) (λeB A outer s H vs Q E hr h=>?_)
 .obtain⟨a,ns,rfl,_⟩:=h;rfl
 obtain⟨a,ns,rfl,hS,hl,hT,q⟩:=h;refine⟨_,@ak _ _ _ _ _ (@cO _ _ _ (@aE _ _ 1 _ _ _ _ hX.nd rfl (bJ rfl) (@bI _ _ _ _ _ _ _ _ _ _ Zc hr rfl (@af _ _ _ _ _ (pv 0) (@af _ _ _ _ _ (@ao _ _ _ _) (@aj _) rfl) rfl) rfl rfl rfl) rfl (.inr rfl)))
  (@ak _ _ _ _ _ (@cO _ _ _ (@aE _ _ 2 _ _ _ _ hX.nd rfl (Or.inr rfl) (@bI _ _ _ _ _ _ _ _ _ _ GP hr rfl (@af _ _ _ _ _ (@aI _ _ _ _ _ _ _ _ dM (pv 1) (@ao _ _ _ _)) (@af _ _ _ _ _ (@ao _ _ _ _) (@aj _) rfl) rfl) rfl rfl rfl) rfl (.inl rfl)))
  (@ak _ _ _ _ _ (@cO _ _ _ (@aE _ _ 3 _ _ _ _ hX.nd rfl (bJ rfl) (@bA _ _ _ _ (@af _ _ _ _ _ (@bA _ _ _ _ (@af _ _ _ _ _ (@aU _ _ _ _) (@af _ _ _ _ _ (@aU _ _ _ _) (@af _ _ _ _ _ (@aU _ _ _ _) (@af _ _ _ _ _ (@aU _ _ _ _) (@aj _) rfl) rfl) rfl) rfl)) (@af _ _ _ _ _ (@bA _ _ _ _ (@af _ _ _ _ _ (@aU _ _ _ _) (@af _ _ _ _ _ (@aU _ _ _ _) (@af _ _ _ _ _ (@aU _ _ _ _) (@af _ _ _ _ _ (@aU _ _ _ _) (@aj _) rfl) rfl) rfl) rfl)) (@af _ _ _ _ _ (@bA _ _ _ _ (@af _ _ _ _ _ (@aU _ _ _ _) (@af _ _ _ _ _ (@aU _ _ _ _) (@af _ _ _ _ _ (@aU _ _ _ _) (@af _ _ _ _ _ (@aU _ _ _ _) (@aj _) rfl) rfl) rfl) rfl)) (@aj _) rfl) rfl) rfl)) rfl (.inr rfl)))
  (@ak _ _ _ _ _ (@cO _ _ _ (@aE _ _ 4 _ _ _ _ hX.nd rfl (Or.inr rfl) (@bR _ _ _ _ _ _ _ _ _ _ cH (@aM _ _ _ _ _ _ _ aP (@aI _ _ _ _ _ _ _ _ h_ (@bA _ _ _ _ (@af _ _ _ _ _ (@bR _ _ _ _ _ _ _ _ _ _ cH (pv 2) (@cU _) (@bQ _ _ _ (@ao _ _ _ _))) (@aj _) rfl)) (pv 3)) (@aI _ _ _ _ _ _ _ _ cz (@aI _ _ _ _ _ _ _ _ dM (pv 1) (@ao _ _ _ _)) (@ao _ _ _ _)) (λ_ _=>rfl)) (@cU _) (@bQ _ _ _ (@aI _ _ _ _ _ _ _ _ dC (@ao _ _ _ _) (@aI _ _ _ _ _ _ _ _ cz (pv 1) (@ao _ _ _ _))))) rfl (.inl rfl)))
  (@ak _ _ _ _ _ (@cO _ _ _ (@f_ _ _ _ _ 5 _ _ _ _ _ _ _ _ _ _ ["_law_word"] [(4,"_law_names"),(2,"_law_pool_here")] hX.nd rfl rfl rfl (@a9 _ _ _ _ (@bA _ _ _ _ (@af _ _ _ _ _ (@aU _ _ _ _) (@af _ _ _ _ _ (@aU _ _ _ _) (@af _ _ _ _ _ (@aU _ _ _ _) (@af _ _ _ _ _ (@aU _ _ _ _) (@af _ _ _ _ _ (@aU _ _ _ _) (@af _ _ _ _ _ (@aU _ _ _ _) (@af _ _ _ _ _ (@aU _ _ _ _) (@aj _) rfl) rfl) rfl) rfl) rfl) rfl) rfl))) (a_ rfl rfl) nofun rfl nofun (λ_ _ _ _ _=>au (i:=0) (show (["_law_word","_law_names","_law_pool_here"]:List Str).Nodup by decide +kernel) rfl (bJ rfl)) (λ_ _ _ _ _=>gh (bB (jy K) (pv 0) (aI h_ (pv 1) (pv 2)) rfl)) (λ_ _ _ _ _=>pv 0) rfl (λ_=>rfl)))
  (@ak _ _ _ _ _ (@cO _ _ _ (@aE _ _ 6 _ _ _ _ hX.nd rfl (bJ rfl) (@aI _ _ _ _ _ _ _ _ cz (@aI _ _ _ _ _ _ _ _ dM (pv 1) (@ao _ _ _ _)) (aV bD rfl T.len fw (@af _ _ _ _ _ (pv 5) (@aj _) rfl))) rfl (.inr rfl)))
  (@ak _ _ _ _ _ (@cO _ _ _ (@aE _ _ 7 _ _ _ _ hX.nd rfl (bJ rfl) (@aI _ _ _ _ _ _ _ _ h_ (@bR _ _ _ _ _ _ _ _ _ _ cH (@bL _ _ _ _ _ _ _ _ _ _ _ ["_law_word"] [(4,"_law_names")] rfl (@a9 _ _ _ _ (@bR _ _ _ _ _ _ _ _ _ _ cH (pv 2) (@bQ _ _ _ (@ao _ _ _ _)) (@cU _))) (a_ rfl rfl) nofun rfl nofun (λ_ _ _ _ _=>au (i:=0) (show (["_law_word","_law_names"]:List Str).Nodup by decide +kernel) rfl (bJ rfl)) (λ_ _ _ _ _=>gh (bB (jy K) (pv 0) (pv 1) rfl)) (λ_ _ _ _ _=>pv 0) (λ_=>rfl)) (@cU _) (@bQ _ _ _ (@ao _ _ _ _))) (@bR _ _ _ _ _ _ _ _ _ _ cH (@aI _ _ _ _ _ _ _ _ h_ (@bR _ _ _ _ _ _ _ _ _ _ cH (pv 5) (@bQ _ _ _ (pv 6)) (@cU _)) (@bR _ _ _ _ _ _ _ _ _ _ cH (pv 5) (@cU _) (@bQ _ _ _ (pv 6)))) (@cU _) (@bQ _ _ _ (@ao _ _ _ _)))) rfl (.inr rfl)))
  (@ak _ _ _ _ _ (@cO _ _ _ (@aE _ _ 8 _ _ _ _ hX.nd rfl (bJ rfl) (@bI _ _ _ _ _ _ _ _ _ _ GR hr rfl (@af _ _ _ _ _ (@aI _ _ _ _ _ _ _ _ dM (pv 1) (@ao _ _ _ _)) (@af _ _ _ _ _ (pv 4) (@af _ _ _ _ _ (pv 7) (@af _ _ _ _ _ (@bR _ _ _ _ _ _ _ _ _ _ cH (pv 0) (@bQ _ _ _ (@ao _ _ _ _)) (@bQ _ _ _ (@ao _ _ _ _))) (@aj _) rfl) rfl) rfl) rfl) rfl rfl rfl) rfl (.inr rfl)))
  (@ak _ _ _ _ _ (@cO _ _ _ (@aE _ _ 9 _ _ _ _ hX.nd rfl (bJ rfl) (@bI _ _ _ _ _ _ _ _ _ _ GS hr rfl (@af _ _ _ _ _ (@bI _ _ _ _ _ _ _ _ _ _ Zc hr rfl (@af _ _ _ _ _ (pv 0) (@af _ _ _ _ _ (@ao _ _ _ _) (@aj _) rfl) rfl) rfl rfl rfl) (@af _ _ _ _ _ (@ao _ _ _ _) (@aj _) rfl) rfl) rfl rfl rfl) rfl (.inr rfl)))
  (@ak _ _ _ _ _ (@cO _ _ _ (@aE _ _ 10 _ _ _ _ hX.nd rfl (bJ rfl) (@bA _ _ _ _ (@af _ _ _ _ _ (@bY _ _ _ _ _ (@af _ _ _ _ _ (@aU _ _ _ _) (@af _ _ _ _ _ (@bY _ _ _ _ _ (@af _ _ _ _ _ (@aM _ _ _ _ _ _ _ aP (pv 7) (@ao _ _ _ _) (λ_ _=>rfl)) (@af _ _ _ _ _ (@aM _ _ _ _ _ _ _ aP (pv 2) (@ao _ _ _ _) (λ_ _=>rfl)) (@aj _) rfl) rfl)) (@aj _) rfl) rfl)) (@af _ _ _ _ _ (@bY _ _ _ _ _ (@af _ _ _ _ _ (@aU _ _ _ _) (@af _ _ _ _ _ (@bY _ _ _ _ _ (@af _ _ _ _ _ (@aM _ _ _ _ _ _ _ aP (pv 7) (@ao _ _ _ _) (λ_ _=>rfl)) (@af _ _ _ _ _ (@aU _ _ _ _) (@aj _) rfl) rfl)) (@aj _) rfl) rfl)) (@af _ _ _ _ _ (@bY _ _ _ _ _ (@af _ _ _ _ _ (@aU _ _ _ _) (@af _ _ _ _ _ (@bY _ _ _ _ _ (@af _ _ _ _ _ (@aM _ _ _ _ _ _ _ aP (pv 7) (@ao _ _ _ _) (λ_ _=>rfl)) (@af _ _ _ _ _ (@aM _ _ _ _ _ _ _ aP (pv 7) (@ao _ _ _ _) (λ_ _=>rfl)) (@aj _) rfl) rfl)) (@aj _) rfl) rfl)) (@aj _) rfl) rfl) rfl)) rfl (.inr rfl)))
  (@ak _ _ _ _ _ (@cO _ _ _ (@aE _ _ 10 _ _ _ _ hX.nd rfl (bJ rfl) (@bR _ _ _ _ _ _ _ _ _ _ cH (pv 10) (@cU _) (@bQ _ _ _ (@aI _ _ _ _ _ _ _ _ cz (@aM _ _ _ _ _ _ _ aP (pv 9) (@ao _ _ _ _) (λ_ _=>rfl)) (@ao _ _ _ _)))) rfl (.inr rfl)))
  (@ak _ _ _ _ _ (@cO _ _ _ (@aE _ _ 11 _ _ _ _ hX.nd rfl (bJ rfl) (@bI _ _ _ _ _ _ _ _ _ _ GW hr rfl (@af _ _ _ _ _ (pv 8) (@af _ _ _ _ _ (pv 10) (@af _ _ _ _ _ (@bR _ _ _ _ _ _ _ _ _ _ cH (pv 9) (@bQ _ _ _ (@ao _ _ _ _)) (@cU _)) (@aj _) rfl) rfl) rfl) rfl rfl rfl) rfl (.inr rfl)))
  (@ak _ _ _ _ _ (@cw _ _ _ _ _ _ _ _ cP rfl (iQ rfl T.FR (@af _ _ _ _ _ (@ao _ _ _ _) (@aj _) rfl)) (au (i:=12) hX.nd rfl (bJ rfl))
  (@ak _ _ _ _ _ (@cO _ _ _ (@aE _ _ 13 _ _ _ _ hX.nd rfl (bJ rfl) (@bI _ _ _ _ _ _ _ _ _ _ GG hr rfl (@af _ _ _ _ _ (@bI _ _ _ _ _ _ _ _ _ _ GN hr rfl (@af _ _ _ _ _ (pv 11) (@af _ _ _ _ _ (@aI _ _ _ _ _ _ _ _ h_ (@bR _ _ _ _ _ _ _ _ _ _ cH (pv 9) (@bQ _ _ _ (@ao _ _ _ _)) (@cU _)) (pv 9)) (@aj _) rfl) rfl) rfl rfl rfl) (@aj _) rfl) rfl rfl rfl) rfl (.inr rfl)))
  (@ak _ _ _ _ _ (@cO _ _ _ (@cN _ _ _ _ _ _ _ _ (PW.pt (qI (iF (fk (@bI _ _ _ _ _ _ _ _ _ _ GT hr rfl (@af _ _ _ _ _ (dO (pv 13) rfl) (@af _ _ _ _ _ (pv 8) (@aj _) rfl) rfl) rfl rfl rfl))) (lE (iF (fk (@bI _ _ _ _ _ _ _ _ _ _ GT hr rfl (@af _ _ _ _ _ (dO (pv 13) rfl) (@af _ _ _ _ _ (pv 10) (@aj _) rfl) rfl) rfl rfl rfl))))))
  (@ar _ _ _ (@bf _ _ _ _ eV)) bC))
  (@ar _ _ _ (@cN _ _ _ _ _ _ _ _ (PW.pt (qI (iF (fk (aV j6 rfl T.P9 uL (@af _ _ _ _ _ (wG (pv 13) G.cls MS FS hr BS .nil oZ) (@af _ _ _ _ _ (pL (v:=.ty "str") rfl T.str Fj rfl) (@aj _) rfl) rfl)))) (lE (bB IA (wG (pv 13) G.cls MS FS hr BS .nil oZ) (@aM _ _ _ _ _ _ _ aP (pv 4) (@ao _ _ _ _) (λ_ _=>rfl)) (cf _)))))
  (@ar _ _ _ (@bf _ _ _ _ eV)) bC)))) (λ_=>rfl))
  (@ar _ _ _ (@bf _ _ _ _ eV)))))))))))))) , ?_⟩
 refine⟨λσ H1=>∃c:Int,σ=[aG a,some (.int c),none,none,none,none,none,none,none,none,none,none,none,none]/\H1=H,⟨_,rfl,a,ns,0,rfl,hS,∅,λc=>⟨c,rfl,rfl⟩⟩,?_⟩;rintro _ H1 ⟨c,rfl,eH⟩;rw [eH];clear eH H1;refine⟨λσ H1=>∃(PL:Addr) (zs:List Str),σ=[aG a,some (.int c),aG PL,none,none,none,none,none,none,none,none,none,none,none]/\aC H H1/\H1 PL=some (.lst (zs.map V.str))/\zs.length=10/\(∀z∈zs,pF z)/\zs.Nodup,⟨_,rfl,_,_,rfl,rfl,⟨nofun,nofun⟩,c / 4,10,rfl,nofun,λPL zs H1 _ s1 e1 l1 p1 d1=>⟨PL,zs,rfl,s1,e1,l1,p1,d1⟩⟩,?_⟩;rintro _ H1 ⟨PL,zs,rfl,s1,e1,OB,EN,zF⟩;refine⟨λσ H2=>∃(OL o1 o2 o3:Addr),σ=[aG a,some (.int c),aG PL,aG OL,none,none,none,none,none,none,none,none,none,none]/\aC H1 H2/\H2 OL=some (.lst [.ref o1,.ref o2,.ref o3])/\H2 o1=some (.lst (List.map V.str ["left","right","none","+"]))/\H2 o2=some (.lst (List.map V.str ["?","none","*","left"]))/\H2 o3=some (.lst (List.map V.str ["+","left","-","*"])),?_,?_⟩
 .refine⟨MK,λo1 h1=>⟨MK,λo2 h2=>⟨MK,λo3 h3=>⟨Q2,λOL h4=>?_⟩⟩⟩⟩;exact⟨OL,o1,o2,o3,rfl,(ae h1 _).trans ((ae h2 _).trans ((ae h3 _).trans (ae h4 _))),ab,ae h4 _ _ _ (ae h3 _ _ _ (ae h2 _ _ _ ab)),ae h4 _ _ _ (ae h3 _ _ _ ab),ae h4 _ _ _ ab⟩
 rintro _ H2 ⟨OL,o1,o2,o3,rfl,t2,eO,Yd,Yc,Yb⟩;have s2:=s1.trans t2;have U4:=t2 _ _ e1;clear e1 t2;refine⟨λσ H3=>∃(N:Addr) (names:List Str),σ=[aG a,some (.int c),aG PL,aG OL,aG N,none,none,none,none,none,none,none,none,none]/\aC H2 H3/\H3 N=some (.lst (names.map V.str))/\gq zs names,?_,?_⟩
 .refine⟨_,rfl,_,rfl,PL,_,rfl,aD.of U4,λP4 hP4=>?_⟩;rw [show dq (zs.map V.str) none (some 4)=(zs.take 4).map V.str from iY zs 4];have t3:=ae hP4 (.lst ((zs.take 4).map V.str));have f3:upd H2 P4 (.lst ((zs.take 4).map V.str)) P4=some (.lst ((zs.take 4).map V.str)):=ab;generalize upd H2 P4 (.lst ((zs.take 4).map V.str))=H3 at t3 f3;refine⟨CT,λL1 Qr=>?_⟩;have t4:=t3.trans (ae Qr (.lst [.ref P4]));have f4:=ae Qr (.lst [.ref P4]) _ _ f3;have XX:upd H3 L1 (.lst [.ref P4]) L1=some (.lst [.ref P4]):=ab;generalize upd H3 L1 (.lst [.ref P4])=H4 at t4 f4 XX;refine⟨_,rfl,L1,OL,_,_,rfl,rfl,XX,t4 _ _ eO,MK,λCL OO=>?_⟩;have t5:=t4.trans (ae OO (.lst ([V.ref P4]++[.ref o1,.ref o2,.ref o3])));have f5:=ae OO (.lst ([V.ref P4]++[.ref o1,.ref o2,.ref o3])) _ _ f4;have XW:upd H4 CL (.lst ([V.ref P4]++[.ref o1,.ref o2,.ref o3])) CL=some (.lst [.ref P4,.ref o1,.ref o2,.ref o3]):=ab;generalize upd H4 CL (.lst ([V.ref P4]++[.ref o1,.ref o2,.ref o3]))=H5 at t5 f5 XW;obtain⟨Xa,xs,atX,eX,hx⟩:=Eu f5 (t5 _ _ Yd) (t5 _ _ Yc) (t5 _ _ Yb) (c / 4);obtain⟨k,hk⟩:∃k:Nat,1+c % 4=(k:Int):=⟨(1+c % 4).toNat,∅⟩;refine⟨_,rfl,_,_,rfl,rfl,⟨nofun,nofun⟩,_,_,rfl,rfl,(by show (0:Int) < 4;decide),CL,_,_,_,rfl,rfl,aD.of XW,atX,_,rfl,_,_,rfl,rfl,(by show (0:Int) < 4;decide),_,_,rfl,rfl,_,rfl,Xa,_,rfl,aD.of eX,λN hN=>?_⟩;rw [hk,iY xs k];exact⟨N,xs.take k,rfl,t5.trans (ae hN _),ab,Et ∅ ∅ hx⟩
 rintro _ H3 ⟨N,names,rfl,t3,U7,FX⟩;have s3:=s2.trans t3;have U3:=t3 _ _ U4;obtain⟨AX,Ow⟩:=FX.len OB;clear U4 s2 t3 Yd Yc Yb eO;have h2:2<=(cu zs names).length:=wt EN FX;have hs7:(cu zs names).length<=7:=jG _ _;refine⟨λσ H4=>∃(S:Addr),σ=[aG a,some (.int c),aG PL,aG OL,aG N,aG S,none,none,none,none,none,none,none,none]/\aC H3 H4/\H4 S=some (.lst ((cu zs names).map V.str)),?_,?_⟩
 .refine⟨Zd,λL1 Qr=>?_⟩;have t4:=ae Qr (.lst (dH.map V.str));have f4:upd H3 L1 (.lst (dH.map V.str)) L1=some (.lst (dH.map V.str)):=ab;refine⟨L1,rfl,⟨_,aD.of f4⟩,λD hD=>bq (xs:=dH.map V.str) (λi ys σ2 H5=>ys=((dH.take i).filter λz=>decide (z∉names++zs)).map V.str/\(∃y0,σ2=[y0,aG N,aG PL])/\aC (upd H3 L1 (.lst (dH.map V.str))) H5/\H5 D=some (.lst ys))
   ⟨rfl,⟨none,rfl⟩,ae hD _,ab⟩ (λi ys σ2 H5 _ h=>aD.of (h.2.2.1 _ _ f4)) (λi x ys σ2 H5 ex h=>?_) (λys σ2 H5 h=>?_)⟩
  .obtain⟨rfl,⟨y0,rfl⟩,sm,hd⟩:=h;rw [aZ] at ex;obtain⟨z,ez,rfl⟩:=b_.mp ex;have li:((dH.take i).filter λz=>decide (z∉names++zs)).length<=7:=dI (jG _ _) (List.length_take_le' _ _);refine goN ?_;refine⟨_,rfl,_,rfl,_,rfl,N,PL,_,_,rfl,rfl,sm _ _ (t4 _ _ U7),sm _ _ (t4 _ _ U3),fits (by rw [av,av];omega),λCL OO=>?_⟩;rw [<-aQ];have t6:=sm.trans (ae OO (.lst ((names++zs).map V.str)));have f6:=ae OO (.lst ((names++zs).map V.str)) _ _ hd;have XU:upd H5 CL (.lst ((names++zs).map V.str)) CL=some (.lst ((names++zs).map V.str)):=ab;generalize upd H5 CL (.lst ((names++zs).map V.str))=H6 at t6 f6 XU;refine⟨CL,_,rfl,.inl (aD.of XU),rfl,oB _,_,rfl,?_⟩;rw [AQ];refine dA (λcc=>?_) (λcc=>?_)
   .refine⟨_,rfl,f6,bo (by rw [av];omega),?_,⟨_,rfl⟩,?_,ab⟩
    .rw [kn _ _ ez,az cc,aQ];rfl
    intro b o hb;have hD':upd H3 L1 (.lst (dH.map V.str)) D=none:=hD;rw [ai (λe=>by rw [e,hD'] at hb;cases hb)];exact t6 b o hb
   exact⟨by rw [kn _ _ ez,ay (by simpa using cc),fh],⟨_,rfl⟩,t6,f6⟩
  obtain⟨rfl,_,sm,hd⟩:=h;rw [av,dB] at hd;exact⟨D,rfl,t4.trans sm,hd⟩
 rintro _ H4 ⟨S,rfl,t4,QI⟩;have s4:=s3.trans t4;have U2:=t4 _ _ U3;have U6:=t4 _ _ U7;clear U3 U7 s3 t4;refine⟨λσ H5=>∃(k:Nat),σ=[aG a,some (.int c),aG PL,aG OL,aG N,aG S,some (.int (k:Int)),none,none,none,none,none,none,none]/\H5=H4,?_,?_⟩
 .refine⟨_,rfl,_,_,rfl,rfl,⟨nofun,nofun⟩,_,rfl,S,_,rfl,.inl (aD.of QI),?_⟩;rw [av];have hp:(0:Int) < ((cu zs names).length:Int):=by omega
  refine⟨_,_,rfl,rfl,hp,(c / 16 % ((cu zs names).length:Int)).toNat,?_,rfl⟩;have:=k8 (c / 16) (show ((cu zs names).length:Int)≠0 by omega);rw [show (((c / 16 % ((cu zs names).length:Int)).toNat:Nat):Int)=c / 16 % ((cu zs names).length:Int) by omega];rfl
 rintro _ H5 ⟨k,rfl,eH⟩;rw [eH];clear eH H5;refine⟨λσ H5=>∃(W:Addr),σ=[aG a,some (.int c),aG PL,aG OL,aG N,aG S,some (.int (k:Int)),aG W,none,none,none,none,none,none]/\aC H4 H5/\H5 W=some (.lst (((jV zs names).take 3++((cu zs names).drop k++(cu zs names).take k).take 2).map V.str)),?_,?_⟩
 .refine⟨_,rfl,_,rfl,PL,_,rfl,aD.of U2,λI hI=>?_⟩;rw [show dq (zs.map V.str) (some 4) none=(zs.drop 4).map V.str from tY zs 4];have t5:=ae hI (.lst ((zs.drop 4).map V.str));have f5:upd H4 I (.lst ((zs.drop 4).map V.str)) I=some (.lst ((zs.drop 4).map V.str)):=ab;generalize upd H4 I (.lst ((zs.drop 4).map V.str))=H5 at t5 f5;refine⟨I,rfl,⟨_,aD.of f5⟩,λD hD=>bq (xs:=(zs.drop 4).map V.str) (λi ys σ2 H6=>ys=(((zs.drop 4).take i).filter λz=>decide (z∉names)).map V.str/\(∃y0,σ2=[y0,aG N])/\aC H5 H6/\H6 D=some (.lst ys))
   ⟨rfl,⟨none,rfl⟩,ae hD _,ab⟩ (λi ys σ2 H6 _ h=>aD.of (h.2.2.1 _ _ f5)) (λi x ys σ2 H6 ex h=>?_) (λys σ2 H6 h=>?_)⟩
  .obtain⟨rfl,⟨y0,rfl⟩,sm,hd⟩:=h;rw [aZ] at ex;obtain⟨z,ez,rfl⟩:=b_.mp ex;have li:(((zs.drop 4).take i).filter λz=>decide (z∉names)).length<=10:=dI (jG _ _) (by rw [cX,fj];omega);refine goN ?_;refine⟨_,rfl,_,rfl,N,_,rfl,.inl (aD.of (sm _ _ (t5 _ _ U6))),rfl,oB _,_,rfl,?_⟩;rw [AQ];refine dA (λcc=>?_) (λcc=>?_)
   .refine⟨_,rfl,hd,bo (by rw [av];omega),?_,⟨_,rfl⟩,?_,ab⟩
    .rw [kn _ _ ez,az cc,aQ];rfl
    intro b o hb;rw [ai (λe=>by rw [e,hD] at hb;cases hb)];exact sm b o hb
   exact⟨by rw [kn _ _ ez,ay (by simpa using cc),fh],⟨_,rfl⟩,sm,hd⟩
  obtain⟨rfl,_,sm,hd⟩:=h;rw [av,dB] at hd;have t6:=t5.trans sm;have hd:H6 D=some (.lst ((jV zs names).map V.str)):=hd;refine⟨_,rfl,D,_,rfl,aD.of hd,λW1 hW1=>?_⟩;rw [show dq ((jV zs names).map V.str) none (some 3)=((jV zs names).take 3).map V.str from iY _ 3];have t7:=t6.trans (ae hW1 (.lst (((jV zs names).take 3).map V.str)));have f7:upd H6 W1 (.lst (((jV zs names).take 3).map V.str)) W1=some (.lst (((jV zs names).take 3).map V.str)):=ab;generalize upd H6 W1 (.lst (((jV zs names).take 3).map V.str))=H7 at t7 f7;refine⟨_,rfl,_,rfl,_,rfl,S,_,rfl,aD.of (t7 _ _ QI),λA1 XD=>?_⟩;rw [tY];have t8:=t7.trans (ae XD (.lst (((cu zs names).drop k).map V.str)));have f8:=ae XD (.lst (((cu zs names).drop k).map V.str)) _ _ f7;have g8:upd H7 A1 (.lst (((cu zs names).drop k).map V.str)) A1=some (.lst (((cu zs names).drop k).map V.str)):=ab;generalize upd H7 A1 (.lst (((cu zs names).drop k).map V.str))=H8 at t8 f8 g8;refine⟨_,rfl,_,rfl,_,rfl,S,_,rfl,aD.of (t8 _ _ QI),λA2 Us=>?_⟩;rw [iY];have t9:=t8.trans (ae Us (.lst (((cu zs names).take k).map V.str)));have f9:=ae Us (.lst (((cu zs names).take k).map V.str)) _ _ f8;have g9:=ae Us (.lst (((cu zs names).take k).map V.str)) _ _ g8;have XH:upd H8 A2 (.lst (((cu zs names).take k).map V.str)) A2=some (.lst (((cu zs names).take k).map V.str)):=ab;generalize upd H8 A2 (.lst (((cu zs names).take k).map V.str))=H9 at t9 f9 g9 XH;refine⟨A1,A2,_,_,rfl,rfl,g9,XH,fits (by rw [av,av,fj,cX];omega),λA3 XC=>?_⟩;rw [<-aQ];generalize (cu zs names).drop k++(cu zs names).take k=Tn;have vS:=t9.trans (ae XC (.lst (Tn.map V.str)));have Mm:=ae XC (.lst (Tn.map V.str)) _ _ f9;have XJ:upd H9 A3 (.lst (Tn.map V.str)) A3=some (.lst (Tn.map V.str)):=ab;generalize upd H9 A3 (.lst (Tn.map V.str))=pG at vS Mm XJ;refine⟨_,rfl,A3,_,rfl,aD.of XJ,λA4 XA=>?_⟩;rw [show dq (Tn.map V.str) none (some 2)=(Tn.take 2).map V.str from iY _ 2];have JD:=vS.trans (ae XA (.lst ((Tn.take 2).map V.str)));have X0:=ae XA (.lst ((Tn.take 2).map V.str)) _ _ Mm;have XI:upd pG A4 (.lst ((Tn.take 2).map V.str)) A4=some (.lst ((Tn.take 2).map V.str)):=ab;generalize upd pG A4 (.lst ((Tn.take 2).map V.str))=si at JD X0 XI;refine⟨W1,A4,_,_,rfl,rfl,X0,XI,fits (by rw [av,av,cX,cX];omega),λW hW=>?_⟩;rw [<-aQ];exact⟨W,rfl,JD.trans (ae hW _),ab⟩
 rintro _ H5 ⟨W,rfl,t5,QH⟩;have WO:=CU (a:=k) OB zF EN FX;generalize (jV zs names).take 3++((cu zs names).drop k++(cu zs names).take k).take 2=CV at QH WO;have s5:=s4.trans t5;have Yy:=t5 _ _ U2;have U5:=t5 _ _ U6;clear U2 U6 s4 t5 QI;obtain⟨w0,w1,w2,w3,w4,rfl,TH⟩:=WO.UA;refine⟨λσ H6=>∃(R:Addr)(rs:List Addr)(aa:List aB),σ=[aG a,some (.int c),aG PL,aG OL,aG N,aG S,some (.int (k:Int)),aG W,aG R,none,none,none,none,none]/\aC H5 H6/\H6 R=some (.lst (rs.map V.ref))/\aS K H6 rs aa/\Made names [w0,w1,w2,w3,w4] aa/\aa.length<=14/\∀ru∈aa,ru.2.length<=8,?_,?_⟩
 .obtain⟨cs,ec,_,ny⟩:=rB ns (some 2) (some 12);have aaq:cs.length<=10:=by
   have h1:=congrArg List.length ec;have h2:(dq (ns.map V.int) (some 2) (some 12)).length<=12 - 2:=xr (ns.map V.int) 2 12;rw [av] at h1;omega
  refine⟨_,rfl,_,_,rfl,rfl,⟨nofun,nofun⟩,_,rfl,_,rfl,_,rfl,_,rfl,_,rfl,a,_,rfl,s5.seq hS,λCs E2=>?_⟩;rw [ec];have t6:=ae E2 (.lst (cs.map V.int));have f6:upd H5 Cs (.lst (cs.map V.int)) Cs=some (.lst (cs.map V.int)):=ab;generalize upd H5 Cs (.lst (cs.map V.int))=H6 at t6 f6;exact⟨c / 4,N,W,Cs,names,[w0,w1,w2,w3,w4],cs,rfl,t6 _ _ U5,t6 _ _ QH,aD.of f6,rfl,AX,Ow,FX.nd zF,WO.dj,∅,λR rs aa H7 s7 eR rl M lr h8=>⟨R,rs,aa,rfl,t6.trans s7,eR,rl,M,∅,h8⟩⟩
 rintro _ H6 ⟨R,rs,aa,rfl,t6,Yv,Wk,M,lr,h8⟩;have s6:=s5.trans t6;have Yx:=t6 _ _ Yy;have YD:=t6 _ _ U5;have Yr:=t6 _ _ QH;clear Yy U5 s5 t6 QH;refine⟨λσ H7=>∃(D:Addr)(ds:List Int),σ=[aG a,some (.int c),aG PL,aG OL,aG N,aG S,some (.int (k:Int)),aG W,aG R,aG D,none,none,none,none]/\aC H6 H7/\H7 D=some (.lst (ds.map V.int))/\ds.length=48,⟨_,rfl,a,ns,1,rfl,s6.seq hS,∅,λc1=>⟨c1,48,rfl,nofun,λD ds H7 _ s7 e7 l7 _=>⟨D,ds,rfl,s7,e7,l7⟩⟩⟩,?_⟩;rintro _ H7 ⟨D,ds,rfl,t7,YI,aap⟩;have s7:=s6.trans t7;have Yw:=t7 _ _ Yx;have YC:=t7 _ _ YD;have O5:=t7 _ _ Yr;have Yu:=t7 _ _ Yv;have Wj:=Wk.same t7;clear Yx YD s6 t7 Yr Yv Wk;obtain⟨p9,h9⟩:∃p9,zs[9]?=some p9:=⟨zs[9]'∅,dw ∅⟩;have at9:ik (zs.map V.str) 9=some (.str p9):=bE (j:=9) (by rw [aZ,h9];rfl);have pw:∀z∈[w0,w1,w2,w3,w4],fR z:=λz hz=>(WO.part z hz).1;have ZV:fR p9:=(EN p9 (cv h9)).name.pt;have SO:=Gq (TH p9 h9) (pw w0 (by simp)) ZV (pw w3 (by simp)) (pw w1 (by simp)) (pw w4 (by simp));refine⟨λσ H8=>∃(S0:Addr)(ss:List Addr),σ=[aG a,some (.int c),aG PL,aG OL,aG N,aG S,some (.int (k:Int)),aG W,aG R,aG D,aG S0,none,none,none]/\aC H7 H8/\H8 S0=some (.lst (ss.map V.ref))/\aS K H8 ss (wk w0 p9 w3 w1 w4),?_,?_⟩
 .refine⟨_,rfl,W,_,_,_,rfl,rfl,aD.of O5,(show ik ([w0,w1,w2,w3,w4].map V.str) 0=some (.str w0) from rfl),_,rfl,PL,_,_,_,rfl,rfl,aD.of Yw,at9,lV,λq1 hq1=>⟨lV,λr1 W4=>?_⟩⟩;have t8:=(ae hq1 (.tup [.str w0,.str p9])).trans (ae W4 (.tup [.str "left",.ref q1]));have v1:kT K (upd (upd H7 q1 (.tup [.str w0,.str p9])) r1 (.tup [.str "left",.ref q1])) r1 ("left",[w0,p9]):=⟨q1,ba.of ab,(ae W4 _).tup (ba.of ab)⟩;refine⟨_,rfl,W,_,_,_,rfl,rfl,aD.of (t8 _ _ O5),(show ik ([w0,w1,w2,w3,w4].map V.str) 3=some (.str w3) from rfl),lV,λq2 Tt=>⟨lV,λr2 W3=>?_⟩⟩;have u9:=(ae Tt (.tup [.str w3,.str "x*"])).trans (ae W3 (.tup [.str "none",.ref q2]));have v2:=show kT K (upd (upd _ q2 (.tup [.str w3,.str "x*"])) r2 (.tup [.str "none",.ref q2])) r2 ("none",[w3,"x*"]) from ⟨q2,ba.of ab,(ae W3 _).tup (ba.of ab)⟩;have t9:=t8.trans u9;refine⟨_,rfl,W,_,_,_,rfl,rfl,aD.of (t9 _ _ O5),(show ik ([w0,w1,w2,w3,w4].map V.str) 1=some (.str w1) from rfl),_,rfl,W,_,_,_,rfl,rfl,aD.of (t9 _ _ O5),(show ik ([w0,w1,w2,w3,w4].map V.str) 4=some (.str w4) from rfl),lV,λq3 hq3=>⟨lV,λr3 WZ=>?_⟩⟩;have Q_:=(ae hq3 (.tup [.str w1,.str w4])).trans (ae WZ (.tup [.str "right",.ref q3]));have v3:=show kT K (upd (upd _ q3 (.tup [.str w1,.str w4])) r3 (.tup [.str "right",.ref q3])) r3 ("right",[w1,w4]) from ⟨q3,ba.of ab,(ae WZ _).tup (ba.of ab)⟩;have hh:aS K _ [r1,r2,r3] (wk w0 p9 w3 w1 w4):=.cons (AG v1 (u9.trans Q_)) (.cons (AG v2 Q_) (.cons v3 .nil));refine⟨Q2,λS0 IY=>⟨S0,[r1,r2,r3],rfl,(t9.trans Q_).trans (ae IY _),ab,hh.same (ae IY _)⟩⟩
 rintro _ H8 ⟨S0,ZC,rfl,t8,Ys,V9⟩;have s8:=s7.trans t8;have YB:=t8 _ _ YC;have Yt:=t8 _ _ Yu;have Vd:=t8 _ _ YI;have Wi:=Wj.same t8;clear Yw YC s7 t8 O5 Yu Wj YI;refine⟨λσ H9=>∃(S':Addr)(ss:List Addr)(dZ:List aB),σ=[aG a,some (.int c),aG PL,aG OL,aG N,aG S,some (.int (k:Int)),aG W,aG R,aG D,some (.ref S'),none,none,none]/\aC H8 H9/\H9 S'=some (.lst (ss.map V.ref))/\aS K H9 ss dZ/\(∀st∈dZ,xJ st)/\(dZ.flatMap (·.2)).Nodup/\dZ.length<=3,?_,?_⟩
 .obtain⟨d0,sh⟩:∃d,ds[0]?=some d:=⟨ds[0]'∅,dw ∅⟩;have lY:ik (ds.map V.int) 0=some (.int d0):=bE (j:=0) (by rw [aZ,sh];rfl);obtain⟨m,hm⟩:∃m:Nat,d0 % 4=(m:Int):=⟨(d0 % 4).toNat,∅⟩;refine⟨_,rfl,_,rfl,D,_,_,_,rfl,rfl,aD.of Vd,lY,_,_,rfl,rfl,(by show (0:Int) < 4;decide),_,rfl,S0,_,rfl,aD.of Ys,λS' IW=>?_⟩;rw [hm,tZ,<-nJ];obtain⟨a1,a2,a3⟩:=SO m;exact⟨S',ZC.take m,(wk w0 p9 w3 w1 w4).take m,rfl,ae IW _,ab,aS.same (tI V9 m) (ae IW _),a1,a2,a3⟩
 rintro _ H9 ⟨S',ss,dZ,rfl,t9,U0,Rt,Ob,Tc,aai⟩;have s9:=s8.trans t9;have YA:=t9 _ _ YB;have U1:=t9 _ _ Yt;have Vc:=t9 _ _ Vd;have RK:=Wi.same t9;clear YB s8 t9 Yt Wi Vd Ys V9;have pR:aa≠[]:=λz=>by
  obtain⟨n0,AX⟩:∃n0,names[0]?=some n0:=⟨names[0],dw _⟩;obtain⟨ps,e,_⟩:=M.first 0 n0 AX;rw [z] at e;cases e
 have TC:=FX.name EN;have RS:∀ru∈aa,∀p∈ru.2,fR p/\again p=false:=λru jj p hp=>(M.mem jj p hp).elim (λh=>⟨(TC p h).pt,(TC p h).ag⟩) (λh=>WO.part p h);have hdw:∀ru∈aa,rQ ru.1:=λru jj=>by
  obtain⟨i,hi,_⟩:=M.all ru jj;exact TC _ (cv hi)
 refine⟨λσ pG=>∃(L:Addr) (ts:List Str),σ=[aG a,some (.int c),aG PL,aG OL,aG N,aG S,some (.int (k:Int)),aG W,aG R,aG D,some (.ref S'),aG L,none,none]/\aC H9 pG/\pG L=some (.lst (ts.map V.str))/\ts≠[]/\ts.length<=80/\(ts.map (·.length)).sum<=20000/\(∀t∈ts,10∉sg t)/\cq [] [] (ts.map wordsOf) aa dZ,?_,?_⟩
 .refine⟨_,rfl,_,rfl,_,rfl,_,rfl,D,_,rfl,aD.of Vc,λD2 ic=>?_⟩;rw [show dq (ds.map V.int) (some 1) none=(ds.drop 1).map V.int by rw [jL];exact oI _ 1];have vS:=ae ic (.lst ((ds.drop 1).map V.int));have Mm:upd H9 D2 (.lst ((ds.drop 1).map V.int)) D2=some (.lst ((ds.drop 1).map V.int)):=ab;generalize upd H9 D2 (.lst ((ds.drop 1).map V.int))=pG at vS Mm;exact⟨R,S',D2,rs,ss,aa,dZ,ds.drop 1,rfl,aD.of (vS _ _ U1),RK.same vS,aD.of (vS _ _ U0),Rt.same vS,aD.of Mm,by rw [fj];omega,pR,∅,∅,λru jj=>⟨hdw ru jj,h8 ru jj,λp hp=>(RS ru jj p hp).1⟩,Ob,λL ts si DA CJ n11 l11 m11 Z5 Zf=>⟨L,ts,rfl,vS.trans DA,CJ,n11,l11,m11,Z5,Zf⟩⟩
 rintro _ pG ⟨L,ts,rfl,vS,eL,tn,tl,tm,Zm,tok⟩;have rY:=s9.trans vS;have eN:=vS _ _ YA;have eR:=vS _ _ U1;have eD:=vS _ _ Vc;have eS:=vS _ _ U0;have rl:=RK.same vS;have sl:=Rt.same vS;have hTb:=hT.same rY;clear YA U1 Vc U0 RK Rt s9 vS rY;obtain⟨n0,Ox⟩:∃n0,names[0]?=some n0:=⟨names[0],dw _⟩;obtain⟨ps0,zD,_⟩:=M.first 0 n0 Ox;have Pc:ik (names.map V.str) 0=some (.str n0):=bE (j:=0) (by rw [aZ,Ox];rfl);have Oc:∀ru∈dZ,ru.2.length<=8:=λru h=>(Ob ru h).le;refine⟨(2:Int),rfl,nofun,nofun,kj (n:=2) (λi σ si=>(∃Jp Q6:Option V,σ=[aG a,some (.int c),aG PL,aG OL,aG N,aG S,some (.int (k:Int)),aG W,aG R,aG D,some (.ref S'),aG L,Jp,Q6])/\Kp pG si/\vW T1 T2 T3 si) ⟨⟨none,none,rfl⟩,λ_ _ h _=>h,hTb⟩ ?_ ?_⟩
 .rintro i σ si hi ⟨⟨Jp,Q6,rfl⟩,IL,MR⟩;refine goN ?_;refine⟨λσ nE=>∃(Jp:Option V)(g bt:Addr)(mH Io:List Addr)(H0:Hp),σ=[aG a,some (.int c),aG PL,aG OL,aG N,aG S,some (.int (k:Int)),aG W,aG R,aG D,some (.ref S'),aG L,Jp,aG g]/\Kp pG nE/\vW T1 T2 T3 nE/\aS K nE mH aa/\aS K nE Io dZ/\MH H0 nE Cg g mH Io bt,?_,?_⟩
  .refine⟨_,rfl,_,rfl,_,rfl,D,_,rfl,aD.of (IL.lst eD),λD2 ic=>?_⟩;rw [show dq (ds.map V.int) (some 2) none=(ds.drop 2).map V.int by rw [jL];exact oI _ 2];have Nd:=ae ic (.lst ((ds.drop 2).map V.int));have XZ:upd si D2 (.lst ((ds.drop 2).map V.int)) D2=some (.lst ((ds.drop 2).map V.int)):=ab;generalize upd si D2 (.lst ((ds.drop 2).map V.int))=nE at Nd XZ;refine⟨_,rfl,D2,D,_,_,rfl,rfl,XZ,Nd _ _ (IL.lst eD),fits (by rw [av,av,fj];omega),λD3 F3=>?_⟩;rw [<-aQ];have sR:=Nd.trans (ae F3 (.lst ((ds.drop 2++ds).map V.int)));have XY:upd nE D3 (.lst ((ds.drop 2++ds).map V.int)) D3=some (.lst ((ds.drop 2++ds).map V.int)):=ab;generalize upd nE D3 (.lst ((ds.drop 2++ds).map V.int))=vX at sR XY;refine⟨L,D3,ts,ds.drop 2++ds,aa,dZ,rfl,aD.of (sR _ _ (IL.lst eL)),aD.of XY,by rw [bW,fj];omega,tn,∅,tm,Zm,tok,λz Zb wB lz tz=>?_⟩;have Nc:=sR.trans wB;have MQ:=MR.same Nc;refine⟨z,aa,dZ,_,_,rfl,lz,tz,∅,h8,pR,λru jj p hp=>⟨fits (dI (RS ru jj p hp).1.le nofun),(RS ru jj p hp).2⟩,∅,Oc,Tc,M.good,MQ,λg bt mH Io H0 H15 We s3 Rf RL Ru gv _=>?_⟩;have SI:=Kp.Z2 s3 (MQ.same We);exact⟨_,g,bt,mH,Io,H0,rfl,(IL.trans (Kp.of (Nc.trans We))).trans SI,Rf,SI.aa RL,SI.aa Ru,gv⟩
  rintro _ nE ⟨Jp,g,bt,mH,Io,H0,rfl,LU,Rg,JU,Rv,gv⟩;obtain⟨gx,fs,R1,S1,eg,lr1,ls1,lb1,WD,pC,es1,fr1,fr2⟩:=id gv;refine⟨λσ vX=>σ=[aG a,some (.int c),aG PL,aG OL,aG N,aG S,some (.int (k:Int)),aG W,aG R,aG D,some (.ref S'),aG L,Jp,aG g]/\aC nE vX,?_,?_⟩
  .refine⟨_,rfl,g,Cg,gx,fs,_,rfl,eg,G.cls,G.a1,lr1,_,rfl,R1,R,mH,rs,aa,rfl,aD.of pC,aD.of (LU.lst eR),JU,LU.aa rl,h8,λJ1 j1=>⟨true,rfl,?_⟩⟩;refine gI ?_;refine⟨_,rfl,g,Cg,gx,fs,_,rfl,j1 _ _ eg,G.cls,G.a2,ls1,_,rfl,S1,S',Io,ss,dZ,rfl,aD.of (j1 _ _ es1),aD.of (j1 _ _ (LU.lst eS)),Rv.same j1,(LU.aa sl).same j1,Oc,λJ2 j2=>⟨true,rfl,?_⟩⟩;refine gI ?_;exact⟨rfl,j1.trans j2⟩
  rintro _ vX ⟨rfl,Bv⟩;have OR:=(Kp.of Bv).Uw gv;have U8:=Bv _ _ (LU.lst eN);refine⟨_,rfl,g,gx,fs,rfl,Bv _ _ eg,WD,H0,g,bt,mH,Io,aa,_,rfl,OR,JU.same Bv,zD,?_⟩;refine⟨.str n0,"str","str",true,rfl,.str _,mS,true,rfl,?_⟩;refine gI ?_;refine⟨_,rfl,g,gx,fs,rfl,Bv _ _ eg,WD,H0,g,bt,mH,Io,aa,_,rfl,OR,JU.same Bv,zD,?_⟩;refine⟨_,rfl,N,_,_,_,rfl,rfl,aD.of U8,Pc,rfl,false,?_,?_⟩
  .rw [fO rfl];rfl
  refine gI ?_;exact⟨⟨_,_,rfl⟩,LU.trans (Kp.of Bv),Rg.same Bv⟩
 rintro σ si ⟨⟨Jp,Q6,rfl⟩,IL,MR⟩;exact q _
end
end gu
namespace L2
open PySem
def wc {C:List Value->Prop}(h:∀a,C [a]):∀us:List Value,us.length=1->C us
 | [a],_=>h a
def CG {C:List Value->Prop}(h:∀a b,C [a,b]):∀us:List Value,us.length=2->C us
 | [a,b],_=>h a b
def Ik {C:List Value->Prop}(h:∀a b c,C [a,b,c]):∀us:List Value,us.length=3->C us
 | [a,b,c],_=>h a b c
def VY {C:List Value->Prop}(h:∀a b c d,C [a,b,c,d]):∀us:List Value,us.length=4->C us
 | [a,b,c,d],_=>h a b c d
def eG (K:aY)(x:Str)(st:Stmt):Prop:=∃(g:Addr)(oc:Value)(od an:Option Addr)(sl:Array (Option Value))(kV dc pm cd ct:Value),PySem.W.nsIn K mainGlobals x=some (some (.ref g)) /\
 K.lookup g=some ⟨oc,od,.func (PySem.W.fnOf x x (du st) (cg st) (ax st) .none kV dc pm an cd ct),sl⟩/\PySem.W.codeIn K cd x=true/\PySem.W.keepIn K (.ref g)=true
def eG.get {K:aY}{h:Heap}{mg:Str->Option Value}{x:Str}{st:Stmt}(X:K.In h)(G:h.Ns mainGlobals mg)(H:eG K x st):∃g gd,ig K x x st g gd/\mg x=some (.ref g):=by
 obtain⟨g,oc,od,an,sl,kV,dc,pm,cd,ct,a,l,c,k⟩:=H;exact⟨g,_,E6 (st:=st) l c k,kA X G a⟩
def CD (K:aY)(x:Str)(st:Stmt)(T:Addr):Prop:=∃(g:Addr)(oc:Value)(od an:Option Addr)(sl:Array (Option Value))(kV dc pm:Value)(c:Addr)(ct:Value),PySem.W.nsIn K mainGlobals x=some (some (.ref g)) /\
 K.lookup g=some ⟨oc,od,.func (PySem.W.fnOf x x (du st) (cg st) (ax st) .none kV dc pm an (.ref c) ct),sl⟩/\PySem.W.codeIn K (.ref c) x=true/\PySem.W.codeHdIn K c T=true/\PySem.W.keepIn K (.ref g)=true
def CD.get {K:aY}{h:Heap}{mg:Str->Option Value}{x:Str}{st:Stmt}{T:Addr}(X:K.In h)(G:h.Ns mainGlobals mg)(H:CD K x st T):∃g gd,xM K x x st g gd T/\mg x=some (.ref g):=by
 obtain⟨g,oc,od,an,sl,kV,dc,pm,c,ct,a,l,d,e,k⟩:=H;exact⟨g,_,⟨⟨oc,od,kV,dc,pm,an,c,ct,sl,rfl,l,d,e⟩,k⟩,kA X G a⟩
def xM.binds {K:aY}{x qual:Str}{st:Stmt}{f T:Addr}{fd:FuncData}{ps:List Str}(F:xM K x qual st f fd T)
  (h:∀(kV doc pm:Value)(an:Option Addr)(eB ct:Value)(us:List Value),us.length=ps.length->bindArgs (PySem.W.fnOf x qual (du st) (cg st) (ax st) .none kV doc pm an eB ct) ⟨us,[]⟩=pure (ps.zip us)):Binds K fd ps []:=by
 obtain⟨oc,od,kV,doc,pm,an,c,ct,wK,rfl,lk,vF,_⟩:=F.ex;exact .all (h kV doc pm an (.ref c) ct)
def xK (K:aY)(C:Addr)(m qual:Str)(st:Stmt):Prop:=∃(g:Addr)(oc:Value)(od an:Option Addr)(sl:Array (Option Value))(kV dc pm cd ct:Value),PySem.W.findIn K (.ref C) m=some (some (.ref g)) /\
 K.lookup g=some ⟨oc,od,.func (PySem.W.fnOf m qual (du st) (cg st) (ax st) .none kV dc pm an cd ct),sl⟩/\PySem.W.codeIn K cd qual=true/\PySem.W.keepIn K (.ref g)=true/\PySem.W.isFn K (.ref g)=true
def xK.get {K:aY}{C:Addr}{m qual:Str}{st:Stmt}(H:xK K C m qual st):∃g gd,ig K m qual st g gd/\Meth K C m g:=by
 obtain⟨g,oc,od,an,sl,kV,dc,pm,cd,ct,a,l,c,k,i⟩:=H;exact⟨g,_,E6 (st:=st) l c k,⟨a,i,k⟩⟩
def eG.c {K:aY}{h:Heap}{mg:Str->Option Value}{x:Str}{st:Stmt}{P:Program}{w:World}{base:Heap}{k:Nat}{ps:List Str}{sp:Sp}(H:eG K x st)(X:K.In h)(G:h.Ns mainGlobals mg)
  (b:∀(kV doc pm:Value)(an:Option Addr)(eB ct:Value)(us:List Value),us.length=ps.length->bindArgs (PySem.W.fnOf x x (du st) (cg st) (ax st) .none kV doc pm an eB ct) ⟨us,[]⟩=pure (ps.zip us))
  (o:∀{f:Addr}{fd:FuncData},ig K x x st f fd->mg x=some (.ref f)->Binds K fd ps []->bS P w K mg base fu k f fd ps sp):aH P w K mg base k x ps sp:=by
 obtain⟨f,fd,F,m⟩:=H.get X G;have B:=F.binds b;exact⟨f,fd,o F m B,B,F.kp,m⟩
def hD {K:aY}{x:Str}{st:Stmt}(g c:Addr)(pm:Value)(h:(PySem.W.nsIn K mainGlobals x,K.lookup g,PySem.W.codeIn K (.ref c) x,PySem.W.keepIn K (.ref g))=(some (some (.ref g)),some ⟨.type "function",none,.func (PySem.W.fnOf x x (du st) (cg st) (ax st) .none .none .none pm none (.ref c) .none),#[]⟩,true,true)):eG K x st:=by
 simp only [qa] at h;exact⟨g,_,_,_,_,_,_,_,_,_,h.1,h.2.1,h.2.2.1,h.2.2.2⟩
def hC {K:aY}{x:Str}{st:Stmt}{T:Addr}(g c:Addr)(pm:Value)(h:(PySem.W.nsIn K mainGlobals x,K.lookup g,PySem.W.codeIn K (.ref c) x,PySem.W.codeHdIn K c T,PySem.W.keepIn K (.ref g))=(some (some (.ref g)),some ⟨.type "function",none,.func (PySem.W.fnOf x x (du st) (cg st) (ax st) .none .none .none pm none (.ref c) .none),#[]⟩,true,true,true)):CD K x st T:=by
 simp only [qa] at h;exact⟨g,_,_,_,_,_,_,_,c,_,h.1,h.2.1,h.2.2.1,h.2.2.2.1,h.2.2.2.2⟩
def Xu {K:aY}{a:Addr}{xs:List V}(aJ:Array Value)(h:K.lookup a=some ⟨.type "tuple",none,.seq aJ 0,#[]⟩)(hs:aJ.size<=sizeLine)(v:aT xs aJ.toList):∀H,ba K H a xs:=λ_=>.inr ⟨_,aJ,0,h,rfl,rfl,hs,v⟩
def hM {K:aY}{C:Addr}{m qual:Str}{st:Stmt}(g c:Addr)(pm:Value)(h:(PySem.W.findIn K (.ref C) m,K.lookup g,PySem.W.codeIn K (.ref c) qual,PySem.W.keepIn K (.ref g),PySem.W.isFn K (.ref g))=(some (some (.ref g)),some ⟨.type "function",none,.func (PySem.W.fnOf m qual (du st) (cg st) (ax st) .none .none .none pm none (.ref c) .none),#[]⟩,true,true,true)):xK K C m qual st:=by
 simp only [qa] at h;exact⟨g,_,_,_,_,_,_,_,_,_,h.1,h.2.1,h.2.2.1,h.2.2.2.1,h.2.2.2.2⟩
end L2
namespace gu
open PySem L2 M11
def LL (K:aY)(C:Addr)(m qual:Str)(st:Stmt):Prop:=∃(g:Addr)(oc:Value)(od an:Option Addr)(sl:Array (Option Value))(kV dc pm cd ct:Value)(T:Addr)(o:Obj) (n:Nat),PySem.W.findIn K (.ref C) m=some (some (.ref g)) /\
 K.lookup g=some ⟨oc,od,.func (PySem.W.fnOf m qual (du st) (cg st) (ax st) (.ref T) kV dc pm an cd ct),sl⟩/\PySem.W.codeIn K cd qual=true/\K.lookup T=some o/\o.data=.seq #[.none] n/\PySem.W.keepIn K (.ref g)=true/\PySem.W.isFn K (.ref g)=true
def LL.get {K:aY}{C:Addr}{m qual:Str}{st:Stmt}(H:LL K C m qual st):∃g gd,FI K m qual st g gd/\PySem.W.findIn K (.ref C) m=some (some (.ref g))/\PySem.W.isFn K (.ref g)=true:=by
 obtain⟨g,oc,od,an,sl,kV,dc,pm,cd,ct,T,o,n,a,l,c,t,d,k,i⟩:=H;exact⟨g,_,⟨⟨oc,od,kV,dc,pm,an,cd,ct,sl,T,o,n,rfl,l,c,t,d⟩,k⟩,a,i⟩
structure Top (K:aY)(C Cg C3 T1 T2 T3:Addr)(tm:Tok):Prop where
 nB:PySem.W.nsIn K mainGlobals "BeginTable"=some (some (.ref C))
 nG:PySem.W.nsIn K mainGlobals "Grammar"=some (some (.ref Cg))
 nL:PySem.W.nsIn K mainGlobals "LeastTrees"=some (some (.ref C3))
 nM:PySem.W.nsIn K mainGlobals "MOST_RULES"=some (some (.int 60 tm))
 Ge:PySem.W.nsIn K mainGlobals "sorted"=some none
 MI:PySem.W.nsIn K mainGlobals "zip"=some none
 h0:eG K "heads_of" yG
 h1:eG K "numbers_by_name" Dw
 h2:eG K "standings_by_part" JL
 h3:eG K "rule_size" n_
 h4:eG K "empty_by_name" qG
 h5:eG K "words_in" yx
 h6:eG K "found_empties" qH
 h7:eG K "first_places" u_
 h8:eG K "way_back" JK
 h9:eG K "steps_with_like_rows" yz
 XF:eG K "find_loop" Dx
 h11:eG K "refuse_twice" yy
 h12:eG K "names_met" JM
 h13:eG K "is_part" va
 h14:eG K "comes_again" yK
 Uv:eG K "read_rules" lC
 h16:eG K "read_row" qD
 h17:eG K "with_added_rules" yL
 h18:eG K "read_grammar" yC
 h19:eG K "_law_cell_at" Dz
 h20:eG K "_law_stream" u6
 h21:eG K "_law_pool" Dv
 h22:eG K "_law_digits" vd
 h23:eG K "_law_first" yH
 h24:eG K "_law_rule" Dt
 h25:eG K "_law_rules" yB
 h26:eG K "_law_tuples" u5
 h27:eG K "_law_noisy" yE
 h28:eG K "_law_rows" Du
 TL:eG K "law" JN
 Ti:eG K "settled_sizes" mD
 Tr:eG K "refuse_faults" u7
 hL:CD K "least_sizes" qE T1
 hG:CD K "greatest_empty_sizes" vb T2
 hLB:CD K "least_by_part" mE T3
 mL1:xK K C3 "__init__" "LeastTrees.__init__" yF
 mB1:xK K C "__init__" "BeginTable.__init__" yJ
 mB2:xK K C "find_begins" "BeginTable.find_begins" Dy
 mB3:xK K C "words_of_part" "BeginTable.words_of_part" yD
 mG1:LL K Cg "__init__" "Grammar.__init__" vc
 mG2:xK K Cg "start" "Grammar.start" yA
 ZU:PySem.W.plainGet K C Str.empty=true
 hdB:PySem.W.hasDictIn K C=true
 ZR:PySem.W.plainOver K C=true
 ZG:PySem.W.findIn K (.ref C) "__setattr__"=some (some (.builtin "object.__setattr__"))
 mkB:PySem.W.makesIn K C=true
 kpB:PySem.W.keepIn K (.ref C)=true
 ZT:PySem.W.plainGet K Cg Str.empty=true
 hdG:PySem.W.hasDictIn K Cg=true
 ZQ:PySem.W.plainOver K Cg=true
 ZF:PySem.W.findIn K (.ref Cg) "__setattr__"=some (some (.builtin "object.__setattr__"))
 mkG:PySem.W.makesIn K Cg=true
 kpG:PySem.W.keepIn K (.ref Cg)=true
 ZS:PySem.W.plainGet K C3 Str.empty=true
 hdL:PySem.W.hasDictIn K C3=true
 ZP:PySem.W.plainOver K C3=true
 ZE:PySem.W.findIn K (.ref C3) "__setattr__"=some (some (.builtin "object.__setattr__"))
 mkL:PySem.W.makesIn K C3=true
 kpL:PySem.W.keepIn K (.ref C3)=true
 z6:PySem.W.findIn K (.ref C) "empties"=some none
 Fs:PySem.W.findIn K (.ref C) "empty"=some none
 CA:PySem.W.findIn K (.ref C) "begins"=some none
 Cz:PySem.W.findIn K (.ref C) "firsts"=some none
 Fn:PySem.W.findIn K (.ref C3) "rules"=some none
 Fp:PySem.W.findIn K (.ref C3) "empty"=some none
 Fo:PySem.W.findIn K (.ref C3) "least"=some none
 Cy:PySem.W.findIn K (.ref C3) "hollow"=some none
 sL:PySem.W.findIn K (.ref C3) "beginnings"=some none
 Fq:PySem.W.findIn K (.ref Cg) "rules"=some none
 vQ:PySem.W.findIn K (.ref Cg) "strengths"=some none
 rN:PySem.W.findIn K (.ref Cg) "begin_table"=some none
 vR:PySem.W.findIn K (.ref Cg) "standings"=some none
 rM:PySem.W.findIn K (.ref Cg) "small_trees"=some none
 Q0:PySem.W.nsIn K mainGlobals "len"=some none
 Jo:PySem.W.nsIn K mainGlobals "range"=some none
 v9:PySem.W.nsIn K mainGlobals "isinstance"=some none
 Jm:PySem.W.nsIn K mainGlobals "tuple"=some none
 MJ:PySem.W.nsIn K mainGlobals "list"=some none
 MM:PySem.W.nsIn K mainGlobals "dict"=some none
 Q5:PySem.W.nsIn K mainGlobals "all"=some none
 Q4:PySem.W.nsIn K mainGlobals "any"=some none
 QX:PySem.W.nsIn K mainGlobals "str"=some none
 Q3:PySem.W.nsIn K mainGlobals "int"=some none
 MN:PySem.W.nsIn K mainGlobals "bool"=some none
 ye:PySem.W.nsIn K mainGlobals "enumerate"=some none
 QW:PySem.W.nsIn K mainGlobals "sum"=some none
 QZ:PySem.W.nsIn K mainGlobals "max"=some none
 QY:PySem.W.nsIn K mainGlobals "min"=some none
 nMS:∃t:Tok,PySem.W.nsIn K mainGlobals "MOST_SIGNS"=some (some (.int 14 t))
 Km:∃a:Addr,PySem.W.nsIn K mainGlobals "MARKS"=some (some (.ref a))/\∀H,ba K H a (BX.map V.str)
 NF:∃a:Addr,PySem.W.nsIn K mainGlobals "WAYS"=some (some (.ref a))/\∀H,ba K H a (ml.map V.str)
def all_mk {l:PySem.W.OpenLaw}{w:World}{K:aY}{h:Heap}{mg:Str->Option Value}{fa C Cg C3 T1 T2 T3:Addr}{tm:Tok}(X:K.In h)(G:h.Ns mainGlobals mg)(hfa:mg "law"=some (.ref fa))(tp:Top K C Cg C3 T1 T2 T3 tm) :
  ∃fd:FuncData,(∀(s:Shared)(v:Value),BindsTo s fd ⟨[v],[]⟩ [("_law_script",v)])/\∀base:Heap,K.In base->base.Ns mainGlobals mg->rV mg base->bS l.prog w K mg base fu 10 fa fd ["_law_script"] (Aw K T1 T2 T3):=by
 have T:Txt mg:=⟨gB X G tp.Q0,gB X G tp.Jo,gB X G tp.v9,gB X G tp.Jm,gB X G tp.MJ,gB X G tp.MM,gB X G tp.Q5,gB X G tp.Q4,gB X G tp.QX,gB X G tp.Q3,gB X G tp.MN,gB X G tp.ye,gB X G tp.QW,gB X G tp.QZ,gB X G tp.QY⟩;obtain⟨_,vq⟩:=tp.nMS;obtain⟨_,AR,AI⟩:=tp.Km;obtain⟨_,Kk,JZ⟩:=tp.NF;obtain⟨Ja,Jd,xN,IF⟩:=tp.Ti.get X G;have Jh:=xN.binds (ps:=["rules","sizes","better"]) λ_ _ _ _ _ _=>by exact Ik λ_ _ _=>rfl
 obtain⟨OV,O7,FJ,NI⟩:=tp.Tr.get X G;have Pb:=FJ.binds (ps:=["rules","strengths"]) λ_ _ _ _ _ _=>by exact CG λ_ _=>rfl
 obtain⟨f_L,d_L,VP,m_L⟩:=tp.hL.get X G;have b_L:=VP.binds (ps:=["rules"]) λ_ _ _ _ _ _=>by exact wc λ_=>rfl
 obtain⟨f_G,d_G,VQ,m_G⟩:=tp.hG.get X G;have b_G:=VQ.binds (ps:=["rules"]) λ_ _ _ _ _ _=>by exact wc λ_=>rfl
 obtain⟨UB,Vg,LM,Sj⟩:=tp.hLB.get X G;have Vt:=LM.binds (ps:=["rules"]) λ_ _ _ _ _ _=>by exact wc λ_=>rfl
 obtain⟨UE,aaD,PD,NK⟩:=tp.mB1.get;have Vy:=PD.binds (ps:=["self","rules"]) λ_ _ _ _ _ _=>by exact CG λ_ _=>rfl
 obtain⟨aaw,aaC,PB,Sn⟩:=tp.mB2.get;have Vx:=PB.binds (ps:=["self","number","rule"]) λ_ _ _ _ _ _=>by exact Ik λ_ _ _=>rfl
 obtain⟨aav,aaB,Pz,Sm⟩:=tp.mB3.get;have Vw:=Pz.binds (ps:=["self","part"]) λ_ _ _ _ _ _=>by exact CG λ_ _=>rfl
 obtain⟨UC,aay,Pw,NJ⟩:=tp.mL1.get;have Vu:=Pw.binds (ps:=["self","rules","begin_table"]) λ_ _ _ _ _ _=>by exact Ik λ_ _ _=>rfl
 obtain⟨aau,aaz,Px,Sk⟩:=tp.mG2.get;have Vv:=Px.binds (ps:=["self"]) λ_ _ _ _ _ _=>by exact wc λ_=>rfl
 obtain⟨UD,aaA,Py,Sl,SM⟩:=tp.mG1.get;have cB:BC K C:=⟨⟨tp.ZU,tp.hdB,tp.ZR,tp.ZG⟩,tp.z6,tp.Fs,tp.CA,tp.Cz⟩;have cG:GC K Cg:=⟨⟨tp.ZT,tp.hdG,tp.ZQ,tp.ZF⟩,tp.Fq,tp.vQ,tp.rN,tp.vR,tp.rM⟩;have cL:LC K C3:=⟨⟨tp.ZS,tp.hdL,tp.ZP,tp.ZE⟩,tp.Fn,tp.Fp,tp.Fo,tp.Cy,tp.sL⟩;have kL:Mk K C3 UC:=⟨tp.mkL,NJ.at_,NJ.fn,tp.kpL⟩;have kB:Mk K C UE:=⟨tp.mkB,NK.at_,NK.fn,tp.kpB⟩;have kG:Mk K Cg UD:=⟨tp.mkG,Sl,SM,tp.kpG⟩;obtain⟨f9,d9,F9,m9⟩:=tp.TL.get X G;have e:=hfa.symm.trans m9;cases e;obtain⟨oc,od,kV,doc,pm,an,eB,ct,wK,eL,lk,vF⟩:=F9.ex;refine⟨d9,λs v=>?_,λbase _ _ OP=>?_⟩
 .rw [eL];exact .of_eq rfl
 have c0:=tp.h0.c (P:=l.prog) (w:=w) (base:=base) X G (λ_ _ _ _ _ _=>by exact wc λ_=>rfl) λF m B=>Ef F T;have c1:=tp.h1.c (P:=l.prog) (w:=w) (base:=base) X G (λ_ _ _ _ _ _=>by exact wc λ_=>rfl) λF m B=>Hi F T c0;have c2:=tp.h2.c (P:=l.prog) (w:=w) (base:=base) X G (λ_ _ _ _ _ _=>by exact wc λ_=>rfl) λF m B=>Ke F T;have c3:=tp.h3.c (P:=l.prog) (w:=w) (base:=base) X G (λ_ _ _ _ _ _=>by exact CG λ_ _=>rfl) λF m B=>wM F T;have c4:=tp.h4.c (P:=l.prog) (w:=w) (base:=base) X G (λ_ _ _ _ _ _=>by exact CG λ_ _=>rfl) λF m B=>zf F T;have c5:=tp.h5.c (P:=l.prog) (w:=w) (base:=base) X G (λ_ _ _ _ _ _=>by exact wc λ_=>rfl) λF m B=>DW F T;have c6:=tp.h6.c (P:=l.prog) (w:=w) (base:=base) X G (λ_ _ _ _ _ _=>by exact wc λ_=>rfl) λF m B=>zg F T;have c7:=tp.h7.c (P:=l.prog) (w:=w) (base:=base) X G (λ_ _ _ _ _ _=>by exact CG λ_ _=>rfl) λF m B=>BI F T;have c8:=tp.h8.c (P:=l.prog) (w:=w) (base:=base) X G (λ_ _ _ _ _ _=>by exact Ik λ_ _ _=>rfl) λF m B=>Kd F T;have c9:=tp.h9.c (P:=l.prog) (w:=w) (base:=base) X G (λ_ _ _ _ _ _=>by exact wc λ_=>rfl) λF m B=>DZ F T c6 c0;have c10:=tp.XF.c (P:=l.prog) (w:=w) (base:=base) X G (λ_ _ _ _ _ _=>by exact wc λ_=>rfl) λF m B=>Hj F T c9 c8;have c11:=tp.h11.c (P:=l.prog) (w:=w) (base:=base) X G (λ_ _ _ _ _ _=>by exact wc λ_=>rfl) λF m B=>DX F T;have c12:=tp.h12.c (P:=l.prog) (w:=w) (base:=base) X G (λ_ _ _ _ _ _=>by exact wc λ_=>rfl) λF m B=>Kf F T;have HR:=tp.h13.c (P:=l.prog) (w:=w) (base:=base) X G (λ_ _ _ _ _ _=>by exact wc λ_=>rfl) λF m B=>BJ F T (kA X G vq) (kA X G AR) AI;have YV:=tp.h14.c (P:=l.prog) (w:=w) (base:=base) X G (λ_ _ _ _ _ _=>by exact wc λ_=>rfl) λF m B=>Ek F T (kA X G AR) AI;have Vo:=tp.Uv.c (P:=l.prog) (w:=w) (base:=base) X G (λ_ _ _ _ _ _=>by exact Ik λ_ _ _=>rfl) λF m B=>vk F T (HR.mono nofun);have c16:=tp.h16.c (P:=l.prog) (w:=w) (base:=base) X G (λ_ _ _ _ _ _=>by exact Ik λ_ _ _=>rfl) λF m B=>zd F T (kA X G Kk) JZ (HR.mono nofun) (YV.mono nofun) (Vo.mono nofun);have c17:=tp.h17.c (P:=l.prog) (w:=w) (base:=base) X G (λ_ _ _ _ _ _=>by exact wc λ_=>rfl) λF m B=>El F T (YV.mono nofun);have c19:=tp.h19.c (P:=l.prog) (w:=w) (base:=base) X G (λ_ _ _ _ _ _=>by exact CG λ_ _=>rfl) λF m B=>Hl F T;have QO:=tp.h20.c (P:=l.prog) (w:=w) (base:=base) X G (λ_ _ _ _ _ _=>by exact CG λ_ _=>rfl) λF m B=>BG F T;have c21:=tp.h21.c (P:=l.prog) (w:=w) (base:=base) X G (λ_ _ _ _ _ _=>by exact CG λ_ _=>rfl) λF m B=>Hh F T (QO.mono nofun);have c22:=tp.h22.c (P:=l.prog) (w:=w) (base:=base) X G (λ_ _ _ _ _ _=>by exact CG λ_ _=>rfl) λF m B=>BK F T (QO.mono nofun);have c23:=tp.h23.c (P:=l.prog) (w:=w) (base:=base) X G (λ_ _ _ _ _ _=>by exact VY λ_ _ _ _=>rfl) λF m B=>Ei F T;have c24:=tp.h24.c (P:=l.prog) (w:=w) (base:=base) X G (λ_ _ _ _ _ _=>by exact Ik λ_ _ _=>rfl) λF m B=>Hf F T;have c25:=tp.h25.c (P:=l.prog) (w:=w) (base:=base) X G (λ_ _ _ _ _ _=>by exact VY λ_ _ _ _=>rfl) λF m B=>D_ F T (QO.mono nofun) (c23.mono nofun) (c24.mono nofun) (c22.mono nofun);have c26:=tp.h26.c (P:=l.prog) (w:=w) (base:=base) X G (λ_ _ _ _ _ _=>by exact CG λ_ _=>rfl) λF m B=>BE F T;have c27:=tp.h27.c (P:=l.prog) (w:=w) (base:=base) X G (λ_ _ _ _ _ _=>by exact CG λ_ _=>rfl) λF m B=>Ec F T (gB X G tp.MI);have c28:=tp.h28.c (P:=l.prog) (w:=w) (base:=base) X G (λ_ _ _ _ _ _=>by exact Ik λ_ _ _=>rfl) λF m B=>Hg F T (gB X G tp.MI);have Vl:aH l.prog w K mg base 2 "settled_sizes" ["rules","sizes","better"] (g_ K xR qQ.1 qQ.2.1 qQ.2.2.1 M11.bl):=⟨Ja,Jd,y_ xN T,Jh,xN.kp,IF⟩;have Vm:aH l.prog w K mg base 2 "settled_sizes" ["rules","sizes","better"] (g_ K IG zr.1 zr.2.1 zr.2.2.1 M11.bg):=⟨Ja,Jd,zc xN T,Jh,xN.kp,IF⟩;have YU:aH l.prog w K mg base 3 "least_sizes" ["rules"] (pJ K T1):=⟨f_L,d_L,Ee VP T OP c5 Vl,b_L,VP.kp,m_L⟩;have c_G:aH l.prog w K mg base 3 "greatest_empty_sizes" ["rules"] (uT K T2):=⟨f_G,d_G,Eg VQ OP Vm,b_G,VQ.kp,m_G⟩;have O_:aH l.prog w K mg base 4 "refuse_faults" ["rules","strengths"] (qA K T1 T2):=⟨OV,O7,BH FJ T (kA X G tp.nM) c11 YU c0 c12 c10 c_G,Pb,FJ.kp,NI⟩;have Vn:aH l.prog w K mg base 4 "least_by_part" ["rules"] (n5 K T1 T3):=⟨UB,Vg,ze LM T OP (gB X G tp.Ge) (c0.mono nofun) YU (c1.mono nofun) (c3.mono nofun),Vt,LM.kp,Sj⟩;have RY:=Eb (P:=l.prog) (w:=w) (base:=base) Pz T cB;have RZ:=Hk PB T cB c7 RY Sm Vw;have R0:=Ej PD T cB c6 c0 RZ Sn Vx;have RV:=Ed Pw T cB cL Vn (c4.mono nofun);have RX:=Eh Py T cG (O_.mono nofun) (c2.mono nofun) (R0.mono nofun) kB Vy (kA X G tp.nB) RV kL Vu (kA X G tp.nL);have c18:=tp.h18.c (P:=l.prog) (w:=w) (base:=base) X G (λ_ _ _ _ _ _=>by exact wc λ_=>rfl) λF m B=>Ea F T (c16.mono nofun) (c17.mono nofun) kG (RX.mono nofun) (E3 Py) (kA X G tp.nG);have RW:=D0 (P:=l.prog) (w:=w) (mg:=mg) (base:=base) Px cG;exact Kg F9 T (c19.mono nofun) (c21.mono nofun) (QO.mono nofun) (c25.mono nofun) (c28.mono nofun) (c27.mono nofun) (c18.mono nofun) (c26.mono nofun) cG Sk (RW.mono nofun) Vv
def walk {l:PySem.W.OpenLaw}{q:Program}{loose:List Str}{XP:(Str->Option Value)->Heap->Prop}{YP:World->Heap->Prop}{d:DefRec}{K:Params->aY}(T1 T2 T3 c1 c2 c3:Addr)(ID:T1≠T2)(IC:T1≠T3)(IB:T2≠T3)(hn:l.most=some 63)(KZ:d.params.defaults=[])
  (hY:∀(w:World)(h:Heap),YP w h->(K w.params).In h/\∀T∈[T3,T2,T1],h.get? T=some (PySem.W.tabObj #[]))
  (hK1:∀w:World,(K w.params).lookup T1=none)(hK2:∀w:World,(K w.params).lookup T2=none)(hK3:∀w:World,(K w.params).lookup T3=none)(hC1:∀w:World,PySem.W.codeHdIn (K w.params) c1 T1=true)(hC2:∀w:World,PySem.W.codeHdIn (K w.params) c2 T2=true)(hC3:∀w:World,PySem.W.codeHdIn (K w.params) c3 T3=true)
  (F:∀(w:World)(mg:Str->Option Value)(fa:Addr)(h:Heap),(K w.params).In h->h.Ns mainGlobals mg->mg d.name=some (.ref fa) ->
   ∃fd:FuncData,(∀(s:Shared)(u:Value),BindsTo s fd ⟨[u],[]⟩ [("_law_script",u)])/\∀base:Heap,(K w.params).In base->base.Ns mainGlobals mg->rV mg base->bS l.prog w (K w.params) mg base fu 10 fa fd ["_law_script"] (Aw (K w.params) T1 T2 T3)) :
  PySem.W.WalkO q loose XP YP l.row.toRowW d [] (λf vs=>PySem.call f vs) :=
 L2.C1 (n:=63) (k:=10) (x := "_law_script") (CX:=λ_=>fu) (sp:=λw=>Aw (K w.params) T1 T2 T3) hn nofun KZ ⟨rfl,nofun,nofun⟩ hY (λw T hT=>by
  rcases aW.mp hT with e | hT
  .subst e;exact⟨hK3 w,c3,hC3 w⟩
  rcases aW.mp hT with e | hT
  .subst e;exact⟨hK2 w,c2,hC2 w⟩
  rw [bH.mp hT];exact⟨hK1 w,c1,hC1 w⟩) F (λ_ H a ns hl _ hT hS=>⟨a,ns,rfl,hS,hl,⟨⟨#[],hT T1 (by simp),by trivial,.inl rfl⟩,⟨#[],hT T2 (by simp),by trivial,.inl rfl⟩,⟨#[],hT T3 (by simp),by trivial,.inl rfl⟩,ID,IC,IB⟩,λ_=>rfl⟩) λ_ _ _ _ _ z=>z
end gu
set_option maxHeartbeats 0
end
namespace HD
open PySem PySem.W L2
def Rb (P:Params):gu.Top (K P) 244 386 357 267 272 301 559:=⟨nofun,nofun,nofun,nofun,nofun,nofun,
 hD 165 164 HD.m2 (nofun),
 hD 175 174 HD.m2 (nofun),
 hD 182 181 HD.m2 (nofun),
 hD 309 308 HD.m7 (nofun),
 hD 314 313 HD.m7 (nofun),
 hD 170 169 HD.m2 (nofun),
 hD 187 186 HD.m3 (nofun),
 hD 194 193 HD.m3 (nofun),
 hD 265 264 HD.m4 (nofun),
 hD 258 257 HD.m4 (nofun),
 hD 253 252 HD.m4 (nofun),
 hD 294 293 HD.m6 (nofun),
 hD 299 298 HD.m6 (nofun),
 hD 414 413 HD.m9 (nofun),
 hD 421 420 HD.m9 (nofun),
 hD 407 406 HD.m9 (nofun),
 hD 402 401 HD.m9 (nofun),
 hD 428 427 HD.m9 (nofun),
 hD 397 396 HD.m9 (nofun),
 hD 442 441 HD.r9 (nofun),
 hD 449 448 HD.r9 (nofun),
 hD 454 453 HD.r9 (nofun),
 hD 461 460 HD.r9 (nofun),
 hD 466 465 HD.r9 (nofun),
 hD 471 470 HD.r9 (nofun),
 hD 476 475 HD.r9 (nofun),
 hD 495 494 HD.r9 (nofun),
 hD 488 487 HD.r9 (nofun),
 hD 481 480 HD.r9 (nofun),
 hD 500 499 HD.r9 (nofun),
 hD 282 281 HD.m5 (nofun),
 hD 287 286 HD.m6 (nofun),
 hC 270 269 HD.m5 (nofun),
 hC 277 276 HD.m5 (nofun),
 hC 304 303 HD.m7 (nofun),
 hM 326 325 HD.m7 (nofun),
 hM 206 205 HD.m3 (nofun),
 hM 213 212 HD.m3 (nofun),
 hM 220 219 HD.m3 (nofun),
 ⟨376,.type "function",none,none,#[],.none,.none,.str "wright.grammars" 670,.ref 375,.none,369,⟨.type "tuple",none,.seq #[.none] 0,#[]⟩,0,nofun,nofun,nofun,nofun,rfl,nofun,nofun⟩,
 hM 383 382 HD.m8 (nofun),nofun,nofun,nofun,nofun,nofun,nofun,nofun,nofun,nofun,nofun,nofun,nofun,nofun,nofun,nofun,nofun,nofun,nofun,nofun,nofun,nofun,nofun,nofun,nofun,nofun,nofun,nofun,nofun,nofun,nofun,nofun,nofun,nofun,nofun,nofun,nofun,nofun,nofun,nofun,nofun,nofun,nofun,nofun,nofun,nofun,nofun,nofun,
 ⟨723,nofun⟩,
 ⟨392,nofun,Xu #[.str "*" 719,.str "+" 720,.str "?" 721] (nofun) nofun (.cons ⟨_,rfl⟩ (.cons ⟨_,rfl⟩ (.cons ⟨_,rfl⟩ (.nil))))⟩,
 ⟨391,nofun,Xu #[.str "left" 715,.str "right" 716,.str "none" 717] (nofun) nofun (.cons ⟨_,rfl⟩ (.cons ⟨_,rfl⟩ (.cons ⟨_,rfl⟩ (.nil))))⟩⟩
end HD
theorem PySem.Challenge.cw_wright_k15_grammars_read_holds : PySem.Challenge.rw_wright_k15_grammars_read.Holds := by
 refine HD.hold ?_ ?hw
 case hw=>w_witness2
 refine gu.walk (l:=PySem.Challenge.rw_wright_k15_grammars_read) (K:=HD.K) 267 272 301 269 276 303 nofun nofun nofun rfl HD.ZX (λw h Y=>⟨PySem.W.km_in_of Y,PySem.W.km_tabs_of Y⟩) (λw=>by kernel_rfl) (λw=>by kernel_rfl) (λw=>by kernel_rfl) (λw=>by kernel_rfl) (λw=>by kernel_rfl) (λw=>by kernel_rfl) ?F;intro w mg fa h KX G KQ;exact gu.all_mk KX G KQ (HD.Rb w.params)
