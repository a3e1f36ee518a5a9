import PyProof.Rows.All
import Wide.All
import OpenK.AllK
import Wide.FinOn
import Lean
import PyProof.EqAt
import PyProof.EqKinds
import PyProof.TupleCall
import KE.KNestM
import PyProof.IsiH_list
import PyProof.RaisesAny
import KE.KDictOf
import PyProof.CollectWalk
import PyProof.CompFree
import KE.KDictList
import PyProof.NeKinds
import PyProof.ConsumeWalk
import PyProof.StrBlockI
import PyProof.EnumFor
import PyProof.TupleIter
import PyProof.EnumMake
import KE.KLam
import PyProof.DictUpdate
import PyProof.SeqI3
import PyProof.DictWalks
import PyProof.ConsumeS
import PyProof.Rows.CallKwBuiltin
import KE.KDictLaws
import PyProof.AutoListH
import PyProof.ZipIter
import PyProof.ListNew
import KE.KRevSl
import PyProof.StrOps
import PyProof.StrOps2
import KE.KSortKey
import PySem.Challenge.RW_wright_k68_deeds_of_no_tree
set_option Elab.async false
set_option linter.all false
set_option maxRecDepth 100000
local macro_rules | `(tactic| omega) => `(tactic| first | lia | omega (config := {}))
local macro_rules | `(∅) => `(by omega)
def bC:=@Or.inl
abbrev ba:=PySem.W.Frag
def rq:0<=PySem.sizeLine:=by decide
def qg:1<=PySem.sizeLine:=by decide
def iP:2<=PySem.sizeLine:=by decide
def IE:3<=PySem.sizeLine:=by decide
def zl4:4<=PySem.sizeLine:=by decide
def zl5:5<=PySem.sizeLine:=by decide
def au.{u,v}:=@List.length_map.{u,v}
def bu.{u}:=@List.getElem?_eq_some_iff.{u}
def a9.{u}:=@List.length_append.{u}
def bz.{u,v}:=@List.getElem?_map.{u,v}
def cu:=@PySem.Heap.get?_push_of_some
def b9.{u}:=@List.mem_of_getElem?.{u}
def aE:=@PySem.wpAny_bind
def cC.{u,v}:=@Option.map_eq_some_iff.{u,v}
def bG.{u,v}:=@List.map_append.{u,v}
def dG.{u}:=@List.getElem?_eq_getElem.{u}
def bF.{u}:=@List.mem_singleton.{u}
def aF:=@Nat.le_refl
def aU:=@PySem.Paired.length
def bh:=@decide_eq_true
def bX.{u}:=@List.size_toArray.{u}
def bO.{u}:=@List.length_take.{u}
def aP:=@PySem.wpAny_pure
def bQ.{u}:=@List.mem_append.{u}
def cH.{u}:=@List.mem_cons_self.{u}
def b0:=@decide_eq_false
def dA.{u}:=@List.mem_cons_of_mem.{u}
def cg:=@PySem.PassesOwn.never
def cP.{u}:=@List.take_add_one.{u}
def cE.{u}:=@List.take_length.{u}
def bW.{u}:=@List.mem_cons.{u}
def cZ:=@of_decide_eq_true
def bN:=@PySem.Heap.lt_size
def dZ:=@PySem.Heap.get?_push_size
def fQ.{u}:=@List.mem_append_right.{u}
def ax.{u}:=@if_pos.{u}
def gF:=@PySem.F.plainAttrs_list
def ay.{u}:=@if_neg.{u}
def eF:=@Bool.false_ne_true
def gX:=@PySem.F.type_list_append
def gW:=@PySem.F.slot_list_append
def cv:=@Nat.ne_of_lt
def gw.{u}:=@List.length_singleton.{u}
def cY:=@PySem.boot_len
def cO.{u,v}:=@List.map_cons.{u,v}
def dY.{u}:=@List.length_cons.{u}
def gE:=@Bool.and_eq_true_iff
def ff.{u}:=@List.length_drop.{u}
def cX.{u,v}:=@List.mem_map.{u,v}
def h_.{u}:=@List.mem_append_left.{u}
def gL:=@Nat.lt_of_lt_of_le
def iH.{u}:=@List.getElem?_of_mem.{u}
def kF:=@PyProof.Rows.boot_isinstance
def gK.{u}:=@List.all_eq_true.{u}
def dX:=@Nat.le_trans
def iG:=@PySem.W.mg_none_of
def mZ:=@PyProof.Rows.slot_tuple_getitem
def i6.{u}:=@List.mem_of_mem_take.{u}
def dW:=@Nat.zero_le
def i5.{u,v}:=@List.flatMap_append.{u,v}
def dJ:=@PySem.wpAny_mono
def ir.{u}:=@Option.some.inj.{u}
def lX.{u}:=@Option.isSome_iff_exists.{u}
def mY.{u}:=@List.getElem?_append_right.{u}
def pT.{u}:=@List.take_append_of_le_length.{u}
def j8.{u,v}:=@List.mem_map_of_mem.{u,v}
def iR.{u}:=@List.append_nil.{u}
def jq:=@PySem.wpAny_newObj_type
def kC.{u}:=@beq_eq_false_iff_ne.{u}
def mX:=@PyProof.Rows.boot_tuple
def j7.{u}:=@List.nodup_append.{u}
def pS.{u}:=@List.getElem?_append_left.{u}
def mW.{u}:=@List.take_of_length_le.{u}
def jo.{u}:=@List.length_nil.{u}
def kx:=@Int.toNat_natCast
def mV.{u}:=@List.mem_of_mem_drop.{u}
def ku:=@PySem.wpAny_truthy_bool
def hZ:=@PySem.Paired.snoc
def pR.{u}:=@List.take_append_drop.{u}
def lW.{u}:=@List.append_assoc.{u}
def jn:=@Bool.true_and
def iF:=@PySem.wpAny_field
def qO:=@PySem.wpAny_callSpecial?_slot
def mU.{u,v}:=@List.flatMap_cons.{u,v}
def kr.{u}:=@List.nodup_nil.{u}
def lV.{u}:=@List.mem_filter.{u}
def jm.{u,v,w}:=@List.map_map.{u,v,w}
def qN.{u}:=@List.mem_iff_getElem.{u}
def j6:=@Int.zero_add
def mT.{u}:=@List.nodup_cons.{u}
def qM.{u}:=@List.length_reverse.{u}
def mS:=@Bool.eq_iff_iff
def xo.{u}:=@List.getD_eq_getElem?_getD.{u}
def pQ:=@Nat.lt_succ_self
def pP:=@Bool.and_eq_true
def ua.{u}:=@List.dropLast_concat.{u}
def qL:=@PySem.wpAny_Call_Name_kw
def qK.{u}:=@List.reverse_cons.{u}
def pO.{u}:=@List.nil_append.{u}
def xn.{u}:=@List.getElem?_take_of_lt.{u}
def lU:=@Nat.ne_of_gt
def mR.{u,v}:=@List.map_take.{u,v}
def xm.{u}:=@List.getLast?_singleton.{u}
def pN:=@List.mem_range
def lS:=@PySem.wpAny_typeOf
def t_.{u,v}:=@List.map_singleton.{u,v}
def oX.{u}:=@List.filter_append.{u}
def jM:=@PySem.wpAny_holding
def mr:=@PySem.wpAny_call_entry
def vC:=@PyProof.Rows.callWith_type1
def jL:=@Nat.sub_zero
def mq:=@Nat.min_eq_left
def rp.{u}:=@List.length_filter_le.{u}
def mn:=@PySem.Around.in1_units
def oW.{u,v}:=@Option.isSome_map.{u,v}
def kK:=@Nat.lt_irrefl
def kJ.{u}:=@List.sum_cons.{u}
def ro:=@PySem.Calls.callWith_builtin
def oV:=@PySem.tupleKind_room_in1
def oU:=@PySem.Calls.spliced_cons
def rm.{u}:=@List.getLast?_append.{u}
def ml:=@PySem.wpAny_passesOwn
def mj.{u}:=@List.drop_zero.{u}
def oT.{u}:=@beq_self_eq_true.{u}
def oS.{u,v}:=@List.getElem_map.{u,v}
def oR.{u}:=@List.drop_length.{u}
def oQ:=@PySem.wpAny_pyIter_list
def rj:=@PySem.mem_of_lookup
def rh.{u,v}:=@List.filterMap_cons.{u,v}
def rg.{u}:=@Array.length_toList.{u}
def kI:=@Nat.le_of_lt
def vB:=@PySem.F.slot_tuple_iterator_next
def rf:=@PySem.Around.under_plainId
def gB.{u}:=@Ne.symm.{u}
def q_:=@Nat.lt_of_le_of_lt
def q9.{u}:=@List.getElem?_drop.{u}
def oP.{u}:=@List.find?_cons.{u}
def vy:=@PySem.F.slot_list_getattribute
def q8:=@Bool.eq_false_iff
def oO.{u}:=@List.take_zero.{u}
def oN:=@Bool.and_false
def qZ:=@PySem.wpAny_setField_rec
def vx:=@PySem.wpAny_loadPart'
def mi:=@Nat.lt_trans
def mh.{u,v}:=@List.map_nil.{u,v}
def vw.{u}:=@List.getElem?_reverse.{u}
def vv.{u}:=@List.getElem?_eq_none.{u}
def qY:=@Nat.min_eq_right
def qX.{u,v}:=@List.mem_flatMap.{u,v}
def qW.{u}:=@List.getElem_mem.{u}
def oM:=@PySem.W.mg_of
def oK.{u,v}:=@List.map_drop.{u,v}
def oJ:=@PySem.Heap.size_push
def vq:=@PySem.wpAny_pyNext_list_end
def mf.{u,v}:=@Sum.inr.inj.{u,v}
def qV.{u,v}:=@Option.map_some.{u,v}
def me:=@Nat.le_succ
def qU:=@Int.emod_nonneg
def vp:=@PySem.F.slot_enumerate_next
def vm.{u}:=@Array.toList_append.{u}
def vk:=@PySem.wpAny_loadName_local
def oI:=@Nat.zero_add
def vj:=@Int.emod_lt_of_pos
def vi:=@PySem.Calls.evalArgs_plain
def oH:=@PySem.plainId_quiet
def qT:=@Bool.false_and
def qS:=@PySem.codeAny_builtin
def zo:=@PySem.F.slot_dict_update
def zk:=@PySem.F.args_tuple_add_2
def vh:=@Nat.lt_succ_of_lt
def vf:=@List.length_range
def ve.{u,v}:=@List.foldl_append.{u,v}
def zj:=@PySem.F.plainAttrs_dict
def zi:=@PySem.F.entry_tuple_add
def qR.{u,v}:=@Prod.mk.injEq.{u,v}
def zh.{u}:=@List.length_eq_zero_iff.{u}
def qQ.{u}:=@List.any_cons.{u}
def oG:=@Int.le_refl
def vc:=@PySem.wpAny_pyIter_tuple
def oF:=@PySem.codeAny_mono
def vb.{u}:=@List.getElem_inj.{u}
def u_.{u}:=@List.filter_cons.{u}
def qP:=@PySem.wpAny_seqItems
def zg:=@PySem.F.slot_tuple_add
def zf.{u,v}:=@List.flatMap_singleton.{u,v}
def ze.{u}:=@List.drop_eq_nil_of_le.{u}
namespace L2
open PySem PySem.Spec PyProof.Rows
abbrev aR:=Sum Int Str
def rZ:aR->Value->Bool
 | .inl k,v=>Value.isInt k v
 | .inr x,v=>Value.isStrOf x v
def Vg (w:World):aR->Int
 | .inl k=>hashInt k
 | .inr x=>hashStr w x
def dD:∀{k:aR}{v:Value},rZ k v=true->(∃i t,k=Sum.inl i/\v=Value.int i t)\/(∃x t,k=Sum.inr x/\v=Value.str x t)
 | .inl i,v,h=>by
  obtain⟨t,e⟩:=Value.isInt_shape (k:=i) (v:=v) h;exact .inl ⟨i,t,rfl,e⟩
 | .inr x,v,h=>by
  obtain⟨t,e⟩:=Value.isStrOf_shape (x:=x) (v:=v) h;exact .inr ⟨x,t,rfl,e⟩
def C4 (i:Int)(t:Tok):rZ (.inl i) (.int i t)=true:=by simp [rZ,Value.isInt]
def C0 (x:Str)(t:Tok):rZ (.inr x) (.str x t)=true:=by simp [rZ,Value.isStrOf]
def MN (a b:Int):decide ((Sum.inl a:aR)=Sum.inl b)=(a == b):=by
 by_cases e:a=b
 .subst e;simp
 have h:¬(Sum.inl a:aR)=Sum.inl b:=λq=>e (Sum.inl.inj q);rw [b0 h];exact(kC.mpr e).symm
def MJ (a b:Str):decide ((Sum.inr a:aR)=Sum.inr b)=decide (a=b):=by
 by_cases e:a=b
 .subst e;simp
 have h:¬(Sum.inr a:aR)=Sum.inr b:=λq=>e (mf q);rw [b0 h,b0 e]
def MM (a:Int)(b:Str):decide ((Sum.inl a:aR)=Sum.inr b)=false:=b0 (λq=>nomatch q)
def MK (a:Str) (b:Int):decide ((Sum.inr a:aR)=Sum.inl b)=false:=b0 (λq=>nomatch q)
def bA (prog:Program)(w:World):PySem.KeyKind prog w aR where
 is:=rZ
 hash:=Vg w
 inj:=λv a b ha hb=>by
  rcases dD ha with ⟨i,t,rfl,rfl⟩ | ⟨x,t,rfl,rfl⟩
  .rcases dD hb with ⟨j,u,rfl,e⟩ | ⟨y,u,rfl,e⟩
   .injection e with e1 _;rw [e1]
   exact nomatch e
  rcases dD hb with ⟨j,u,rfl,e⟩ | ⟨y,u,rfl,e⟩
  .exact nomatch e
  injection e with e1 _;rw [e1]
 byValue:=λk v h=>by
  rcases dD h with ⟨i,t,rfl,rfl⟩ | ⟨x,t,rfl,rfl⟩ <;> rfl
 pyHash:=λhv h=>by
  rcases dD hv with ⟨i,t,rfl,rfl⟩ | ⟨x,t,rfl,rfl⟩
  .exact wpAny_pyHash_int h
  exact wpAny_pyHash_str h
 eqBool:=λhu hv h=>by
  rcases dD hu with ⟨i,t,rfl,rfl⟩ | ⟨x,t,rfl,rfl⟩
  .rcases dD hv with ⟨j,u,rfl,rfl⟩ | ⟨y,u,rfl,rfl⟩
   .rw [MN] at h;exact wpAny_eqBool_int h
   rw [MM] at h;exact SeqAt.EqAt.int_str i t y u _ _ _ _ h
  rcases dD hv with ⟨j,u,rfl,rfl⟩ | ⟨y,u,rfl,rfl⟩
  .rw [MK] at h;exact SeqAt.EqAt.str_int x t j u _ _ _ _ h
  rw [MJ] at h;exact wpAny_eqBool_str h
 «strs»:=λk x t v h=>by
  rcases dD h with ⟨i,u,rfl,e⟩ | ⟨y,u,rfl,e⟩
  .exact nomatch e
  injection e with e1 _;subst e1;cases v <;> rfl
def yb (prog:Program)(w:World) (i:Int)(t:Tok):(bA prog w).is (.inl i) (.int i t)=true:=C4 i t
def ya (prog:Program)(w:World)(x:Str)(t:Tok):(bA prog w).is (.inr x) (.str x t)=true:=C0 x t
inductive V where
 | fg | bl (b:Bool) | int (i:Int) | str (x:Str) | AR (b:Array UInt8) | Nq (b:UInt64) | ref (a:Addr) | ty (n:String)
 deriving DecidableEq
def RelV:V->Value->Prop
 | .fg,u=>u=Value.none
 | .bl b,u=>u=Value.bool b
 | .int i,u=>∃t,u=Value.int i t
 | .str x,u=>∃t,u=Value.str x t
 | .AR b,u=>∃t,u=Value.bytes b t
 | .Nq b,u=>∃t,u=Value.float b t
 | .ref a,u=>u=Value.ref a
 | .ty n,u=>u=Value.type n
abbrev bf:List V->List Value->Prop:=Paired RelV
theorem bf.length {xs:List V}{us:List Value}(r:bf xs us):xs.length=us.length:=aU r
theorem bf.get:∀{xs:List V}{us:List Value}{i:Nat}{x:V},bf xs us->xs[i]?=some x->∃u,us[i]?=some u/\RelV x u
 | _,_,_,_,.nil,e=>by simp at e
 | _,_,0,_,.cons r _,e=>by simp at e;subst e;exact⟨_,rfl,r⟩
 | _,_,i+1,x,.cons _ t,e=>by
  obtain⟨u,h1,h2⟩:=bf.get (i:=i) (x:=x) t (by simpa using e);exact⟨u,by simpa using h1,h2⟩
theorem bf.set {x:V}{u:Value}(r:RelV x u):∀{xs:List V}{us:List Value}(i:Nat),bf xs us->bf (xs.set i x) (us.set i u)
 | _,_,_,.nil=>.nil
 | _,_,0,.cons _ t=>.cons r t
 | _,_,i+1,.cons q t=>.cons q (bf.set r i t)
theorem bf.append:∀{xs ys:List V}{us ws:List Value},bf xs us->bf ys ws->bf (xs++ys) (us++ws)
 | _,_,_,_,.nil,s=>s
 | _,_,_,_,.cons r t,s=>.cons r (bf.append t s)
theorem bf.take:∀{xs:List V}{us:List Value}(n:Nat),bf xs us->bf (xs.take n) (us.take n)
 | _,_,0,_=>.nil
 | _,_,_+1,.nil=>.nil
 | _,_,n+1,.cons r t=>.cons r (bf.take n t)
theorem bf.drop:∀{xs:List V}{us:List Value}(n:Nat),bf xs us->bf (xs.drop n) (us.drop n)
 | _,_,0,r=>r
 | _,_,_+1,.nil=>.nil
 | _,_,n+1,.cons _ t=>bf.drop n t
def bf.none_of:∀{xs:List V}{us:List Value}{i:Nat},bf xs us->xs[i]?=none->us[i]?=none:=λ{xs us i} r e=>by
 have h1:=r.length;have h2:xs.length<=i:=List.getElem?_eq_none_iff.mp e;exact List.getElem?_eq_none_iff.mpr ∅
def j4:Option V->Option Value->Prop
 | some v,some u=>RelV v u
 | none,none=>True
 | _,_=>False
def KV {κ:Type}:List (κ×V)->List (κ×Value)->Prop:=Paired λ(p:κ×V)(q:κ×Value)=>p.1=q.1/\RelV p.2 q.2
def kV:aR->V
 | .inl i=>.int i
 | .inr x=>.str x
inductive HO where
 | lst (xs:List V)
 | tup (xs:List V)
 | dK (kvs:List (aR×V)) | dT (kvs:List (List aR×V))
 | set (S:Int->Bool) (n:Nat)
 | ins (C dx:Addr)(fs:List (Str×V))
 | own (x:Addr)
 | xd (fs:List (Str×V))
 | met (f x:Addr)
 | Cw (lo hi:Int)
 | kn (o:Obj)(u:HO)
 | tL (ps:Array Value)
 | ext (φ:Heap->Prop)
abbrev Hp:=Addr->Option HO
def upd (H:Hp)(a:Addr)(o:HO):Hp:=λb=>if b=a then some o else H b
def ae {H:Hp}{a:Addr}{o:HO}:upd H a o a=some o:=by unfold upd;rw [ax rfl]
def aj {H:Hp}{a b:Addr}{o:HO}(h:b≠a):upd H a o b=H b:=by unfold upd;rw [ay h]
def ng {H:Hp}{a:Addr}{o u:HO}:upd (upd H a o) a u=upd H a u:=by
 funext b;unfold upd;split <;> rfl
def P1 {H:Hp}{a b:Addr}{o u:HO}(h:H a=some o)(h':H b=some u)(d:o≠u):a≠b:=by
 intro e;subst e;rw [h] at h';exact d (ir h')
def aw {H:Hp}{a b:Addr}{o:HO}(h:H a=some o)(h':H b=none):a≠b:=by
 intro e;subst e;rw [h] at h';cases h'
section
variable (P:Program)(w:World)
def cR (H:Hp)(h:Heap)(a:Addr):HO->Prop
 | .lst xs=>xs.length<=sizeLine/\∃(aT:List Value) (n:Nat),bf xs aT/\h.get? a=some { cls:=.type "list",data:=.seq aT.toArray n }
 | .tup xs=>xs.length<=sizeLine/\∃aT:List Value,bf xs aT/\IsTup h a aT.toArray
 | .dK kvs=>kvs.length<=sizeLine/\(a == sysModules)=false/\∃vs,KV kvs vs/\h.DictOf (bA P w) a vs
 | .dT kvs=>kvs.length<=sizeLine/\(a == sysModules)=false/\∃xs:List (List aR×Addr×Value),
   Paired (λ(p:List aR×V)(q:List aR×Addr×Value)=>p.1=q.1/\H q.2.1=some (.tup (p.1.map kV))/\RelV p.2 q.2.2) kvs xs /\
   ∃o es ep,h.get? a=some o/\o.ExactDict/\o.data=.dict es ep/\es.toList=xs.map (entryOfKey (tupleKind (bA P w)))/\(xs.map (·.1)).Nodup
 | .set S n=>h.SetOf (intKind P w) a S n
 | .ins C dx fs=>H dx=some (.own a)/\fs.length<=1000/\dx≠a/\h.get? a=some (PySem.W.instObj C dx) /\
   ∃mA,h.Ns1 dx mA/\(∀f,j4 (fs.lookup f) (mA f))/\PySem.Within mA (fs.map (·.1))
 | .own _=>∃o,h.get? a=some o
 | .xd fs=>∃mA,h.Ns1 a mA/\∀f,j4 (fs.lookup f) (mA f)
 | .Cw lo hi=>∃t u v,h.get? a=some { cls:=.type "range",data:=.fields #[.int lo t,.int hi u,.int 1 v] }
 | .kn o u=>h.get? a=some o/\cR H h a u
 | .tL ps=>h.get? a=some { cls:=.none,data:=.fields ps }
 | .met f x=>h.get? a=some (PySem.W.methodObj (.ref f) (.ref x))
 | .ext φ=>φ h/\(∃o,h.get? a=some o)/\∀h1 h2:Heap,φ h1->(∀o,h1.get? a=some o->h2.get? a=some o)->φ h2
def md (H:Hp)(h:Heap):Prop:=∀a o,H a=some o->cR P w H h a o
end
section
variable {P:Program}{w:World}{H H':Hp}{h h':Heap}{a:Addr}{o:HO}
theorem cR.lt (x:cR P w H h a o):a < h.objs.size:=by
 cases o with
 | lst xs=>obtain⟨_,_,_,_,e⟩:=x;exact bN e
 | tup xs=>obtain⟨_,_,_,p⟩:=x;exact p.lt
 | dK kvs=>obtain⟨_,_,_,_,o,_,_,e,_⟩:=x;exact bN e
 | dT kvs=>obtain⟨_,_,_,_,o,_,_,e,_⟩:=x;exact bN e
 | set S n=>obtain⟨o,_,_,_,e,_⟩:=x;exact bN e
 | ins C dx fs=>obtain⟨_,_,_,e,_⟩:=x;exact bN e
 | own y=>obtain⟨_,e⟩:=x;exact bN e
 | xd fs=>obtain⟨_,⟨_,_,_,e,_⟩,_⟩:=x;exact bN e
 | Cw lo hi=>obtain⟨_,_,_,e⟩:=x;exact bN e
 | kn ob u=>obtain⟨e,_⟩:=x;exact bN e
 | tL ps=>exact bN (show h.get? a=some _ from x)
 | met f y=>exact bN (show h.get? a=some _ from x)
 | ext φ=>obtain⟨_,⟨_,e⟩,_⟩:=x;exact bN e
theorem Paired.e_ {α β:Type}{F G:α->β->Prop}:∀{l₁:List α}{l₂:List β},Paired F l₁ l₂->(∀a b,F a b->G a b)->Paired G l₁ l₂
 | _,_,.nil,_=>.nil
 | _,_,.cons r t,f=>.cons (f _ _ r) (Paired.e_ t f)
def cR.kO (x:cR P w H h a o)(k:∀b u,(b=a\/H b=some (.own a))->h.get? b=some u->h'.get? b=some u)
  (ho:∀b,H b=some (.own a)->H' b=some (.own a))(ht:∀b xs,H b=some (.tup xs)->H' b=some (.tup xs)):cR P w H' h' a o:=by
 induction o with
 | lst xs=>obtain⟨z,aT,n,r,e⟩:=x;exact⟨z,aT,n,r,k _ _ (.inl rfl) e⟩
 | tup xs=>obtain⟨z,aT,r,ob,e,c⟩:=x;exact⟨z,aT,r,ob,k _ _ (.inl rfl) e,c⟩
 | dK kvs=>obtain⟨z,y,vs,r,ob,es,ep,e,c⟩:=x;exact⟨z,y,vs,r,ob,es,ep,k _ _ (.inl rfl) e,c⟩
 | dT kvs =>
  obtain⟨z,y,xs,r,ob,es,ep,e,c⟩:=x;exact⟨z,y,xs,Paired.e_ r λp q z=>⟨z.1,ht _ _ z.2.1,z.2.2⟩,ob,es,ep,k _ _ (.inl rfl) e,c⟩
 | set S n=>obtain⟨ob,es,ep,t,e,c⟩:=x;exact⟨ob,es,ep,t,k _ _ (.inl rfl) e,c⟩
 | ins C dx fs =>
  obtain⟨d,z,ne,e,mA,⟨od,es,ep,e2,c⟩,r⟩:=x;exact⟨ho _ d,z,ne,k _ _ (.inl rfl) e,mA,⟨od,es,ep,k _ _ (.inr d) e2,c⟩,r⟩
 | own y=>obtain⟨ob,e⟩:=x;exact⟨ob,k _ _ (.inl rfl) e⟩
 | xd fs=>obtain⟨mA,⟨od,es,ep,e,c⟩,r⟩:=x;exact⟨mA,⟨od,es,ep,k _ _ (.inl rfl) e,c⟩,r⟩
 | Cw lo hi=>obtain⟨t,u,v,e⟩:=x;exact⟨t,u,v,k _ _ (.inl rfl) e⟩
 | kn ob u ih=>obtain⟨e,q⟩:=x;exact⟨k _ _ (.inl rfl) e,ih q⟩
 | tL ps =>
  have e:h.get? a=some { cls:=.none,data:=.fields ps }:=x;show h'.get? a=some { cls:=.none,data:=.fields ps };exact k a _ (.inl rfl) e
 | met f y =>
  have e:h.get? a=some (PySem.W.methodObj (.ref f) (.ref y)):=x;show h'.get? a=some (PySem.W.methodObj (.ref f) (.ref y));exact k a _ (.inl rfl) e
 | ext φ=>obtain⟨p,⟨o,e⟩,st⟩:=x;exact⟨st _ _ p λo q=>k _ _ (.inl rfl) q,⟨o,k _ _ (.inl rfl) e⟩,st⟩
theorem md.lt (x:md P w H h)(e:H a=some o):a < h.objs.size:=(x a o e).lt
def md.fresh (x:md P w H h)(e:h.objs.size<=a):H a=none:=by
 cases q:H a with
 | none=>rfl
 | some u=>exact absurd (gL (x.lt q) e) (kK _)
def md.kept (x:md P w H h)(k:∀b u,h.get? b=some u->h'.get? b=some u):md P w H h':=λa o e =>
 (x a o e).kO (λb u _ q=>k b u q) (λ_ q=>q) λ_ _ q=>q
def md.laid (x:md P w H h)(k:∀b u,h.get? b=some u->h'.get? b=some u)(hp:h.objs.size<=a)(new:cR P w (upd H a o) h' a o):md P w (upd H a o) h':=λb u e=>by
 have hn:=x.fresh hp;by_cases hb:b=a
 .subst hb;rw [ae] at e;cases e;exact new
 rw [aj hb] at e;exact(x b u e).kO (λc v _ q=>k c v q) (λc q=>by rw [aj (aw q hn)];exact q) λc xs q=>by rw [aj (aw q hn)];exact q
end
def Rd (H:Hp)(a:Addr)(u:HO):Prop:=H a=some u\/∃o,H a=some (.kn o u)
def Rd.of {H:Hp}{a:Addr}{u:HO}(h:H a=some u):Rd H a u:=.inl h
def Rd.ok {P:Program}{w:World}{H:Hp}{h:Heap}{a:Addr}{u:HO}(r:Rd H a u)(x:md P w H h):cR P w H h a u:=by
 rcases r with r | ⟨o,r⟩
 .exact x a u r
 obtain⟨_,q⟩:=x a _ r;exact q
def RI:Option HO->Prop
 | some (.lst _)=>True
 | some (.dK _)=>True
 | some (.dT _)=>True
 | some (.set _ _)=>True
 | some (.ins _ _ _)=>True
 | some (.ext _)=>True
 | _=>False
section
variable {P:Program}{w:World}{H:Hp}{h h':Heap}{x e:Addr}{o':HO}
def md.write (ok:md P w H h)(mu:RI (H x))(he:e=x\/H e=some (.own x))(k:∀b u,b≠e->h.get? b=some u->h'.get? b=some u)(Om:∃u,h'.get? e=some u)
  (new:cR P w (upd H x o') h' x o'):md P w (upd H x o') h':=λb u q=>by
 have PU:∀c y,H c=some (.own y)->c≠x:=λc y r z=>by subst z;rw [r] at mu;exact mu
 have UJ:∀c xs,H c=some (.tup xs)->c≠x:=λc xs r z=>by subst z;rw [r] at mu;exact mu
 by_cases hb:b=x
 .subst hb;rw [ae] at q;cases q;exact new
 rw [aj hb] at q;by_cases Na:b=e
 .have q':H b=some (.own x):=by
   rcases he with z | z
   .exact absurd (Na.trans z) hb
   rw [Na];exact z
  rw [q] at q';cases q';obtain⟨v,hv⟩:=Om;exact⟨v,by rw [Na];exact hv⟩
 refine(ok b u q).kO (λc v hc r=>k c v ?_ r) (λc r=>by rw [aj (PU c b r)];exact r) λc xs r=>by rw [aj (UJ c xs r)];exact r
 rcases hc with rfl | hc
 .exact Na
 rintro rfl;rcases he with z | z
 .exact PU c b hc z
 rw [hc] at z;cases z;exact hb rfl
end
structure Un (fs ex:List Addr)(H H':Hp)(h h':Heap):Prop where
 keep:∀b o,h.get? b=some o->H b=none->b∉fs->b∉ex->h'.get? b=some o
 slot:∀b o,h.get? b=some o->H b=none->b∈fs->b∉ex->∃sl,h'.get? b=some { o with slots:=sl }
 free:∀b o,h.get? b=some o->H b=none->b∉ex->H' b=none
 there:∀b o,h.get? b=some o->b∉ex->∃o',h'.get? b=some o'
 oZ:∀b xs,H b=some (.tup xs)->H' b=some (.tup xs)
 mK:∀b o u,H b=some (.kn o u)->H' b=some (.kn o u)
 nj:∀b ps,H b=some (.tL ps)->∃more,H' b=some (.tL (ps++more))
section
variable {fs Io ex Q9:List Addr}{H H1 H2:Hp}{h h1 h2 h':Heap}{a x e:Addr}{o:HO}
def Un.any (u:Un fs ex H H1 h h1){b:Addr}{ob:Obj}(q:h.get? b=some ob)(n:H b=none)(hx:b∉ex):∃sl,h1.get? b=some { ob with slots:=sl }:=by
 by_cases hb:b∈fs
 .exact u.slot b ob q n hb hx
 exact⟨ob.slots,u.keep b ob q n hb hx⟩
def Un.trans (a:Un fs ex H H1 h h1)(b:Un fs ex H1 H2 h1 h2):Un fs ex H H2 h h2 where
 keep:=λc ob q n hc hx=>b.keep c ob (a.keep c ob q n hc hx) (a.free c ob q n hx) hc hx
 slot:=λc ob q n hc hx=>by
  obtain⟨sl,e1⟩:=a.slot c ob q n hc hx;obtain⟨Uh,e2⟩:=b.slot c _ e1 (a.free c ob q n hx) hc hx;exact⟨Uh,e2⟩
 free:=λc ob q n hx=>by
  obtain⟨o',e1⟩:=a.there c ob q hx;exact b.free c o' e1 (a.free c ob q n hx) hx
 there:=λc ob q hx=>by
  obtain⟨o',e1⟩:=a.there c ob q hx;exact b.there c o' e1 hx
 oZ:=λc xs q=>b.oZ c xs (a.oZ c xs q)
 mK:=λc ob xs q=>b.mK c ob xs (a.mK c ob xs q)
 nj:=λc ps q=>by
  obtain⟨m1,e1⟩:=a.nj c ps q;obtain⟨m2,e2⟩:=b.nj c _ e1;exact⟨m1++m2,by rw [e2,Array.append_assoc]⟩
def Un.kept (k:∀b u,h.get? b=some u->h'.get? b=some u):Un fs ex H H h h' :=
 ⟨λb ob q _ _ _=>k b ob q,λb ob q _ _ _=>⟨ob.slots,k b ob q⟩,λ_ _ _ n _=>n,λb ob q _=>⟨ob,k b ob q⟩,λ_ _ q=>q,λ_ _ _ q=>q,λ_ ps q=>⟨#[],by rw [q];simp⟩⟩
def Un.refl:Un fs ex H H h h:=Un.kept λ_ _ q=>q
def Un.laid (k:∀b u,h.get? b=some u->h'.get? b=some u)(hp:h.objs.size<=a)(hn:H a=none):Un fs ex H (upd H a o) h h' where
 keep:=λb u q _ _ _=>k b u q
 slot:=λb u q _ _ _=>⟨u.slots,k b u q⟩
 free:=λb u q n _=>by rw [aj (cv (gL (bN q) hp))];exact n
 there:=λb u q _=>⟨u,k b u q⟩
 oZ:=λb xs q=>by rw [aj (aw q hn)];exact q
 mK:=λb u xs q=>by rw [aj (aw q hn)];exact q
 nj:=λb ps q=>⟨#[],by rw [aj (aw q hn),q];simp⟩
def Un.write (mu:RI (H x))(he:e=x\/H e=some (.own x))(k:∀b u,b≠e->h.get? b=some u->h'.get? b=some u)(Om:∃u,h'.get? e=some u):Un fs ex H (upd H x o) h h':=by
 have hx:∀b,H b=none->b≠x:=λb n z=>by subst z;rw [n] at mu;exact mu
 have hb:∀b,H b=none->b≠e:=λb n z=>by
  subst z;rcases he with r | r
  .exact hx b n r
  rw [n] at r;cases r
 have hm:∀b u,H b=some u->¬RI (some u)->b≠x:=λb u q nm z=>by subst z;rw [q] at mu;exact nm mu
 refine⟨λb u q n _ _=>k b u (hb b n) q,λb u q n _ _=>⟨u.slots,k b u (hb b n) q⟩,λb u q n _=>by rw [aj (hx b n)];exact n,λb u q _=>?_,
  λb xs q=>by rw [aj (hm b _ q λz=>z)];exact q,λb u xs q=>by rw [aj (hm b _ q λz=>z)];exact q,λb ps q=>⟨#[],by rw [aj (hm b _ q λz=>z),q];simp⟩⟩
 by_cases Na:b=e
 .subst Na;exact Om
 exact⟨u,k b u Na q⟩
def Un.mono (u:Un fs ex H H1 h h1)(hs:∀b∈fs,b∈Io)(hx:∀b∈ex,b∈Q9):Un Io Q9 H H1 h h1 :=
 ⟨λb ob q n hb he=>u.keep b ob q n (λz=>hb (hs b z)) λz=>he (hx b z),λ_ _ q n _ he=>u.any q n λz=>he (hx _ z),λb ob q n he=>u.free b ob q n λz=>he (hx b z),λb ob q he=>u.there b ob q λz=>he (hx b z),u.oZ,u.mK,u.nj⟩
end
def HX (h:Heap)(H:Hp):List Addr:=(List.range h.objs.size).filter λa=>(H a).isSome
def mJ (h:Heap)(H:Hp):Heap:=PySem.W.hideAll h (HX h H)
def uH (h:Heap)(H:Hp):(mJ h H).objs.size=h.objs.size:=PySem.W.hideAll_size _ _
def yi {h:Heap}{H:Hp}{b:Addr}{o:Obj}(e:h.get? b=some o)(n:H b=none):(mJ h H).get? b=some o :=
 PySem.W.hideAll_get _ e λhm=>by
  have q:(H b).isSome=true:=(lV.mp hm).2;rw [n] at q;simp at q
def BH {h:Heap}{H:Hp}{b:Addr}{o:Obj}(e:(mJ h H).get? b=some o):h.get? b=some o/\H b=none:=by
 have e':h.get? b=some o:=PySem.W.of_hideAll (HX h H) e;refine⟨e',?_⟩;cases q:H b with
 | none=>rfl
 | some x =>
  have hm:b∈HX h H:=lV.mpr ⟨pN.mpr (bN e'),by simp [q]⟩;have z:(mJ h H).get? b=none:=PySem.W.hideAll_none (HX h H) hm;rw [z] at e;cases e
def J_ (g h:Heap)(L:Addr):List (Addr×Obj):=(List.range h.objs.size).filterMap λa=>if a=L\/(g.get? a).isSome=true then none else (h.get? a).map λo=>(a,o)
def rest (g h:Heap)(L d:Addr):List (Addr×Obj):=(J_ g h L).filter λp=>decide (p.1≠d)
structure Mod (K:ba)(mg:Str->Option Value)(base:Heap):Prop where
 Qm:K.In base
 glob:base.Ns mainGlobals mg
 blt:∃mb,base.Ns builtinsNs mb/\∀x:Str,x ≠ "__name__" -> mb x=bootBuiltins x
 nolimit:base.NoLimit
structure Cx where
 prog:Program
 w:World
 K:ba
 mg:Str->Option Value
 base:Heap
 A:Around
 N:List Str
 s₀:Shared
 H₀:Hp
 env:Env
 outer:List Env
 stack:List Env
 ex:List Addr
 fn:Str->Bool
 calm:Bool
 pn:List (Addr×Obj)
 xe:Value->Shared->Prop
def Dm (l:List Env):List Addr:=l.filterMap (·.frame)
abbrev Cx.fs (X:Cx):List Addr:=Dm X.outer
def Td (sc:Scope)(x:Str):Prop:=sc.names.lookup x=some .local\/sc.names.lookup x=some .cell\/sc.names.lookup x=some .free
def Loc (sc:Scope)(x:Str):Prop:=sc.names.lookup x=some .local\/sc.names.lookup x=some .cell
def Look (env:Env)(h:Heap)(m:Str->Option Value)(x:Str)(u:Value):Prop :=
 (env.kindOf x=some .local/\m x=some u)\/((env.kindOf x=some .cell\/env.kindOf x=some .free)/\∃c,env.cells.lookup x=some c/\h.IsCell c (some u))
structure Cx.Ok (X:Cx):Prop where
 mod:Mod X.K X.mg X.base
 kind:X.env.scope.kind=.function
 glob:X.env.globals=mainGlobals
 blt:X.env.builtins=builtinsNs
 above:X.s₀.heap.objs.size<=X.env.locals
 inj:∀x y c,X.env.cells.lookup x=some c->X.env.cells.lookup y=some c->x=y
 has:∀x,(X.env.kindOf x=some .cell\/X.env.kindOf x=some .free)->∃c,X.env.cells.lookup x=some c
 Rv:∀x c,X.fn x=true->X.env.cells.lookup x=some c->X.s₀.heap.objs.size<=c
 hd:X.calm=true->X.A.handled=none
 frames:X.A.frames=some X.stack
 RZ:X.stack=X.outer\/(X.stack=X.env::X.outer/\X.env.frame=some X.env.locals)
 OB:∀b∈X.ex,b≠X.env.locals/\∀x c,X.env.cells.lookup x=some c->c≠b
 bs:∀b o,X.base.get? b=some o->X.s₀.heap.get? b=some o/\X.H₀ b=none
 Iy:X.base.objs.size<=X.s₀.heap.objs.size
 FZ:∀b o,X.base.get? b=some o->b∉X.ex
 Dr:∀b∈X.ex,b∉X.fs
 pD:X.s₀.heap.FunFrames X.base X.outer
 K8:∀b∈X.fs,X.H₀ b=none
structure Inv (X:Cx)(ah:List (Addr×Obj))(σ:List (Option V))(H:Hp)(s:Shared):Prop where
 ok:X.Ok
 os:s.os=X.s₀.os
 bare:AllBare s.gens
 base:Un X.fs X.ex X.H₀ H X.s₀.heap s.heap
 loc:∃m,s.heap.Ns X.env.locals m/\∀(i:Nat)(x:Str)(v:V),X.N[i]?=some x->σ[i]?=some (some v)->Td X.env.scope x->∃u,RelV v u/\Look X.env s.heap m x u
 cell:∀x c,X.env.cells.lookup x=some c->∃v,s.heap.IsCell c v
 free:H X.env.locals=none
 l8:∀x c,X.env.cells.lookup x=some c->H c=none
 pin:∀p∈X.pn++ah,s.heap.get? p.1=some p.2/\H p.1=none/\p.1≠X.env.locals/\p.1∉X.fs/\∀v,p.2.data≠.cell v
 cw:md X.prog X.w H s.heap
 len:σ.length=X.N.length
section
variable {X:Cx}{ah:List (Addr×Obj)}{σ:List (Option V)}{H H':Hp}{s:Shared}{h':Heap}
def Cx.Ok.UM (ok:X.Ok){b:Addr}{o:Obj}(e:X.base.get? b=some o):b∉X.fs:=λhb=>by
 have:=(ok.pD.mem hb).1;rw [e] at this;cases this
theorem Inv.bs (I:Inv X ah σ H s):∀b o,X.base.get? b=some o->s.heap.get? b=some o/\H b=none:=λb o e =>
 ⟨I.base.keep b o (I.ok.bs b o e).1 (I.ok.bs b o e).2 (I.ok.UM e) (I.ok.FZ b o e),I.base.free b o (I.ok.bs b o e).1 (I.ok.bs b o e).2 (I.ok.FZ b o e)⟩
def Inv.bk (I:Inv X ah σ H s):∀b o,X.base.get? b=some o->s.heap.get? b=some o:=λb o e=>(I.bs b o e).1
theorem Inv.mod (I:Inv X ah σ H s):Mod X.K X.mg X.base:=I.ok.mod
def Inv.wC (I:Inv X ah σ H s):X.K.In s.heap:=I.ok.mod.Qm.keeps I.bk
theorem Inv.nolimit (I:Inv X ah σ H s):s.heap.NoLimit:=I.ok.mod.nolimit.keeps I.bk
def Inv.fr (I:Inv X ah σ H s):∃m,Fr X.base X.env.locals s.heap m :=
 let ⟨m,hn,_⟩:=I.loc
 ⟨m,hn,I.bk,dX I.ok.Iy I.ok.above⟩
theorem Inv.lt (I:Inv X ah σ H s):X.env.locals < s.heap.objs.size:=let ⟨_,hn,_⟩:=I.loc;hn.lt
def Inv.sz (I:Inv X ah σ H s):X.s₀.heap.objs.size<=s.heap.objs.size:=dX I.ok.above (kI I.lt)
def Inv.UL (I:Inv X ah σ H s){a:Addr}(h:s.heap.objs.size<=a):a∉X.fs:=λhb=>by
 obtain⟨_,o,ho,_⟩:=I.ok.pD.mem hb;exact absurd (gL (bN ho) (dX I.sz h)) (kK _)
def Inv.NR (I:Inv X ah σ H s):∀x c,X.env.cells.lookup x=some c->c≠X.env.locals:=λx c e z=>by
 obtain⟨v,o,ho,hd⟩:=I.cell x c e;obtain⟨m,⟨o',es,ep,C_,Dg,_⟩,_⟩:=I.loc;rw [z,C_] at ho;cases ho;rw [Dg] at hd;cases hd
theorem Inv.pD (I:Inv X ah σ H s):s.heap.FunFrames X.base X.outer:=by
 have all:∀(l:List Env),(∀b∈Dm l,b∈X.fs)->X.s₀.heap.FunFrames X.base l->s.heap.FunFrames X.base l:=by
  intro l
  induction l with
  | nil=>intro _ _;trivial
  | cons env r ih =>
   intro hs hl;obtain⟨hk,⟨L,o,hf,hn,ho,hd⟩,hr⟩:=hl;have hL:L∈X.fs:=hs L (by unfold Dm;rw [rh,hf];exact cH);obtain⟨sl,e⟩:=I.base.slot L o ho (I.ok.K8 L hL) hL λz=>I.ok.Dr L z hL;exact⟨hk,⟨L,_,hf,hn,e,hd⟩,ih (λb hb=>hs b (by unfold Dm;rw [rh,hf];exact dA _ hb)) hr⟩
 exact all X.outer (λ_ hb=>hb) I.ok.pD
theorem Inv.stack (I:Inv X ah σ H s):s.heap.FunFrames X.base X.stack:=by
 rcases I.ok.RZ with e | ⟨e,hf⟩
 .rw [e];exact I.pD
 rw [e];obtain⟨m,hn,_⟩:=I.loc;refine .cons (by rw [I.ok.kind];decide) hf hn ?_ I.pD;exact Heap.get?_none_of_le (dX I.ok.Iy I.ok.above)
def Inv.zy (I:Inv X ah σ H s):∀b∈Dm X.stack,b∈X.env.locals::X.fs:=λb hb=>by
 rcases I.ok.RZ with e | ⟨e,hf⟩
 .rw [e] at hb;exact dA _ hb
 rw [e] at hb;unfold Dm at hb;rw [rh,hf] at hb;exact hb
def Inv.Bb (I:Inv X ah σ H s):∀b∈Dm X.stack,H b=none:=λb hb=>by
 rcases bW.mp (I.zy b hb) with e | hb
 .rw [e];exact I.free
 obtain⟨_,o,ho,_⟩:=I.ok.pD.mem hb;exact I.base.free b o ho (I.ok.K8 b hb) λz=>I.ok.Dr b z hb
def Inv.step {g':Array GenState}{t':Nat}{d':Drawn}{ch:List Addr}(I:Inv X ah σ H s)
  (Ij:∀b∈ch,(b∈X.ex\/X.s₀.heap.objs.size<=b)/\b≠X.env.locals/\(∀x c,X.env.cells.lookup x=some c->c≠b)/\∀p∈X.pn++ah,p.1≠b)
  (keep:∀b o,b≠X.env.locals->b∉X.fs->b∉ch->s.heap.get? b=some o->H b=none->h'.get? b=some o)
  (slot:∀b o,b≠X.env.locals->b∈X.fs->b∉ch->s.heap.get? b=some o->H b=none->∃sl,h'.get? b=some { o with slots:=sl })(free:∀b o,b∉ch->s.heap.get? b=some o->H b=none->H' b=none)
  (there:∀b o,b∉ch->s.heap.get? b=some o->∃o',h'.get? b=some o')
  (oZ:∀b xs,H b=some (.tup xs)->H' b=some (.tup xs))(mK:∀b o u,H b=some (.kn o u)->H' b=some (.kn o u))(nj:∀b ps,H b=some (.tL ps)->∃more,H' b=some (.tL (ps++more)))
  (ns:∀m,s.heap.Ns X.env.locals m->h'.Ns X.env.locals m)(cw:md X.prog X.w H' h')(hg:AllBare g') :
  Inv X ah σ H' { s with heap:=h',gens:=g',drawn:=d',toks:=t' }:=by
 have Yx:∀b o,X.s₀.heap.get? b=some o->b≠X.env.locals:=λb o e=>cv (gL (bN e) I.ok.above);have Oc:∀b o,X.s₀.heap.get? b=some o->b∉X.ex->b∉ch:=λb o e hx hb=>by
  rcases (Ij b hb).1 with z | z
  .exact hx z
  exact absurd (gL (bN e) z) (kK _)
 have cellK:∀x c,X.env.cells.lookup x=some c->∀v,s.heap.IsCell c v->h'.IsCell c v:=λx c e v ⟨o,ho,hd⟩=>by
  have P2:c∉ch:=λz=>(Ij c z).2.2.1 x c e rfl;by_cases hc:c∈X.fs
  .obtain⟨sl,q⟩:=slot c o (I.NR x c e) hc P2 ho (I.l8 x c e);exact⟨_,q,hd⟩
  exact⟨o,keep c o (I.NR x c e) hc P2 ho (I.l8 x c e),hd⟩
 refine⟨I.ok,I.os,hg,⟨λb o e n hb hx=>?_,λb o e n hb hx=>?_,λb o e n hx=>?_,λb o e hx=>?_,λb xs e=>oZ b xs (I.base.oZ b xs e),λb o xs e=>mK b o xs (I.base.mK b o xs e),λb ps e=>?_⟩,?_,λx c e=>?_,?_,λx c e=>?_,λp hp=>?_,cw,I.len⟩
 .exact keep b o (Yx b o e) hb (Oc b o e hx) (I.base.keep b o e n hb hx) (I.base.free b o e n hx)
 .obtain⟨sl,e1⟩:=I.base.slot b o e n hb hx;obtain⟨Uh,e2⟩:=slot b _ (Yx b o e) hb (Oc b o e hx) e1 (I.base.free b o e n hx);exact⟨Uh,e2⟩
 .obtain⟨o',e1⟩:=I.base.there b o e hx;exact free b o' (Oc b o e hx) e1 (I.base.free b o e n hx)
 .obtain⟨o',e1⟩:=I.base.there b o e hx;exact there b o' (Oc b o e hx) e1
 .obtain⟨m1,e1⟩:=I.base.nj b ps e;obtain⟨m2,e2⟩:=nj b _ e1;exact⟨m1++m2,by rw [e2,Array.append_assoc]⟩
 .obtain⟨m,hn,hl⟩:=I.loc;refine⟨m,ns m hn,λi x v e1 e2 e3=>?_⟩;obtain⟨u,r,l⟩:=hl i x v e1 e2 e3;refine⟨u,r,?_⟩;rcases l with l | ⟨k,c,e,z⟩
  .exact .inl l
  exact .inr ⟨k,c,e,cellK x c e _ z⟩
 .obtain⟨v,z⟩:=I.cell x c e;exact⟨v,cellK x c e v z⟩
 .obtain⟨m,⟨o,_,_,ho,_⟩,_⟩:=I.loc;exact free _ o (λz=>(Ij _ z).2.1 rfl) ho I.free
 .obtain⟨v,o,ho,hd⟩:=I.cell x c e;exact free c o (λz=>(Ij c z).2.2.1 x c e rfl) ho (I.l8 x c e)
 obtain⟨e,n,ne,nf,d⟩:=I.pin p hp;have P2:p.1∉ch:=λz=>(Ij p.1 z).2.2.2 p hp rfl;exact⟨keep p.1 p.2 ne nf P2 e n,free p.1 p.2 P2 e n,ne,nf,d⟩
def Inv.un {t':Nat}(I:Inv X ah σ H s)(u:Un X.fs [] H H' s.heap h')(cw:md X.prog X.w H' h'):Inv X ah σ H' { s with heap:=h',toks:=t' }:=by
 obtain⟨m,⟨o,es,ep,ho,r⟩,_⟩:=id I.loc;obtain⟨sl,hL⟩:=u.any ho I.free (by simp);exact I.step (g':=s.gens) (d':=s.drawn) (ch:=[]) (λ_ z=>nomatch z) (λb o _ hb _ e n=>u.keep b o e n hb (by simp)) (λb o _ hb _ e n=>u.slot b o e n hb (by simp)) (λb o _ e n=>u.free b o e n (by simp)) (λb o _ e=>u.there b o e (by simp)) u.oZ u.mK u.nj (λm' hm=>by
  obtain⟨o',i4,WD,C_,r'⟩:=hm;rw [ho] at C_;cases C_;exact⟨_,i4,WD,hL,r'⟩) cw I.bare
def Inv.call {g':Array GenState}{t':Nat}{d':Drawn}{ch:List Addr}(I:Inv X ah σ H s)(u:Un (Dm X.stack) ch H H' s.heap h')(cw:md X.prog X.w H' h')(hg:AllBare g')
  (Ij:∀b∈ch,(b∈X.ex\/X.s₀.heap.objs.size<=b)/\b≠X.env.locals/\(∀x c,X.env.cells.lookup x=some c->c≠b)/\∀p∈X.pn++ah,p.1≠b) :
  Inv X ah σ H' { s with heap:=h',gens:=g',drawn:=d',toks:=t' }:=by
 obtain⟨m,⟨o,es,ep,ho,r⟩,_⟩:=id I.loc;obtain⟨sl,hL⟩:=u.any ho I.free λz=>(Ij _ z).2.1 rfl;exact I.step (ch:=ch) Ij (λb o hL hb hc e n=>u.keep b o e n (λz=>(bW.mp (I.zy b z)).elim hL hb) hc) (λb o _ _ hc e n=>u.any e n hc) (λb o hc e n=>u.free b o e n hc) (λb o hc e=>u.there b o e hc) u.oZ u.mK u.nj (λm' hm=>by
  obtain⟨o',i4,WD,C_,r'⟩:=hm;rw [ho] at C_;cases C_;exact⟨_,i4,WD,hL,r'⟩) cw hg
def Inv.turned {t':Nat}{it:Addr}(I:Inv X ah σ H s)(k:∀b o,b≠it->s.heap.get? b=some o->h'.get? b=some o)(hn:H it=none)(hL:it≠X.env.locals)
  (h1:it∈X.ex\/X.s₀.heap.objs.size<=it)(h2:∀x c,X.env.cells.lookup x=some c->c≠it)(h3:∀p∈X.pn++ah,p.1≠it):Inv X ah σ H { s with heap:=h',toks:=t' }:=by
 have Yv:∀b u,H b=some u->b≠it:=λb u e z=>by rw [z,hn] at e;cases e
 refine I.step (g':=s.gens) (d':=s.drawn) (ch:=[it]) (λb hb=>?_) (λb o _ _ hc e _=>k b o (λz=>hc (by simp [z])) e) (λb o _ _ hc e _=>⟨o.slots,k b o (λz=>hc (by simp [z])) e⟩) (λ_ _ _ _ n=>n)
  (λb o hc e=>⟨o,k b o (λz=>hc (by simp [z])) e⟩) (λ_ _ e=>e) (λ_ _ _ e=>e) (λb ps e=>⟨#[],by rw [e];simp⟩) (λm hm=>?_) (λb u e=>?_) I.bare
 .have e:b=it:=by simpa using hb
  subst e;exact⟨h1,hL,h2,h3⟩
 .obtain⟨o,es,ep,ho,r⟩:=hm;exact⟨o,es,ep,k _ o (gB hL) ho,r⟩
 refine(I.cw b u e).kO (λc v hc q=>k c v ?_ q) (λ_ q=>q) λ_ _ q=>q;rcases hc with z | z
 .rw [z];exact Yv b u e
 exact Yv c _ z
def Inv.tok (I:Inv X ah σ H s) (t:Nat):Inv X ah σ H { s with toks:=t }:=I.un (h':=s.heap) (t':=t) Un.refl I.cw
theorem Inv.kept {t':Nat}(I:Inv X ah σ H s)(k:∀b u,s.heap.get? b=some u->h'.get? b=some u):Inv X ah σ H { s with heap:=h',toks:=t' }:=I.un (Un.kept k) (I.cw.kept k)
theorem Inv.laid {a:Addr}{o:HO}{t':Nat}(I:Inv X ah σ H s)(k:∀b u,s.heap.get? b=some u->h'.get? b=some u)(hp:s.heap.objs.size<=a)(new:cR X.prog X.w (upd H a o) h' a o) :
  Inv X ah σ (upd H a o) { s with heap:=h',toks:=t' }:=I.un (Un.laid k hp (I.cw.fresh hp)) (I.cw.laid k hp new)
theorem Inv.write {x e:Addr}{o:HO}{t':Nat}(I:Inv X ah σ H s)(mu:RI (H x))(he:e=x\/H e=some (.own x))(k:∀b u,b≠e->s.heap.get? b=some u->h'.get? b=some u)(Om:∃u,h'.get? e=some u)
  (new:cR X.prog X.w (upd H x o) h' x o):Inv X ah σ (upd H x o) { s with heap:=h',toks:=t' }:=I.un (Un.write mu he k Om) (I.cw.write mu he k Om new)
def Inv.BA {j_:List (Addr×Obj)}(I:Inv X ah σ H s)(h:∀p∈j_,s.heap.get? p.1=some p.2/\H p.1=none/\p.1≠X.env.locals/\p.1∉X.fs/\∀v,p.2.data≠.cell v):Inv X j_ σ H s :=
 ⟨I.ok,I.os,I.bare,I.base,I.loc,I.cell,I.free,I.l8,λp hp=>(bQ.mp hp).elim (λz=>I.pin p (h_ _ z)) (h p),I.cw,I.len⟩
def xZ {N:List Str}(hN:N.Nodup){i j:Nat}{x:Str}(a:N[i]?=some x)(b:N[j]?=some x):i=j:=by
 obtain⟨h1,e1⟩:=bu.mp a;obtain⟨h2,e2⟩:=bu.mp b;exact(vb hN).mp (e1.trans e2.symm)
def uh {M:Model}{A:Around}{E:Value->Shared->Prop}{i:Nat}{x:Str}{v:V}{u:Value}{Q:Unit->Shared->Prop}(I:Inv X ah σ H s)(hN:X.N.Nodup)(hi:X.N[i]?=some x)(hx:Loc X.env.scope x)(r:RelV v u)
  (h:∀s',Inv X ah (σ.set i (some v)) H s'->(∃a,Heap.SameBut a s.heap s'.heap/\(a=X.env.locals\/X.env.cells.lookup x=some a))->Q () s')(hf:X.fn x=true\/X.env.scope.names.lookup x=some .local:=by first | exact .inl rfl | exact .inr rfl | assumption):wpAny M A (storeName X.env x u) Q E s:=by
 obtain⟨m,hn,hl⟩:=id I.loc;have V4:(X.env.scope.kind == .class || (X.env.scope.kind == .module && X.env.locals != X.env.globals))=false:=by rw [I.ok.kind];rfl
 have Zg:i < σ.length:=by rw [I.len];exact(bu.mp hi).1
 have NR:=I.NR;have tracked:∀{a:Addr}{h':Heap},(∃o,s.heap.get? a=some o/\H a=none)->Heap.SameBut a s.heap h'->md X.prog X.w H h':=λ{a h'} ha hs b ob e=>by
  obtain⟨_,_,n6⟩:=ha;refine(I.cw b ob e).kO (λc w' hc q=>(hs.2 c ?_).trans q) (λ_ q=>q) λ_ _ q=>q;rintro rfl;rcases hc with rfl | hc
  .rw [n6] at e;cases e
  rw [n6] at hc;cases hc
 rcases hx with hk | hk
 .refine wpAny_storeName_local hk hn (λh' JJ hs=>?_) V4;obtain⟨oL,_,_,hoL,_⟩:=id hn;refine h _ ⟨I.ok,I.os,I.bare,⟨λb o e n hb hx=>?_,λb o e n hb hx=>?_,I.base.free,λb o e hx=>?_,I.base.oZ,I.base.mK,I.base.nj⟩,⟨_,JJ,λj y v' e1 e2 e3=>?_⟩,λy c e=>?_,I.free,I.l8,λp hp=>?_,tracked ⟨oL,hoL,I.free⟩ hs,by simpa using I.len⟩ ⟨_,hs,.inl rfl⟩
  .exact(hs.2 b (cv (gL (bN e) I.ok.above))).trans (I.base.keep b o e n hb hx)
  .obtain⟨sl,e1⟩:=I.base.slot b o e n hb hx;exact⟨sl,(hs.2 b (cv (gL (bN e) I.ok.above))).trans e1⟩
  .obtain⟨o',e1⟩:=I.base.there b o e hx;exact⟨o',(hs.2 b (cv (gL (bN e) I.ok.above))).trans e1⟩
  .by_cases hj:j=i
   .subst hj;rw [hi] at e1;cases e1;rw [List.getElem?_set_self Zg] at e2;cases e2;exact⟨u,r,.inl ⟨hk,by simp⟩⟩
   rw [List.getElem?_set_ne (gB hj)] at e2;obtain⟨u',r',q⟩:=hl j y v' e1 e2 e3;refine⟨u',r',?_⟩;rcases q with ⟨k,e⟩ | ⟨k,c,e,z⟩
   .refine .inl ⟨k,?_⟩;have:y≠x:=λe=>hj (xZ hN e1 (e ▸ hi));simp [this,e]
   exact .inr ⟨k,c,e,z.sameBut hs (NR y c e)⟩
  .obtain⟨w',z⟩:=I.cell y c e;exact⟨w',z.sameBut hs (NR y c e)⟩
  obtain⟨e,n,ne,nf,d⟩:=I.pin p hp;exact⟨(hs.2 p.1 ne).trans e,n,ne,nf,d⟩
 have VW:X.fn x=true:=by
  rcases hf with z | z
  .exact z
  rw [z] at hk;cases hk
 obtain⟨c,hc⟩:=I.ok.has x (.inl hk);obtain⟨w',z⟩:=I.cell x c hc;refine wpAny_storeName_cell I.ok.kind hk hc z (λh' lQ hs=>?_);obtain⟨oc,yW,VH⟩:=id z;refine h { s with heap:=h' } ⟨I.ok,I.os,I.bare,⟨λb o e n hb hx=>?_,λb o e n hb hx=>?_,I.base.free,λb o e hx=>?_,I.base.oZ,I.base.mK,I.base.nj⟩,⟨m,hn.sameBut hs (gB (NR x c hc)),λj y v' e1 e2 e3=>?_⟩,λy c' e=>?_,I.free,I.l8,λp hp=>?_,tracked ⟨oc,yW,I.l8 x c hc⟩ hs,by simpa using I.len⟩ ⟨c,hs,.inr hc⟩
 .exact(hs.2 b (cv (gL (bN e) (I.ok.Rv x c VW hc)))).trans (I.base.keep b o e n hb hx)
 .obtain⟨sl,e1⟩:=I.base.slot b o e n hb hx;exact⟨sl,(hs.2 b (cv (gL (bN e) (I.ok.Rv x c VW hc)))).trans e1⟩
 .obtain⟨o',e1⟩:=I.base.there b o e hx;exact⟨o',(hs.2 b (cv (gL (bN e) (I.ok.Rv x c VW hc)))).trans e1⟩
 .by_cases hj:j=i
  .subst hj;rw [hi] at e1;cases e1;rw [List.getElem?_set_self Zg] at e2;cases e2;exact⟨u,r,.inr ⟨.inl hk,c,hc,lQ⟩⟩
  rw [List.getElem?_set_ne (gB hj)] at e2;obtain⟨u',r',q⟩:=hl j y v' e1 e2 e3;refine⟨u',r',?_⟩;rcases q with q | ⟨k,c',e,z'⟩
  .exact .inl q
  refine .inr ⟨k,c',e,z'.sameBut hs ?_⟩;rintro rfl;exact hj (xZ hN e1 (I.ok.inj _ _ _ e hc ▸ hi))
 .by_cases Zm:c'=c
  .subst Zm;exact⟨_,lQ⟩
  obtain⟨w2,z2⟩:=I.cell y c' e;exact⟨w2,z2.sameBut hs Zm⟩
 obtain⟨e,n,ne,nf,d⟩:=I.pin p hp;refine⟨(hs.2 p.1 ?_).trans e,n,ne,nf,d⟩;intro q;rw [q,yW] at e;have q':oc=p.2:=ir e;exact d w' (by rw [<-q'];exact VH)
def rC {M:Model}{A:Around}{E:Value->Shared->Prop}{i:Nat}{x:Str}{v:V}{u:Value}{Q:Unit->Shared->Prop}(I:Inv X ah σ H s)(hN:X.N.Nodup)(hi:X.N[i]?=some x)(hx:Loc X.env.scope x)(r:RelV v u)
  (h:∀s',Inv X ah (σ.set i (some v)) H s'->Q () s')(hf:X.fn x=true\/X.env.scope.names.lookup x=some .local:=by first | exact .inl rfl | exact .inr rfl | assumption):wpAny M A (storeName X.env x u) Q E s :=
 uh I hN hi hx r (λs' I' _=>h s' I') hf
def Inv.Ll {s':Shared}{ch:List Addr}(I:Inv X ah σ H s)(ho:s'.os=s.os)(u:Un (Dm X.stack) ch H H' s.heap s'.heap)(cw:md X.prog X.w H' s'.heap)(hg:AllBare s'.gens)
  (Ij:∀b∈ch,(b∈X.ex\/X.s₀.heap.objs.size<=b)/\b≠X.env.locals/\(∀x c,X.env.cells.lookup x=some c->c≠b)/\∀p∈X.pn++ah,p.1≠b):Inv X ah σ H' s':=by
 obtain⟨h',g',d',t',o'⟩:=s';have e:o'=s.os:=ho;subst e;exact I.call (g':=g') (t':=t') (d':=d') u cw hg Ij
end
abbrev XK:=Value->Option Addr->Hp->Prop
abbrev St:=List (Option V)
abbrev aM (a:Addr):Option V:=some (.ref a)
abbrev VK:=V->Hp->Prop
abbrev TE:=St->Hp->VK->Prop
abbrev TT:=St->Hp->(Bool->Hp->Prop)->Prop
abbrev TA:=St->Hp->(List V->Hp->Prop)->Prop
structure Ends where
 nx:St->Hp->Prop
 rt:VK
 bk:St->Hp->Prop:=λ_ _=>False
 ct:St->Hp->Prop:=λ_ _=>False
abbrev TS:=Ends->St->Hp->Prop
def EP (X:Cx)(ah:List (Addr×Obj))(σ:St)(Q:VK)(u:Value)(s':Shared):Prop:=∃v H',Inv X ah σ H' s'/\RelV v u/\Q v H'
def TP (X:Cx)(ah:List (Addr×Obj))(σ:St)(Q:Bool->Hp->Prop)(b:Bool)(s':Shared):Prop:=∃H',Inv X ah σ H' s'/\Q b H'
def AP (X:Cx)(ah:List (Addr×Obj))(σ:St)(Q:List V->Hp->Prop)(us:List Value)(s':Shared):Prop:=∃vs H',Inv X ah σ H' s'/\bf vs us/\Q vs H'
def SP (X:Cx)(ah:List (Addr×Obj))(D:Ends)(f:Flow)(s':Shared):Prop :=
 match f with
 | .next=>∃σ' H',Inv X ah σ' H' s'/\D.nx σ' H'
 | .brk=>∃σ' H',Inv X ah σ' H' s'/\D.bk σ' H'
 | .cont=>∃σ' H',Inv X ah σ' H' s'/\D.ct σ' H'
 | .ret u=>∃v σ' H',Inv X ah σ' H' s'/\RelV v u/\D.rt v H'
def PE (X:Cx)(e:Expr)(t:TE):Prop :=
 ∀(ah:List (Addr×Obj))(s:Shared)(σ:St)(H:Hp)(Q:VK),Inv X ah σ H s->t σ H Q->wpAny (model X.prog X.w) X.A (eval e X.env) (EP X ah σ Q) X.xe s
def PT (X:Cx)(e:Expr)(t:TT):Prop :=
 ∀(ah:List (Addr×Obj))(s:Shared)(σ:St)(H:Hp)(Q:Bool->Hp->Prop),Inv X ah σ H s->t σ H Q->wpAny (model X.prog X.w) X.A (isTrue e X.env (eval e X.env)) (TP X ah σ Q) X.xe s
def PW (X:Cx)(e:Expr)(t:TT):Prop :=
 ∀(whole:Sem Value)(ah:List (Addr×Obj))(s:Shared)(σ:St)(H:Hp)(Q:Bool->Hp->Prop),Inv X ah σ H s->t σ H Q->wpAny (model X.prog X.w) X.A (isTrue e X.env whole) (TP X ah σ Q) X.xe s
def PW.pt {X:Cx}{e:Expr}{t:TT}(h:PW X e t):PT X e t:=h _
def PA (X:Cx)(es:List Expr)(t:TA):Prop :=
 ∀(pos:Pos)(ah:List (Addr×Obj))(s:Shared)(σ:St)(H:Hp)(Q:List V->Hp->Prop),Inv X ah σ H s->t σ H Q->wpAny (model X.prog X.w) X.A (spliced (backTo pos (starEach es X.env))) (AP X ah σ Q) X.xe s
def PS (X:Cx)(st:Stmt)(t:TS):Prop :=
 ∀(ah:List (Addr×Obj))(s:Shared)(σ:St)(H:Hp)(D:Ends),Inv X ah σ H s->t D σ H->wpAny (model X.prog X.w) X.A (exec st X.env) (SP X ah D) X.xe s
def AW (X:Cx)(st:List Stmt)(t:TS):Prop :=
 ∀(ah:List (Addr×Obj))(s:Shared)(σ:St)(H:Hp)(D:Ends),Inv X ah σ H s->t D σ H->wpAny (model X.prog X.w) X.A (execs st X.env) (SP X ah D) X.xe s
def cQ {α:Type}{t:Sem α}{Q Q':α->Shared->Prop}{M:Model}{A:Around}{E:Value->Shared->Prop}{s:Shared}(h:wpAny M A t Q E s)(hQ:∀a s,Q a s->Q' a s):wpAny M A t Q' E s:=dJ h hQ λ_ _ x=>x
section
variable {X:Cx}
def bin {a b:Expr}{ta tb:TE}(ha:PE X a ta)(hb:PE X b tb){ah:List (Addr×Obj)}{s:Shared}{σ:St}{H:Hp}{R:V->V->Hp->Prop}(I:Inv X ah σ H s)(h:ta σ H λx H1=>tb σ H1 λy H2=>R x y H2)
  {α:Type}{Q:α->Shared->Prop}{f:Value->Value->Sem α}
  (hf:∀v u s2 x y H2,Inv X ah σ H2 s2->RelV x v->RelV y u->R x y H2->wpAny (model X.prog X.w) X.A (f v u) Q X.xe s2) :
  wpAny (model X.prog X.w) X.A (eval a X.env) (λv s₁=>wpAny (model X.prog X.w) X.A (eval b X.env) (λu s₂=>wpAny (model X.prog X.w) X.A (f v u) Q X.xe s₂) X.xe s₁) X.xe s:=by
 refine cQ (ha ah s σ H _ I h) λv s1 ⟨x,H1,I1,r1,q1⟩=>?_;refine cQ (hb ah s1 σ H1 _ I1 q1) λu s2 ⟨y,H2,I2,r2,q2⟩=>?_;exact hf v u s2 x y H2 I2 r1 r2 q2
def gS (i:Nat):TE:=λσ H Q=>∃v,σ[i]?=some (some v)/\Q v H
def tC (v:V):TE:=λ_ H Q=>Q v H
def Mi {i:Nat}{x:Str}{pos:Pos}(hN:X.N[i]?=some x)(hv:Td X.env.scope x)(hd:(x == ("__debug__":Str))=false:=by decide)(wJ:(x == ("__classdict__":Str))=false:=by decide):PE X (.Name x pos) (gS i):=by
 intro ah s σ H Q I h;obtain⟨v,e,h⟩:=h;obtain⟨m,hn,hl⟩:=I.loc;obtain⟨u,r,l⟩:=hl i x v hN e hv;have fin:EP X ah σ Q u s:=⟨v,H,I,r,h⟩;rcases l with ⟨hk,hm⟩ | ⟨hk,c,hc,jz⟩
 .exact wpAny_Name (vk I.ok.kind hk hn hm fin) hd
 rcases hk with hk | hk
 .exact wpAny_Name (wpAny_loadName_cell I.ok.kind hk hc jz fin) hd
 exact wpAny_Name (wpAny_loadName_free I.ok.kind hk hc jz fin wJ) hd
def ao {i j pos}:PE X (.Constant (.int i) j pos) (tC (.int i)):=λ_ _ _ H _ I h=>wpAny_Constant_int ⟨.int i,H,I.tok _,⟨_,rfl⟩,h⟩
def f_ {b j pos}:PE X (.Constant (.bool b) j pos) (tC (.bl b)):=λ_ _ _ H _ I h=>Constant_bool ⟨.bl b,H,I,rfl,h⟩
def je {j pos}:PE X (.Constant .none j pos) (tC .fg):=λ_ _ _ H _ I h=>Constant_none ⟨.fg,H,I,rfl,h⟩
def bx {x j pos}:PE X (.Constant (.str x) j pos) (tC (.str x)):=λ_ _ _ H _ I h=>Calls.Constant_str ⟨.str x,H,I.tok _,⟨_,rfl⟩,h⟩
def Gl (X:Cx)(x:Str):Prop:=X.env.kindOf x=some .globalImplicit
def wA {E:Value->Shared->Prop}{ah:List (Addr×Obj)}{s:Shared}{σ:St}{H:Hp}{x:Str}{u:Value}{pos:Pos}{Q:Value->Shared->Prop}(I:Inv X ah σ H s)(hg:Gl X x)(hm:X.mg x=some u)(h:Q u s)
  (hd:(x == ("__debug__":Str))=false:=by decide):wpAny (model X.prog X.w) X.A (eval (.Name x pos) X.env) Q E s :=
 Calls.Name_function_global I.ok.kind hg (Calls.loadGlobal_global (by rw [I.ok.glob];exact I.mod.glob.keeps I.bk) hm h) hd
def jV {E:Value->Shared->Prop}{ah:List (Addr×Obj)}{s:Shared}{σ:St}{H:Hp}{x:Str}{u:Value}{pos:Pos}{Q:Value->Shared->Prop}(I:Inv X ah σ H s)(hg:Gl X x)(hm:X.mg x=none)(hv:bootBuiltins x=some u)(h:Q u s)
  (hn:x ≠ "__name__" := by decide)(hd:(x == ("__debug__":Str))=false:=by decide):wpAny (model X.prog X.w) X.A (eval (.Name x pos) X.env) Q E s:=by
 obtain⟨mb,h1,h2⟩:=I.mod.blt;exact Calls.Name_function_global I.ok.kind hg (Calls.loadGlobal_builtin (by rw [I.ok.glob];exact I.mod.glob.keeps I.bk) hm (by rw [I.ok.blt];exact h1.keeps I.bk) ((h2 x hn).trans hv) h) hd
def Jj {x:Str}{v:V}{u:Value}{pos:Pos}(hg:Gl X x)(hm:X.mg x=some u)(r:RelV v u)(hd:(x == ("__debug__":Str))=false:=by decide):PE X (.Name x pos) (tC v) :=
 λ_ _ _ H _ I h=>wA I hg hm ⟨v,H,I,r,h⟩ hd
def g_ {x:Str}{v:V}{u:Value}{pos:Pos}(hg:Gl X x)(hm:X.mg x=none)(hv:bootBuiltins x=some u)(r:RelV v u)(hn:x ≠ "__name__" := by decide)(hd:(x == ("__debug__":Str))=false:=by decide):PE X (.Name x pos) (tC v) :=
 λ_ _ _ H _ I h=>jV I hg hm hv ⟨v,H,I,r,h⟩ hn hd
variable {a b:Expr}{ta tb:TE}{pos:Pos}
def PC (X:Cx)(op:CmpOp)(a b:Expr)(t:TE):Prop :=
 ∀(ah:List (Addr×Obj))(s:Shared)(σ:St)(H:Hp)(Q:VK),Inv X ah σ H s->t σ H Q ->
  wpAny (model X.prog X.w) X.A (eval a X.env) (λv s₁=>wpAny (model X.prog X.w) X.A (eval b X.env) (λu s₂=>wpAny (model X.prog X.w) X.A (compareOp op v u) (EP X ah σ Q) X.xe s₂) X.xe s₁) X.xe s
def x8 (b:Expr){op:CmpOp}(h:op≠.In)(h2:op≠.NotIn):behindInMarks op b=false:=by
 have e1:(op == CmpOp.In)=false:=by cases op <;> first | rfl | exact absurd rfl h
 have e2:(op == CmpOp.NotIn)=false:=by cases op <;> first | rfl | exact absurd rfl h2
 cases b <;> simp [behindInMarks,e1,e2]
def TZ (ta:TE):TE:=λσ H Q=>ta σ H λx H1=>Q (.bl (decide (x=.fg))) H1
def RelV.FY {x:V}{v:Value}(r:RelV x v):(v == Value.none)=decide (x=.fg):=by
 cases x with
 | fg=>cases r;rfl
 | bl _=>cases r;rfl
 | int _=>obtain⟨t,rfl⟩:=r;rfl
 | str _=>obtain⟨t,rfl⟩:=r;rfl
 | AR _=>obtain⟨t,rfl⟩:=r;rfl
 | Nq _=>obtain⟨t,rfl⟩:=r;rfl
 | ref _=>cases r;rfl
 | ty _=>cases r;rfl
def Fu {j pos'}(ha:PE X a ta):PC X .Is a (.Constant .none j pos') (TZ ta):=by
 intro ah s σ H Q I h;refine cQ (ha ah s σ H _ I h) λv s1 ⟨x,H1,I1,r1,q1⟩=>?_;exact Constant_none (is_none_gen ⟨.bl _,H1,I1,by rw [r1.FY];rfl,q1⟩)
def tB (t:TE):TT:=λσ H Q=>t σ H λx H1=>∃c,x=.bl c/\Q c H1
def z5 {op:CmpOp}{t:TE}(h:PC X op a b t)(h1:behindInMarks op b=false:=by first | exact x8 _ (by decide) (by decide) | rfl):PE X (.Compare a [op] [b] pos) t:=λah s σ H Q I hw=>wpAny_Compare1 (h ah s σ H Q I hw) h1
def eJ {op:CmpOp}{t:TE}(h:PC X op a b t)(h1:behindInMarks op b=false:=by first | exact x8 _ (by decide) (by decide) | rfl):PT X (.Compare a [op] [b] pos) (tB t):=by
 intro ah s σ H Q I hw;refine wpAny_isTrue_Compare1 (cQ (h ah s σ H _ I hw) λv s1 h1=>cQ h1 λu s2 h2=>cQ h2 λc s3 ⟨x,H1,I1,r1,q1⟩=>?_) h1;obtain⟨d,rfl,q⟩:=q1;cases r1;exact ku ⟨H1,I1,q⟩
def eI {e:Expr}{t:TE}(h:PE X e t)(he:∀whole,isTrue e X.env whole=(do let v <-whole;standAt e.pos;holding [v] (truthy v)):=by intro _;rfl):PT X e (tB t):=by
 intro ah s σ H Q I hw;refine isTrue_plain (cQ (h ah s σ H _ I hw) λv s1 ⟨x,H1,I1,r1,q1⟩=>?_) (he _);obtain⟨d,rfl,q⟩:=q1;cases r1;exact ku ⟨H1,I1,q⟩
variable {tA RW:TT}{rest:List Expr}
def T9 (t u:TT):TT:=λσ H Q=>t σ H λc H1=>if c=true then u σ H1 Q else Q false H1
def tOr (t u:TT):TT:=λσ H Q=>t σ H λc H1=>if c=true then Q true H1 else u σ H1 Q
def TV (t:TT):TT:=λσ H Q=>t σ H λc H1=>Q (!c) H1
def i8 (ha:PT X a tA):PW X (.BoolOp .And [a] pos) tA:=by
 intro wh ah s σ H Q I h;refine isTrue_and (cQ (ha ah s σ H Q I h) λc s1 e=>?_);cases c with
 | true=>exact isTrue_and_nil e
 | false=>exact e
def jS (ha:PT X a tA):PW X (.BoolOp .Or [a] pos) tA:=by
 intro wh ah s σ H Q I h;refine isTrue_or (cQ (ha ah s σ H Q I h) λc s1 e=>?_);cases c with
 | false=>exact isTrue_or_nil e
 | true=>exact e
def kR (ha:PT X a tA)(hb:PW X (.BoolOp .And (b::rest) pos) RW):PW X (.BoolOp .And (a::b::rest) pos) (T9 tA RW):=by
 intro wh ah s σ H Q I h;refine isTrue_and (cQ (ha ah s σ H _ I h) λc s1 ⟨H1,I1,q1⟩=>?_);cases c with
 | true=>exact hb wh ah s1 σ H1 Q I1 q1
 | false=>exact⟨H1,I1,q1⟩
def lY (ha:PT X a tA)(hb:PW X (.BoolOp .Or (b::rest) pos) RW):PW X (.BoolOp .Or (a::b::rest) pos) (tOr tA RW):=by
 intro wh ah s σ H Q I h;refine isTrue_or (cQ (ha ah s σ H _ I h) λc s1 ⟨H1,I1,q1⟩=>?_);cases c with
 | true=>exact⟨H1,I1,q1⟩
 | false=>exact hb wh ah s1 σ H1 Q I1 q1
def iE (ha:PT X a tA):PT X (.UnaryOp .Not a pos) (TV tA):=by
 intro ah s σ H Q I h;exact isTrue_not (ha ah s σ H (λc H1=>Q (!c) H1) I h)
def Ph (ta tb:TE):TE:=λσ H Q=>ta σ H λx H1=>∃c,x=.bl c/\if c=true then tb σ H1 Q else Q (.bl false) H1
def TU (ta tb:TE):TE:=λσ H Q=>ta σ H λx H1=>∃c,x=.bl c/\if c=true then Q (.bl true) H1 else tb σ H1 Q
def O6 (ta:TE):TE:=λσ H Q=>ta σ H λx H1=>∃c,x=.bl c/\Q (.bl (!c)) H1
def kT {op}{t:TE}(h:PE X a t):PE X (.BoolOp op [a] pos) t:=λah s σ H Q I hw=>BoolOp_one (h ah s σ H Q I hw)
def kU (ha:PE X a ta)(hb:PE X (.BoolOp .And (b::rest) pos) tb):PE X (.BoolOp .And (a::b::rest) pos) (Ph ta tb):=by
 intro ah s σ H Q I h;refine BoolOp_and (cQ (ha ah s σ H _ I h) λv s1 ⟨x,H1,I1,r1,q1⟩=>?_);obtain⟨c,rfl,q1⟩:=q1;cases r1;refine ku ?_;cases c with
 | true=>exact hb ah s1 σ H1 Q I1 q1
 | false=>exact⟨.bl false,H1,I1,rfl,q1⟩
def Kz (ha:PE X a ta)(hb:PE X (.BoolOp .Or (b::rest) pos) tb):PE X (.BoolOp .Or (a::b::rest) pos) (TU ta tb):=by
 intro ah s σ H Q I h;refine BoolOp_or (cQ (ha ah s σ H _ I h) λv s1 ⟨x,H1,I1,r1,q1⟩=>?_);obtain⟨c,rfl,q1⟩:=q1;cases r1;refine ku ?_;cases c with
 | false=>exact hb ah s1 σ H1 Q I1 q1
 | true=>exact⟨.bl true,H1,I1,rfl,q1⟩
def zZ (ha:PE X a ta):PE X (.UnaryOp .Not a pos) (O6 ta):=by
 intro ah s σ H Q I h;refine UnaryOp_ (cQ (ha ah s σ H _ I h) λv s1 ⟨x,H1,I1,r1,q1⟩=>?_);obtain⟨c,rfl,q1⟩:=q1;cases r1;exact not_of (ku ⟨.bl (!c),H1,I1,rfl,q1⟩)
def tIf (t:TT)(ta tb:TE):TE:=λσ H Q=>t σ H λc H1=>if c=true then ta σ H1 Q else tb σ H1 Q
def rT {c:Expr}(hc:PT X c tA)(ha:PE X a ta)(hb:PE X b tb):PE X (.IfExp c a b pos) (tIf tA ta tb):=by
 intro ah s σ H Q I h;refine wpAny_IfExp (cQ (hc ah s σ H _ I h) λd s1 ⟨H1,I1,q1⟩=>?_);cases d with
 | true=>exact ha ah s1 σ H1 Q I1 q1
 | false=>exact hb ah s1 σ H1 Q I1 q1
end
def aH (K:ba)(H:Hp)(a:Addr)(xs:List V):Prop :=
 Rd H a (.lst xs) \/
  ∃(o:Obj)(aT:Array Value) (n:Nat),K.lookup a=some o/\o.cls=.type "list" /\ o.dict=none/\o.data=.seq aT n/\aT.size<=sizeLine/\bf xs aT.toList
def aS (K:ba)(H:Hp)(a:Addr)(xs:List V):Prop :=
 Rd H a (.tup xs) \/
  ∃(o:Obj)(aT:Array Value) (n:Nat),K.lookup a=some o/\o.cls=.type "tuple" /\ o.data=.seq aT n/\aT.size<=sizeLine/\bf xs aT.toList
def Xx:Value->Option V
 | .none=>some .fg
 | .bool b=>some (.bl b)
 | .int i _=>some (.int i)
 | .str x _=>some (.str x)
 | .bytes b _=>some (.AR b)
 | .float b _=>some (.Nq b)
 | .ref a=>some (.ref a)
 | .type n=>some (.ty n)
 | _=>none
def RelV.abs {x:V}{u:Value}(r:RelV x u):Xx u=some x:=by
 cases x with
 | fg=>cases r;rfl
 | bl _=>cases r;rfl
 | int _=>obtain⟨t,rfl⟩:=r;rfl
 | str _=>obtain⟨t,rfl⟩:=r;rfl
 | AR _=>obtain⟨t,rfl⟩:=r;rfl
 | Nq _=>obtain⟨t,rfl⟩:=r;rfl
 | ref _=>cases r;rfl
 | ty _=>cases r;rfl
def RelV.inj {x y:V}{u:Value}(r:RelV x u)(q:RelV y u):x=y:=ir (r.abs.symm.trans q.abs)
theorem bf.inj:∀{xs ys:List V}{us:List Value},bf xs us->bf ys us->xs=ys
 | _,_,_,.nil,.nil=>rfl
 | _,_,_,.cons r t,.cons r' t'=>by rw [r.inj r',bf.inj t t']
section
variable {X:Cx}{ah:List (Addr×Obj)}{σ:St}{H:Hp}{s:Shared}{a:Addr}{xs ys:List V}
def aH.of {K:ba}(h:H a=some (.lst xs)):aH K H a xs:=.inl (.inl h)
def aS.of {K:ba}(h:H a=some (.tup xs)):aS K H a xs:=.inl (.inl h)
def Inv.list (I:Inv X ah σ H s)(h:aH X.K H a xs):∃aT:List Value,bf xs aT/\PlainL s.heap a aT.toArray/\xs.length<=sizeLine:=by
 rcases h with h | ⟨o,aT,n,hk,hc,hd,hs,hz,r⟩
 .obtain⟨z,aT,n,r,e⟩:=h.ok I.cw;exact⟨aT,r,⟨_,n,e,rfl,rfl,rfl⟩,z⟩
 refine⟨aT.toList,r,⟨o,n,I.wC a o hk,hc,hd,by simpa using hs⟩,?_⟩;have e:=r.length;simp only [rg] at e;omega
def Inv.tuple (I:Inv X ah σ H s)(h:aS X.K H a xs):∃aT:List Value,bf xs aT/\IsTup s.heap a aT.toArray/\xs.length<=sizeLine:=by
 rcases h with h | ⟨o,aT,n,hk,hc,hs,hz,r⟩
 .obtain⟨z,aT,r,p⟩:=h.ok I.cw;exact⟨aT,r,p,z⟩
 refine⟨aT.toList,r,⟨o,I.wC a o hk,hc,n,by simpa using hs⟩,?_⟩;have e:=r.length;simp only [rg] at e;omega
def Inv.rY (I:Inv X ah σ H s)(h:aH X.K H a xs)(h':aH X.K H a ys):xs=ys:=by
 obtain⟨aT,r,⟨o,n,e,_,_,d⟩,_⟩:=I.list h;obtain⟨tT,r',⟨o',n',e',_,_,d'⟩,_⟩:=I.list h';rw [e] at e';cases e';rw [d] at d';injection d' with d1 _;have:aT=tT:=by simpa using congrArg Array.toList d1
 subst this;exact r.inj r'
def Inv.ue (I:Inv X ah σ H s)(h:aS X.K H a xs)(h':aS X.K H a ys):xs=ys:=by
 obtain⟨aT,r,⟨o,e,_,n,d⟩,_⟩:=I.tuple h;obtain⟨tT,r',⟨o',e',_,n',d'⟩,_⟩:=I.tuple h';rw [e] at e';cases e';rw [d] at d';injection d' with d1 _;have:aT=tT:=by simpa using congrArg Array.toList d1
 subst this;exact r.inj r'
end
abbrev Cx.qh (X:Cx)(E:Value->Shared->Prop):Cx:={ X with xe:=E }
abbrev Cx.CS (X:Cx):Cx:=X.qh λ_ _=>False
theorem Cx.Ok.qh {X:Cx}(ok:X.Ok)(E:Value->Shared->Prop):(X.qh E).Ok :=
 ⟨ok.mod,ok.kind,ok.glob,ok.blt,ok.above,ok.inj,ok.has,ok.Rv,ok.hd,ok.frames,ok.RZ,ok.OB,ok.bs,ok.Iy,ok.FZ,ok.Dr,ok.pD,ok.K8⟩
def Cx.Ok.jd {X:Cx}{E:Value->Shared->Prop}(ok:(X.qh E).Ok):X.Ok :=
 ⟨ok.mod,ok.kind,ok.glob,ok.blt,ok.above,ok.inj,ok.has,ok.Rv,ok.hd,ok.frames,ok.RZ,ok.OB,ok.bs,ok.Iy,ok.FZ,ok.Dr,ok.pD,ok.K8⟩
section
variable {X:Cx}{ah:List (Addr×Obj)}{σ:St}{H:Hp}{s:Shared}{E:Value->Shared->Prop}
theorem Inv.qh (I:Inv X ah σ H s)(E:Value->Shared->Prop):Inv (X.qh E) ah σ H s:=⟨I.ok.qh E,I.os,I.bare,I.base,I.loc,I.cell,I.free,I.l8,I.pin,I.cw,I.len⟩
theorem Inv.jd (I:Inv (X.qh E) ah σ H s):Inv X ah σ H s:=⟨I.ok.jd,I.os,I.bare,I.base,I.loc,I.cell,I.free,I.l8,I.pin,I.cw,I.len⟩
theorem SP.jd {D:Ends}{f:Flow}{s':Shared}(h:SP (X.qh E) ah D f s'):SP X ah D f s':=by
 cases f with
 | next=>obtain⟨σ',H',I,q⟩:=h;exact⟨σ',H',I.jd,q⟩
 | brk=>obtain⟨σ',H',I,q⟩:=h;exact⟨σ',H',I.jd,q⟩
 | cont=>obtain⟨σ',H',I,q⟩:=h;exact⟨σ',H',I.jd,q⟩
 | ret u=>obtain⟨v,σ',H',I,r,q⟩:=h;exact⟨v,σ',H',I.jd,r,q⟩
theorem PE.CS {e:Expr}{t:TE}(h:PE X.CS e t):PE X e t:=λah s σ H Q I hw =>
 dJ (h ah s σ H Q (I.qh _) hw) (λ_ _ ⟨v,H',I',r,q⟩=>⟨v,H',I'.jd,r,q⟩) λ_ _ z=>False.elim z
theorem PT.CS {e:Expr}{t:TT}(h:PT X.CS e t):PT X e t:=λah s σ H Q I hw =>
 dJ (h ah s σ H Q (I.qh _) hw) (λ_ _ ⟨H',I',q⟩=>⟨H',I'.jd,q⟩) λ_ _ z=>False.elim z
theorem AW.CS {st:List Stmt}{t:TS}(h:AW X.CS st t):AW X st t:=λah s σ H D I hw =>
 dJ (h ah s σ H D (I.qh _) hw) (λ_ _ q=>q.jd) λ_ _ z=>False.elim z
end
section
variable {X:Cx}{st:Stmt}{rest:List Stmt}{t u:TS}{e:Expr}{te:TE}{pos:Pos}
def O7:TS:=λD σ H=>D.nx σ H
def LG (t u:TS):TS:=λD σ H=>t { D with nx:=u D } σ H
def aQ:AW X [] O7:=λ_ _ σ H _ I h=>wpAny_execs_nil ⟨σ,H,I,h⟩
def ai (h1:PS X st t)(h2:AW X rest u):AW X (st::rest) (LG t u):=by
 intro ah s σ H D I h;refine wpAny_execs_cons (cQ (h1 ah s σ H { D with nx:=u D } I h) λf s1 q=>?_);cases f with
 | next =>
  obtain⟨σ',H',I',q⟩:=q;exact h2 ah s1 σ' H' D I' q
 | ret v=>exact q
 | brk=>exact q
 | cont=>exact q
def ak (h1:PS X st t):AW X [st] t:=by
 intro ah s σ H D I h;refine wpAny_execs_cons (cQ (h1 ah s σ H D I h) λf s1 q=>?_);cases f with
 | next=>exact wpAny_execs_nil q
 | ret v=>exact q
 | brk=>exact q
 | cont=>exact q
def LJ:TS:=λD σ H=>D.bk σ H
def Fi:PS X (.Break pos) LJ:=λ_ _ σ H _ I h=>wpAny_Break ⟨σ,H,I,h⟩
def Inv.quiet {ah:List (Addr×Obj)}{σ:St}{H:Hp}{s:Shared}(I:Inv X ah σ H s):interactive X.env=false:=by simp [interactive,I.ok.kind]
def Pc (te:TE):TS:=λD σ H=>te σ H λ_ H1=>D.nx σ H1
def cI (he:PE X e te)(hs:swapsWith e none pos.line X.env=pure false:=by rfl):PS X (.Expr e pos) (Pc te):=by
 intro ah s σ H D I h;exact wpAny_Expr_any (cQ (he ah s σ H _ I h) λv s1 ⟨x,H1,I1,r1,q1⟩=>⟨σ,H1,I1,q1⟩) I.quiet hs
def TR (te:TE):TS:=λD σ H=>te σ H D.rt
def aN (he:PE X e te):PS X (.Return (some e) pos) (TR te):=by
 intro ah s σ H D I h;exact wpAny_Return_some (cQ (he ah s σ H _ I h) λv s1 ⟨x,H1,I1,r1,q1⟩=>⟨x,σ,H1,I1,r1,q1⟩)
def T4 (c:TT)(t u:TS):TS:=λD σ H=>c σ H λb H1=>if b=true then t D σ H1 else u D σ H1
def bI {c:Expr}{a b:List Stmt}{tc:TT}(hc:PT X c tc)(ha:AW X a t)(hb:AW X b u):PS X (.If c a b pos) (T4 tc t u):=by
 intro ah s σ H D I h;refine wpAny_If (cQ (hc ah s σ H _ I h) λd s1 ⟨H1,I1,q1⟩=>?_);cases d with
 | true=>exact ha ah s1 σ H1 D I1 q1
 | false=>exact hb ah s1 σ H1 D I1 q1
def LH:TS:=λ_ _ _=>False
def iW:PS X st LH:=λ_ _ _ _ _ _ h=>h.elim
end
abbrev TG:=V->St->Hp->(St->Hp->Prop)->Prop
abbrev Lq:=List V->St->Hp->(St->Hp->Prop)->Prop
def PG (X:Cx)(target:Expr)(t:TG):Prop :=
 ∀(ah:List (Addr×Obj))(s:Shared)(σ:St)(H:Hp)(v:V)(u:Value)(Q:St->Hp->Prop),Inv X ah σ H s->RelV v u->t v σ H Q ->
  wpAny (model X.prog X.w) X.A (assign target X.env u) (λ_ s'=>∃σ' H',Inv X ah σ' H' s'/\Q σ' H') X.xe s
def RG (X:Cx)(ts:List Expr)(t:Lq):Prop :=
 ∀(ah:List (Addr×Obj))(s:Shared)(σ:St)(H:Hp)(vs:List V)(us:List Value)(Q:St->Hp->Prop),Inv X ah σ H s->bf vs us->t vs σ H Q ->
  wpAny (model X.prog X.w) X.A (assignInOrder ((assignEach ts X.env).map (·.2)) us) (λ_ s'=>∃σ' H',Inv X ah σ' H' s'/\Q σ' H') X.xe s
abbrev Te:=V->V->Hp->VK->Prop
def PIp (X:Cx)(op:Operator)(t:Te):Prop :=
 ∀(ah:List (Addr×Obj))(s:Shared)(σ:St)(H:Hp)(x y:V)(v u:Value)(Q:VK),Inv X ah σ H s->RelV x v->RelV y u->t x y H Q ->
  wpAny (model X.prog X.w) X.A (inplaceOp op v u) (EP X ah σ Q) X.xe s
section
variable {X:Cx}{pos:Pos}
def dN (i:Nat):TG:=λv σ H Q=>Q (σ.set i (some v)) H
def aq {i:Nat}{x:Str}(hN:X.N.Nodup)(hi:X.N[i]?=some x)(hx:Loc X.env.scope x)(hf:X.fn x=true\/X.env.scope.names.lookup x=some .local:=by first | exact .inl rfl | exact .inr rfl | assumption):PG X (.Name x pos) (dN i):=by
 intro ah s σ H v u Q I r h;exact wpAny_assign_Name (rC I hN hi hx r (λs' I'=>⟨_,H,I',h⟩) hf)
def Dj:Lq:=λvs σ H Q=>vs=[]/\Q σ H
def jB (t:TG)(u:Lq):Lq:=λvs σ H Q=>∃v r,vs=v::r/\t v σ H λσ' H'=>u r σ' H' Q
def b_:RG X [] Dj:=by
 intro ah s σ H vs us Q I r h;obtain⟨e,h⟩:=h;subst e;cases r;exact assignInOrder_nil ⟨σ,H,I,h⟩
def aB {e:Expr}{es:List Expr}{t:TG}{u:Lq}(h1:PG X e t)(h2:RG X es u)
  (hs:(assignEach (e::es) X.env).map (·.2)=assign e X.env::(assignEach es X.env).map (·.2):=by rfl):RG X (e::es) (jB t u):=by
 intro ah s σ H vs us Q I r h;obtain⟨v,vr,e1,h⟩:=h;subst e1;cases r with
 | cons r rr =>
  rw [hs];refine assignInOrder_cons (cQ (h1 ah s σ H _ _ _ I r h) λ_ s1 ⟨σ1,H1,I1,q1⟩=>?_);exact h2 ah s1 σ1 H1 _ _ Q I1 rr q1
def AA (K:ba) (n:Nat)(t:Lq):TG:=λv σ H Q=>∃a xs,v=.ref a/\aS K H a xs/\xs.length=n/\t xs σ H Q
def g7 {es:List Expr}{k:Nat}{t:Lq}{n:Nat}(hc:X.calm=true)(h:RG X es t)
  (hn:(assignEach es X.env).length=n:=by rfl)(yU:(assignEach es X.env).findIdx? (·.1)=none:=by rfl):PG X (.Tuple es k pos) (AA X.K n t):=by
 intro ah s σ H v u Q I r hw;obtain⟨a,xs,e1,hq,hl,hw⟩:=hw;subst e1;cases r;obtain⟨aT,rv,ht,hz⟩:=I.tuple hq;refine assign_Tuple_tuple (I.ok.hd hc) ht (by simp [hn,<-hl,rv.length]) yU λh' hx=>?_;have I1:Inv X ah σ H { s with heap:=h' }:=I.kept (t':=s.toks) λb o e=>hx b o (cv (bN e)) e;exact h ah _ σ H xs _ Q I1 (by simpa using rv) hw
def LK (te:TE)(g:TG):TS:=λD σ H=>te σ H λx H1=>g x σ H1 D.nx
def Mh {tg e:Expr}{te:TE}{g:TG}(he:PE X e te)(hg:PG X tg g)(hs:swapsWithSole [tg] e pos.line X.env=pure false:=by rfl)(hw:swappedStores [tg] e X.env=pure none:=by rfl)
  (h1:(assignEach [tg] X.env).map (·.2)=[assign tg X.env]:=by rfl):PS X (.Assign [tg] e pos) (LK te g):=by
 intro ah s σ H D I h;refine wpAny_Assign_stores (cQ (he ah s σ H _ I h) λv s1 ⟨x,H1,I1,r1,q1⟩=>?_) hs hw;rw [h1];exact cQ (hg ah s1 σ H1 x v _ I1 r1 q1) λ_ s2 q=>q
def az {i:Nat}{x:Str}{e:Expr}{te:TE}{pos':Pos}(hN:X.N.Nodup)(hi:X.N[i]?=some x)(hx:Loc X.env.scope x)(he:PE X e te)(hs:swapsWith e (some (.Name x pos')) pos.line X.env=pure false:=by rfl)(hf:X.fn x=true\/X.env.scope.names.lookup x=some .local:=by first | exact .inl rfl | exact .inr rfl | assumption) :
  PS X (.Assign [.Name x pos'] e pos) (LK te (dN i)):=by
 intro ah s σ H D I h;refine wpAny_Assign_Name (cQ (he ah s σ H _ I h) λv s1 ⟨y,H1,I1,r1,q1⟩=>?_) hs;exact rC I1 hN hi hx r1 (λs2 I2=>⟨_,H1,I2,q1⟩) hf
def T8 (i:Nat)(te:TE)(ti:Te):TS:=λD σ H=>∃x,σ[i]?=some (some x)/\te σ H λy H1=>ti x y H1 λz H2=>D.nx (σ.set i (some z)) H2
def Mg {i:Nat}{x:Str}{e:Expr}{te:TE}{op:Operator}{ti:Te}{pos':Pos}(hN:X.N.Nodup)(hi:X.N[i]?=some x)(hx:Loc X.env.scope x)(he:PE X e te)(ho:PIp X op ti)(hf:X.fn x=true\/X.env.scope.names.lookup x=some .local:=by first | exact .inl rfl | exact .inr rfl | assumption) :
  PS X (.AugAssign (.Name x pos') op e pos) (T8 i te ti):=by
 intro ah s σ H D I h;obtain⟨v,e1,h⟩:=h;obtain⟨m,hn,hl⟩:=I.loc;have vis:Td X.env.scope x:=by rcases hx with k | k;exact .inl k;exact .inr (.inl k)
 obtain⟨u,r,l⟩:=hl i x v hi e1 vis;refine wpAny_AugAssign_Name ?_;have go:wpAny (model X.prog X.w) X.A (eval e X.env) (λw s₂=>wpAny (model X.prog X.w) X.A (inplaceOp op u w) (λr s₃=>wpAny (model X.prog X.w) X.A (storeName X.env x r) (λ_=>SP X ah D .next) X.xe s₃) X.xe s₂) X.xe s:=by
  refine cQ (he ah s σ H _ I h) λw s1 ⟨y,H1,I1,r1,q1⟩=>?_;refine cQ (ho ah s1 σ H1 v y u w _ I1 r r1 q1) λz s2 ⟨zv,H2,I2,r2,q2⟩=>?_;exact rC I2 hN hi hx r2 (λs3 I3=>⟨_,H2,I3,q2⟩) hf
 rcases l with ⟨hk,hm⟩ | ⟨hk,c,hc,jz⟩
 .exact vk I.ok.kind hk hn hm go
 rcases hk with hk | hk
 .exact wpAny_loadName_cell I.ok.kind hk hc jz go
 rcases hx with k | k
 .have:X.env.scope.names.lookup x=some .free:=hk;rw [k] at this;cases this
 have:X.env.scope.names.lookup x=some .free:=hk;rw [k] at this;cases this
def ipI (f:Int->Int->Int):Te:=λx y H Q=>∃i j,x=.int i/\y=.int j/\Q (.int (f i j)) H
def MO:PIp X .Add (ipI λi j=>i+j):=by
 intro ah s σ H x y v u Q I r1 r2 h;obtain⟨i,j,e1,e2,q⟩:=h;subst e1;subst e2;obtain⟨t,rfl⟩:=r1;obtain⟨t',rfl⟩:=r2;exact iadd_int ⟨.int _,H,I.tok _,⟨_,rfl⟩,q⟩
end
section
variable {X:Cx}{pos:Pos}
def LD (c:TT)(tb:TS):TS:=λD σ H=>∃W:Nat->St->Hp->Prop,(∃m,W m σ H)/\∀m σ H,W m σ H ->
 c σ H λb H1=>if b=true then ∃N:St->Hp->Prop,(∀σ' H',N σ' H'->∃m',m' < m/\W m' σ' H')/\tb { D with nx:=N,ct:=N,bk:=D.nx } σ H1 else D.nx σ H1
def kS {c:Expr}{body:List Stmt}{tc:TT}{tb:TS}(hp:PassesOwn (model X.prog X.w) X.A X.env X.xe)(hc:PT X c tc)(hb:AW X body tb):PS X (.While c body [] pos) (LD tc tb):=by
 intro ah s σ H D I h;obtain⟨W,⟨m0,w0⟩,turn⟩:=h;refine wpAny_While (codeAny_whileLoop (λn s'=>∃σ' H',Inv X ah σ' H' s'/\W n σ' H') ?_ m0 ⟨σ,H,I,w0⟩);rintro n s1 ⟨σ1,H1,I1,w1⟩;refine ml hp (cQ (hc ah s1 σ1 H1 _ I1 (turn n σ1 H1 w1)) λb s2 ⟨H2,I2,q2⟩=>?_);cases b with
 | true =>
  obtain⟨N,hN,q2⟩:=q2;rw [ax rfl];refine ml hp (cQ (hb ah s2 σ1 H2 _ I2 q2) λf s3 q3=>?_);cases f with
  | next =>
   obtain⟨σ3,H3,I3,n3⟩:=q3;obtain⟨m',hm,w3⟩:=hN σ3 H3 n3;exact⟨m',hm,σ3,H3,I3,w3⟩
  | cont =>
   obtain⟨σ3,H3,I3,n3⟩:=q3;obtain⟨m',hm,w3⟩:=hN σ3 H3 n3;exact⟨m',hm,σ3,H3,I3,w3⟩
  | brk=>exact q3
  | ret v=>exact q3
 | false =>
  rw [ay eF];exact wpAny_execs_nil ⟨σ1,H2,I2,q2⟩
end
structure It where
 go:Nat->Hp->Prop
 mP:Nat->Hp->V->Hp->Prop
 stop:Nat->Hp->Prop
def w5 (X:Cx)(ah:List (Addr×Obj))(H:Hp)(b:Addr):Prop :=
 H b=none/\b≠X.env.locals/\b∉X.fs/\(b∈X.ex\/X.s₀.heap.objs.size<=b)/\(∀x c,X.env.cells.lookup x=some c->c≠b)/\∀p∈X.pn++ah,p.1≠b
def Inv.wK {X:Cx}{ah:List (Addr×Obj)}{σ:St}{H H':Hp}{s:Shared}{b:Addr}(I:Inv X ah σ H s)(hb:s.heap.objs.size<=b)(hn:H' b=none):w5 X ah H' b:=by
 refine⟨hn,lU (gL I.lt hb),I.UL hb,.inr (dX I.sz hb),λx c e z=>?_,λp hp z=>?_⟩
 .obtain⟨v,q⟩:=I.cell x c e;exact absurd (gL q.lt (by rw [z];exact hb)) (kK _)
 exact absurd (gL (bN (I.pin p hp).1) (by rw [z];exact hb)) (kK _)
structure Turn (P:Program)(w:World)(K:ba)(tg:Expr)(J:It)(fp:List Addr)(it:Addr)(tn:Nat->Heap->Prop):Prop where
 mem:it∈fp
 obj:∀i h,tn i h->∀b∈fp,∃o,h.get? b=some o/\∀v,o.data≠.cell v
 keep:∀i h h',tn i h->(∀b∈fp,∀o,h.get? b=some o->h'.get? b=some o)->tn i h'
 item:∀(X:Cx),X.prog=P->X.w=w->X.K=K->X.calm=true->∀(i:Nat)(ah:List (Addr×Obj))(s:Shared)(σ:St)(H:Hp)(E:Value->Shared->Prop),Inv X ah σ H s->(∀b∈fp,w5 X ah H b)->tn i s.heap->J.go i H ->
  wpAny (model P w) X.A (pyNext (.ref it)) (λr s1=>∃u,r=some u /\
   wpAny (model P w) X.A (letOwnedTupleGo tg (.ref it) u) (λ_ s2=>∃x H',Inv X ah σ H' s2/\RelV x u/\J.mP i H x H'/\tn (i+1) s2.heap/\∀b∈fp,H' b=none) E s1) E s
 done:∀(X:Cx),X.prog=P->X.w=w->X.K=K->X.calm=true->∀(i:Nat)(ah:List (Addr×Obj))(s:Shared)(σ:St)(H:Hp)(E:Value->Shared->Prop),Inv X ah σ H s->(∀b∈fp,w5 X ah H b)->tn i s.heap->J.stop i H ->
  wpAny (model P w) X.A (pyNext (.ref it)) (λr s1=>r=none/\Inv X ah σ H s1) E s
 self:∀(A:Around) (i:Nat)(s:Shared)(Q:Value->Shared->Prop)(E:Value->Shared->Prop),tn i s.heap->Q (.ref it) s->wpAny (model P w) A (pyIter (.ref it)) Q E s
abbrev TI:=St->Hp->(It->Hp->Prop)->Prop
def PIE (X:Cx)(ah:List (Addr×Obj))(σ:St)(tg:Expr)(R:It->Hp->Prop)(Sq:Value)(s2:Shared):Prop :=
 ∃(it:Addr)(fp:List Addr)(tn:Nat->Heap->Prop)(J:It)(H':Hp),Sq=.ref it/\Inv X ah σ H' s2/\Turn X.prog X.w X.K tg J fp it tn/\tn 0 s2.heap/\(∀b∈fp,w5 X ah H' b)/\R J H'
def PI (X:Cx)(tg iter:Expr)(wi:TI):Prop :=
 ∀(ah:List (Addr×Obj))(s:Shared)(σ:St)(H:Hp)(R:It->Hp->Prop),Inv X ah σ H s->wi σ H R ->
  wpAny (model X.prog X.w) X.A (eval iter X.env) (λv s1=>wpAny (model X.prog X.w) X.A (pyIter v) (PIE X ah σ tg R) X.xe s1) X.xe s
def BQ {M:Model}{A:Around}{E:Value->Shared->Prop}{s:Shared}{tg:Expr}{it:Addr}{u:Value}{o:Obj}{n:String}{vs:Array Value}{Q:Unit->Shared->Prop}(ho:s.heap.get? it=some o)(hc:o.cls=.type n)(hd:o.data=.fields vs)
  (hn:["enumerate","zip","dict_itemiterator","dict_reverseitemiterator","odict_iterator","itertools.zip_longest","itertools.pairwise"].contains n=false)(hQ:Q () s):wpAny M A (letOwnedTupleGo tg (.ref it) u) Q E s:=by
 unfold letOwnedTupleGo;cases tg <;> first
  | exact aP hQ
  | (cases u <;> first
    | exact aP hQ
    | (refine aE (wpAny_load ho ?_)
       rw [hc,hd];show wpAny M A (if (["enumerate","zip","dict_itemiterator","dict_reverseitemiterator","odict_iterator","itertools.zip_longest","itertools.pairwise"].contains n && vs[0]? == some (rawInt _))=true then _ else _) Q E s;rw [ay (by intro h;rw [hn,qT] at h;cases h)];exact aP hQ))
def ke (K:ba)(a:Addr):It :=
 ⟨λi H=>∃xs x,aH K H a xs/\xs[i]?=some x,λi H x H'=>H'=H/\∀xs,aH K H a xs->xs[i]?=some x,λi H=>∃xs,aH K H a xs/\xs.length<=i⟩
def oC (K:ba)(a:Addr):It :=
 ⟨λi H=>∃xs x,aS K H a xs/\xs[i]?=some x,λi H x H'=>H'=H/\∀xs,aS K H a xs->xs[i]?=some x,λi H=>∃xs,aS K H a xs/\xs.length<=i⟩
def OS (lo:Int) (n:Nat):It:=⟨λi _=>i < n,λi H x H'=>H'=H/\x=.int (lo+i),λi _=>n<=i⟩
def Ck {P:Program}{w:World}{K:ba}{tg:Expr}(a it:Addr):Turn P w K tg (ke K a) [it] it (λi h=>h.IsListIter it a i) where
 mem:=by simp
 obj:=λi h st b hb=>by
  have e:b=it:=by simpa using hb
  subst e;obtain⟨o,e,c,d⟩:=st;exact⟨o,e,λv z=>by rw [d] at z;cases z⟩
 keep:=λi h h' st k=>st.at λo e=>k it (by simp) o e
 item:=by
  intro X hP hw hK hc i ah s σ H E I hf st hg;subst hP hw hK;obtain⟨xs,x,hq,hx⟩:=hg;obtain⟨aT,rv,p,hz⟩:=I.list hq;obtain⟨u,hu,ru⟩:=rv.get hx;obtain⟨f0,f1,f2,f3,f4,f5⟩:=hf it (by simp);refine wpAny_pyNext_list_item st p.isList (x:=u) (by simpa using hu) λh' xc sb=>?_;have I1:Inv X ah σ H { s with heap:=h' }:=I.turned (t':=s.toks) (λb o hb e=>(sb.2 b hb).trans e) f0 f1 f3 f4 f5;obtain⟨o,e,c,d⟩:=id xc;exact⟨u,rfl,BQ (s:={ s with heap:=h' }) e c d (by decide) ⟨x,H,I1,ru,⟨rfl,λys hy=>by rw [I.rY hy hq];exact hx⟩,xc,λb hb=>(hf b hb).1⟩⟩
 done:=by
  intro X hP hw hK hc i ah s σ H E I hf st hg;subst hP hw hK;obtain⟨xs,hq,hx⟩:=hg;obtain⟨aT,rv,p,hz⟩:=I.list hq;obtain⟨f0,f1,f2,f3,f4,f5⟩:=hf it (by simp);have hl:=rv.length;exact vq (I.ok.hd hc) st p.isList (by simp;omega) λh' eb=>⟨rfl,I.turned (t':=s.toks) (λb o hb e=>eb b o hb e) f0 f1 f3 f4 f5⟩
 self:=λ_ _ _ _ _ st h=>wpAny_pyIter_listiter st h
def zr {P:Program}{w:World}{K:ba}{tg:Expr}(a it:Addr):Turn P w K tg (oC K a) [it] it (λi h=>h.IsTupleIter it a i) where
 mem:=by simp
 obj:=λi h st b hb=>by
  have e:b=it:=by simpa using hb
  subst e;obtain⟨o,e,c,d⟩:=st;exact⟨o,e,λv z=>by rw [d] at z;cases z⟩
 keep:=λi h h' st k=>st.at λo e=>k it (by simp) o e
 item:=by
  intro X hP hw hK hc i ah s σ H E I hf st hg;subst hP hw hK;obtain⟨xs,x,hq,hx⟩:=hg;obtain⟨aT,rv,p,hz⟩:=I.tuple hq;obtain⟨u,hu,ru⟩:=rv.get hx;obtain⟨f0,f1,f2,f3,f4,f5⟩:=hf it (by simp);refine wpAny_pyNext_tuple_item st (show s.heap.IsTuple a aT.toArray from p) (x:=u) (by simpa using hu) λh' xc sb=>?_;have I1:Inv X ah σ H { s with heap:=h' }:=I.turned (t':=s.toks) (λb o hb e=>(sb.2 b hb).trans e) f0 f1 f3 f4 f5;obtain⟨o,e,c,d⟩:=id xc;exact⟨u,rfl,BQ (s:={ s with heap:=h' }) e c d (by decide) ⟨x,H,I1,ru,⟨rfl,λys hy=>by rw [I.ue hy hq];exact hx⟩,xc,λb hb=>(hf b hb).1⟩⟩
 done:=by
  intro X hP hw hK hc i ah s σ H E I hf st hg;subst hP hw hK;obtain⟨xs,hq,hx⟩:=hg;obtain⟨aT,rv,p,hz⟩:=I.tuple hq;obtain⟨f0,f1,f2,f3,f4,f5⟩:=hf it (by simp);have hl:=rv.length;exact wpAny_pyNext_tuple_end (I.ok.hd hc) st (show s.heap.IsTuple a aT.toArray from p) (by simp;omega) λh' eb=>⟨rfl,I.turned (t':=s.toks) (λb o hb e=>eb b o hb e) f0 f1 f3 f4 f5⟩
 self:=λ_ _ _ _ _ st h=>wpAny_pyIter_tupleiter st h
def zt {P:Program}{w:World}{K:ba}{tg:Expr}(it:Addr) (lo:Int) (n:Nat):Turn P w K tg (OS lo n) [it] it (λi h=>IsRangeIter h it (lo+(i:Nat) * 1) ((n:Int) - (i:Nat)) 1) where
 mem:=by simp
 obj:=λi h st b hb=>by
  have e:b=it:=by simpa using hb
  subst e;exact⟨_,st,λv z=>by
   have z':Data.fields _=Data.cell v:=z;cases z'⟩
 keep:=λi h h' st k=>k it (by simp) _ st
 item:=by
  intro X hP hw hK hc i ah s σ H E I hf st hg;subst hP hw hK;obtain⟨f0,f1,f2,f3,f4,f5⟩:=hf it (by simp);have W:=Walks.range (prog:=X.prog) (w:=X.w) (I.ok.hd hc) it lo 1 n;refine W.item i s _ _ hg st λv h' tk hv xc kk=>?_;obtain⟨t,rfl⟩:=hv;have I1:Inv X ah σ H { s with heap:=h',toks:=tk }:=I.turned (λb o hb e=>kk b o (by simpa using hb) e) f0 f1 f3 f4 f5;refine⟨_,rfl,BQ (s:={ s with heap:=h',toks:=tk }) (n := "range_iterator") xc rfl rfl (by decide) ⟨.int (lo+i),H,I1,⟨t,?_⟩,⟨rfl,rfl⟩,xc,λb hb=>(hf b hb).1⟩⟩;rw [Int.mul_one]
 done:=by
  intro X hP hw hK hc i ah s σ H E I hf st hg;subst hP hw hK;obtain⟨f0,f1,f2,f3,f4,f5⟩:=hf it (by simp);exact wpAny_pyNext_range_end (I.ok.hd hc) st (by have:n<=i:=hg;omega) λh' eb=>⟨rfl,I.turned (t':=s.toks) (λb o hb e=>eb b o hb e) f0 f1 f3 f4 f5⟩
 self:=λ_ _ _ _ _ st h=>wpAny_pyIter_rangeiter st h
section
variable {X:Cx}{tg:Expr}
def Qo (K:ba)(tl:TE):TI:=λσ H R=>tl σ H λx H1=>∃a,x=.ref a/\(∃xs,aH K H1 a xs)/\R (ke K a) H1
def Vk (K:ba)(tl:TE):TI:=λσ H R=>tl σ H λx H1=>∃a,x=.ref a/\(∃xs,aS K H1 a xs)/\R (oC K a) H1
def a8 {l:Expr}{tl:TE}(hl:PE X l tl):PI X tg l (Qo X.K tl):=by
 intro ah s σ H R I h;refine cQ (hl ah s σ H _ I h) λv s1 ⟨x,H1,I1,r1,q1⟩=>?_;obtain⟨a,e,⟨xs,hq⟩,q⟩:=q1;subst e;cases r1;obtain⟨aT,rv,p,hz⟩:=I1.list hq;refine oQ p.isList ?_;refine⟨s1.heap.objs.size,[s1.heap.objs.size],_,_,H1,rfl,I1.kept (t':=s1.toks) λb o e=>cu _ e,Ck a _,⟨_,dZ _ rfl,rfl,rfl⟩,λb hb=>?_,q⟩;have e:b=s1.heap.objs.size:=by simpa using hb
 subst e;exact I1.wK (aF _) (I1.cw.fresh (aF _))
def fZ {l:Expr}{tl:TE}(hl:PE X l tl):PI X tg l (Vk X.K tl):=by
 intro ah s σ H R I h;refine cQ (hl ah s σ H _ I h) λv s1 ⟨x,H1,I1,r1,q1⟩=>?_;obtain⟨a,e,⟨xs,hq⟩,q⟩:=q1;subst e;cases r1;obtain⟨aT,rv,p,hz⟩:=I1.tuple hq;refine vc (show s1.heap.IsTuple a aT.toArray from p) ?_;refine⟨s1.heap.objs.size,[s1.heap.objs.size],_,_,H1,rfl,I1.kept (t':=s1.toks) λb o e=>cu _ e,zr a _,⟨_,dZ _ rfl,rfl,rfl⟩,λb hb=>?_,q⟩;have e:b=s1.heap.objs.size:=by simpa using hb
 subst e;exact I1.wK (aF _) (I1.cw.fresh (aF _))
def Ff {ah:List (Addr×Obj)}{σ:St}{H:Hp}{s:Shared}{R:It->Hp->Prop}{E:Value->Shared->Prop}{lo hi:Int}{t u v:Tok}{tk:Nat}(I:Inv X ah σ H s)(h1:-(2 ^ 62)<=lo)(h2:lo < 2 ^ 62)(h3:-(2 ^ 62)<=hi)(h4:hi < 2 ^ 62)
  (q:R (OS lo (hi - lo).toNat) H):wpAny (model X.prog X.w) X.A (pyIter (.ref s.heap.objs.size)) (PIE X ah σ tg R) E { s with heap:=s.heap.push { cls:=.type "range",data:=.fields #[.int lo t,.int hi u,.int 1 v] },toks:=tk }:=by
 refine wpAny_pyIter_range (IsRange.new ..) (small_one h1 h2 h3 h4) ?_;have I1:Inv X ah σ H { s with heap:=s.heap.push { cls:=.type "range",data:=.fields #[.int lo t,.int hi u,.int 1 v] },toks:=tk }:=I.kept λb o e=>cu _ e;refine⟨(s.heap.push { cls:=.type "range",data:=.fields #[.int lo t,.int hi u,.int 1 v] }).objs.size,[(s.heap.push { cls:=.type "range",data:=.fields #[.int lo t,.int hi u,.int 1 v] }).objs.size],_,_,H,rfl,
  I1.kept (t':=tk) λb o e=>cu _ e,zt _ lo (hi - lo).toNat,?_,λb hb=>?_,q⟩
 .have e1:lo+((0:Nat):Int) * 1=lo:=by simp
  have e2:(((hi - lo).toNat:Nat):Int) - ((0:Nat):Int)=Builtin.Range.rangeSize lo hi 1:=by rw [rangeSize_one];split <;> omega
  show IsRangeIter _ _ (lo+((0:Nat):Int) * 1) ((((hi - lo).toNat:Nat):Int) - ((0:Nat):Int)) 1;rw [e1,e2];exact dZ _ rfl
 have e:b=(s.heap.push { cls:=.type "range",data:=.fields #[.int lo t,.int hi u,.int 1 v] }).objs.size:=by simpa using hb
 subst e;exact I1.wK (aF _) (I1.cw.fresh (aF _))
def Qn (ta:TA):TI:=λσ H R=>ta σ H λvs H1=>∃j:Int,vs=[.int j]/\-(2 ^ 62)<=j/\j < 2 ^ 62/\R (OS 0 j.toNat) H1
def gM {a:Expr}{ta:TA}{p pos:Pos}(hg:Gl X "range")(hm:X.mg "range"=none)(ha:PA X [a] ta)(hs:starEach [a] X.env=[(false,eval a X.env)]:=by rfl):PI X tg (.Call (.Name "range" p) [a] [] pos) (Qn ta):=by
 intro ah s σ H R I h;refine Call_ (jV I hg hm boot_range (vC (cQ (ha pos ah s σ H _ I h) λus s1 ⟨vs,H1,I1,r1,q1⟩=>?_) hs rfl));obtain⟨j,e,q1,q2,q⟩:=q1;subst e;cases r1 with
 | cons r rr =>
  cases rr;obtain⟨t,rfl⟩:=r;exact call_range_1 (Ff I1 ∅ ∅ q1 q2 (by simpa using q))
def T5 (wi:TI)(g:TG)(tb:TS):TS:=λD σ H=>wi σ H λJ H1=>∃W:Nat->Nat->St->Hp->Prop,(∃m,W 0 m σ H1)/\∀i m σ H,W i m σ H ->
 (J.stop i H/\D.nx σ H)\/(J.go i H/\∃N:St->Hp->Prop,(∀σ' H',N σ' H'->∃m',m' < m/\W (i+1) m' σ' H')/\∀x H',J.mP i H x H'->g x σ H' λσ2 H2=>tb { D with nx:=N,ct:=N,bk:=D.nx } σ2 H2)
def ph (fp:List Addr)(h:Heap):List (Addr×Obj):=fp.filterMap λb=>(h.get? b).map λo=>(b,o)
def ij {fp:List Addr}{h:Heap}{b:Addr}{o:Obj}(hb:b∈fp)(e:h.get? b=some o):(b,o)∈ph fp h:=List.mem_filterMap.mpr ⟨b,hb,by rw [e];rfl⟩
def CP {fp:List Addr}{h:Heap}{p:Addr×Obj}(hp:p∈ph fp h):p.1∈fp/\h.get? p.1=some p.2:=by
 obtain⟨b,hb,e⟩:=List.mem_filterMap.mp hp;cases q:h.get? b with
 | none=>rw [q] at e;cases e
 | some o =>
  rw [q] at e;have e':(b,o)=p:=ir e;subst e';exact⟨hb,q⟩
def Inv.pinned {ah:List (Addr×Obj)}{σ:St}{H:Hp}{s:Shared}{fp:List Addr}(I:Inv X ah σ H s)(hf:∀b∈fp,w5 X ah H b)(ho:∀b∈fp,∃o,s.heap.get? b=some o/\∀v,o.data≠.cell v):Inv X (ah++ph fp s.heap) σ H s :=
 I.BA λp hp=>(bQ.mp hp).elim (λz=>I.pin p (fQ _ z)) λz=>by
  obtain⟨hb,e⟩:=CP z;obtain⟨f0,f1,f2,_⟩:=hf p.1 hb;obtain⟨o,e',d⟩:=ho p.1 hb;rw [e] at e';cases e';exact⟨e,f0,f1,f2,d⟩
def Inv.kM {ah pl:List (Addr×Obj)}{σ:St}{H:Hp}{s:Shared}(I:Inv X (ah++pl) σ H s):Inv X ah σ H s:=I.BA λp hp=>I.pin p (fQ _ (h_ _ hp))
def bL {iter:Expr}{body:List Stmt}{wi:TI}{g:TG}{tb:TS}{pos:Pos}(hp:PassesOwn (model X.prog X.w) X.A X.env X.xe)(hc:X.calm=true)(hi:PI X tg iter wi)(hg:PG X tg g)(hb:AW X body tb)
  (hs:∀x,foldedSetIterable iter X.env x=pure x:=by intro _;rfl):PS X (.For tg iter body [] pos) (T5 wi g tb):=by
 intro ah s σ H D I h;refine wpAny_For (cQ (hi ah s σ H _ I h) λv s1 h1=>cQ h1 λSq s2 h2=>?_) hs;obtain⟨it,fp,tn,J,H2,e,I2,T,HY,f2,W,⟨m0,w0⟩,turn⟩:=h2;subst e;have rD:∀{H':Hp},(∀b∈fp,H' b=none)->∀b∈fp,w5 X ah H' b:=λhn b hb=>⟨hn b hb,(f2 b hb).2⟩;refine codeAny_forLoop_any (λn s'=>∃i σ' H',Inv X ah σ' H' s'/\tn i s'.heap/\(∀b∈fp,H' b=none)/\W i n σ' H') ?_ m0 ⟨0,σ,H2,I2,HY,λb hb=>(f2 b hb).1,w0⟩;rintro n s3 ⟨i,σ3,H3,I3,Pm,Zs,w3⟩;rcases turn i n σ3 H3 w3 with ⟨stop,qn⟩ | ⟨go,N,hN,step⟩
 .refine ml hp (cQ (T.done X rfl rfl rfl hc i ah s3 σ3 H3 X.xe I3 (rD Zs) Pm stop) λr s4 ⟨hr,I4⟩=>?_);subst hr;exact wpAny_execs_nil ⟨σ3,H3,I4,qn⟩
 refine ml hp (cQ (T.item X rfl rfl rfl hc i ah s3 σ3 H3 X.xe I3 (rD Zs) Pm go) λr s4 ⟨u,hr,h4⟩=>?_);subst hr;refine ml hp (cQ h4 λ_ s5 ⟨x,H5,I5,r5,y5,Cr,Q5⟩=>?_);have I5':=I5.pinned (rD Q5) (T.obj _ _ Cr);refine ml hp (cQ (hg _ s5 σ3 H5 x u _ I5' r5 (step x H5 y5)) λ_ s6 ⟨σ6,H6,I6,q6⟩=>?_);refine ml hp (cQ (hb _ s6 σ6 H6 _ I6 q6) λf s7 q7=>?_);have again:∀{σ7:St}{H7:Hp},Inv X (ah++ph fp s5.heap) σ7 H7 s7->N σ7 H7->∃m,m < n/\∃i σ' H',Inv X ah σ' H' s7/\tn i s7.heap/\(∀b∈fp,H' b=none)/\W i m σ' H':=λ{σ7 H7} I7 n7=>by
  obtain⟨m',hm,w7⟩:=hN σ7 H7 n7;refine⟨m',hm,i+1,σ7,H7,I7.kM,T.keep _ _ _ Cr λb hb o e=>(I7.pin (b,o) (fQ _ (fQ _ (ij hb e)))).1,λb hb=>?_,w7⟩;obtain⟨o,e,d⟩:=T.obj _ _ Cr b hb;exact(I7.pin (b,o) (fQ _ (fQ _ (ij hb e)))).2.1
 cases f with
 | next=>obtain⟨σ7,H7,I7,n7⟩:=q7;exact again I7 n7
 | cont=>obtain⟨σ7,H7,I7,n7⟩:=q7;exact again I7 n7
 | brk=>obtain⟨σ7,H7,I7,q7⟩:=q7;exact⟨σ7,H7,I7.kM,q7⟩
 | ret v=>obtain⟨x7,σ7,H7,I7,r7,q7⟩:=q7;exact⟨x7,σ7,H7,I7.kM,r7,q7⟩
end
def cJ {K:ba}{a:Addr}{xs:List V}{g:TG}{tb:TS}{D:Ends}{σ:St}{H:Hp}(Pv:Nat->St->Hp->Prop)(h0:Pv 0 σ H)(hl:∀i σ H,i<=xs.length->Pv i σ H->aH K H a xs)
  (hs:∀i x σ H,xs[i]?=some x->Pv i σ H->g x σ H λσ2 H2=>tb { D with nx:=Pv (i+1),ct:=Pv (i+1),bk:=D.nx } σ2 H2)(hd:∀σ H,Pv xs.length σ H->D.nx σ H) :
  ∃W:Nat->Nat->St->Hp->Prop,(∃m,W 0 m σ H)/\∀i m σ H,W i m σ H ->
   ((ke K a).stop i H/\D.nx σ H)\/((ke K a).go i H/\∃N:St->Hp->Prop,(∀σ' H',N σ' H'->∃m',m' < m/\W (i+1) m' σ' H')/\∀x H',(ke K a).mP i H x H'->g x σ H' λσ2 H2=>tb { D with nx:=N,ct:=N,bk:=D.nx } σ2 H2):=by
 refine⟨λi m σ H=>m=xs.length - i/\i<=xs.length/\Pv i σ H,⟨xs.length,by simp,dW _,h0⟩,?_⟩;rintro i m σ H ⟨rfl,hi,p⟩;have q:=hl i σ H hi p;by_cases kj:i < xs.length
 .refine .inr ⟨⟨xs,xs[i],q,by simp [kj]⟩,Pv (i+1),λσ' H' p'=>⟨xs.length - (i+1),∅,rfl,kj,p'⟩,λx H' y=>?_⟩;obtain⟨e,y⟩:=y;subst e;exact hs i x σ _ (y xs q) p
 have e:i=xs.length:=by omega
 subst e;exact .inl ⟨⟨xs,q,aF _⟩,hd σ H p⟩
def oo {K:ba}{a:Addr}{xs:List V}{g:TG}{tb:TS}{D:Ends}{σ:St}{H:Hp}(Pv:Nat->St->Hp->Prop)(h0:Pv 0 σ H)(hl:∀i σ H,i<=xs.length->Pv i σ H->aS K H a xs)
  (hs:∀i x σ H,xs[i]?=some x->Pv i σ H->g x σ H λσ2 H2=>tb { D with nx:=Pv (i+1),ct:=Pv (i+1),bk:=D.nx } σ2 H2)(hd:∀σ H,Pv xs.length σ H->D.nx σ H) :
  ∃W:Nat->Nat->St->Hp->Prop,(∃m,W 0 m σ H)/\∀i m σ H,W i m σ H ->
   ((oC K a).stop i H/\D.nx σ H)\/((oC K a).go i H/\∃N:St->Hp->Prop,(∀σ' H',N σ' H'->∃m',m' < m/\W (i+1) m' σ' H')/\∀x H',(oC K a).mP i H x H'->g x σ H' λσ2 H2=>tb { D with nx:=N,ct:=N,bk:=D.nx } σ2 H2):=by
 refine⟨λi m σ H=>m=xs.length - i/\i<=xs.length/\Pv i σ H,⟨xs.length,by simp,dW _,h0⟩,?_⟩;rintro i m σ H ⟨rfl,hi,p⟩;have q:=hl i σ H hi p;by_cases kj:i < xs.length
 .refine .inr ⟨⟨xs,xs[i],q,by simp [kj]⟩,Pv (i+1),λσ' H' p'=>⟨xs.length - (i+1),∅,rfl,kj,p'⟩,λx H' y=>?_⟩;obtain⟨e,y⟩:=y;subst e;exact hs i x σ _ (y xs q) p
 have e:i=xs.length:=by omega
 subst e;exact .inl ⟨⟨xs,q,aF _⟩,hd σ H p⟩
def gP {lo:Int}{n:Nat}{g:TG}{tb:TS}{D:Ends}{σ:St}{H:Hp}(Pv:Nat->St->Hp->Prop)(h0:Pv 0 σ H)
  (hs:∀i σ H,i < n->Pv i σ H->g (.int (lo+i)) σ H λσ2 H2=>tb { D with nx:=Pv (i+1),ct:=Pv (i+1),bk:=D.nx } σ2 H2)(hd:∀σ H,Pv n σ H->D.nx σ H) :
  ∃W:Nat->Nat->St->Hp->Prop,(∃m,W 0 m σ H)/\∀i m σ H,W i m σ H ->
   ((OS lo n).stop i H/\D.nx σ H)\/((OS lo n).go i H/\∃N:St->Hp->Prop,(∀σ' H',N σ' H'->∃m',m' < m/\W (i+1) m' σ' H')/\∀x H',(OS lo n).mP i H x H'->g x σ H' λσ2 H2=>tb { D with nx:=N,ct:=N,bk:=D.nx } σ2 H2):=by
 refine⟨λi m σ H=>m=n - i/\i<=n/\Pv i σ H,⟨n,by simp,dW _,h0⟩,?_⟩;rintro i m σ H ⟨rfl,hi,p⟩;by_cases kj:i < n
 .refine .inr ⟨kj,Pv (i+1),λσ' H' p'=>⟨n - (i+1),∅,rfl,kj,p'⟩,λx H' y=>?_⟩;obtain⟨e,y⟩:=y;subst e y;exact hs i σ _ kj p
 have e:i=n:=by omega
 subst e;exact .inl ⟨aF _,hd σ H p⟩
abbrev R2:=V->V->Hp->VK->Prop
def jG (X:Cx)(f:Value->Value->Sem Value)(r:R2):Prop :=
 ∀(ah:List (Addr×Obj))(s:Shared)(σ:St)(H:Hp)(x y:V)(v u:Value)(Q:VK),Inv X ah σ H s->RelV x v->RelV y u->r x y H Q ->
  wpAny (model X.prog X.w) X.A (f v u) (EP X ah σ Q) X.xe s
def Xz (X:Cx)(f:Value->Sem Value)(r:V->Hp->VK->Prop):Prop :=
 ∀(ah:List (Addr×Obj))(s:Shared)(σ:St)(H:Hp)(x:V)(v:Value)(Q:VK),Inv X ah σ H s->RelV x v->r x H Q ->
  wpAny (model X.prog X.w) X.A (f v) (EP X ah σ Q) X.xe s
def iC (X:Cx)(f:Value)(r:List V->Hp->VK->Prop):Prop :=
 ∀(ah:List (Addr×Obj))(s:Shared)(σ:St)(H:Hp)(xs:List V)(us:List Value)(Q:VK),Inv X ah σ H s->bf xs us->r xs H Q ->
  wpAny (model X.prog X.w) X.A (call f us) (EP X ah σ Q) X.xe s
def XA (X:Cx)(r:V->Hp->(Bool->Hp->Prop)->Prop):Prop :=
 ∀(ah:List (Addr×Obj))(s:Shared)(σ:St)(H:Hp)(x:V)(v:Value)(Q:Bool->Hp->Prop),Inv X ah σ H s->RelV x v->r x H Q ->
  wpAny (model X.prog X.w) X.A (truthy v) (TP X ah σ Q) X.xe s
def RV (r:R2)(ta tb:TE):TE:=λσ H Q=>ta σ H λx H1=>tb σ H1 λy H2=>r x y H2 Q
def tUn (r:V->Hp->VK->Prop)(ta:TE):TE:=λσ H Q=>ta σ H λx H1=>r x H1 Q
def rI (C:Int->Int->Prop)(g:Int->Int->V):R2:=λx y H Q=>∃i j,x=.int i/\y=.int j/\C i j/\Q (g i j) H
def Me (g:Int->Int->V):R2:=λx y H Q=>∃i j,x=.int i/\y=.int j/\Q (g i j) H
def rU (g:Int->V):V->Hp->VK->Prop:=λx H Q=>∃i,x=.int i/\Q (g i) H
section
variable {X:Cx}{a b c:Expr}{ta tb tc:TE}{pos:Pos}
def NT (ha:PE X a ta)(hb:PE X b tb){ah:List (Addr×Obj)}{s:Shared}{σ:St}{H:Hp}{R:V->V->Hp->Prop}(I:Inv X ah σ H s)
  (h:ta σ H λx H1=>tb σ H1 λy H2=>R x y H2){Q:Value->Shared->Prop}{f:Value->Value->Sem Value}
  (hf:∀v u s2 x y H2,Inv X ah σ H2 s2->RelV x v->RelV y u->R x y H2->wpAny (model X.prog X.w) X.A (f v u) Q X.xe s2) :
  wpAny (model X.prog X.w) X.A (eval a X.env) (λv s₁=>wpAny (model X.prog X.w) X.A (eval b X.env) (λu s₂=>wpAny (model X.prog X.w) X.A (f v u) Q X.xe s₂) X.xe s₁) X.xe s:=by
 refine cQ (ha ah s σ H _ I h) λv s1 ⟨x,H1,I1,r1,q1⟩=>?_;refine cQ (hb ah s1 σ H1 _ I1 q1) λu s2 ⟨y,H2,I2,r2,q2⟩=>?_;exact hf v u s2 x y H2 I2 r1 r2 q2
def aI {op:Operator}{r:R2}(ho:jG X (binaryOp op) r)(ha:PE X a ta)(hb:PE X b tb):PE X (.BinOp a op b pos) (RV r ta tb):=by
 intro ah s σ H Q I h;exact wpAny_BinOp (NT ha hb I h λv u s2 x y H2 I2 rx ry q=>ho ah s2 σ H2 x y v u Q I2 rx ry q)
def ka {op:UnaryOp}{r:V->Hp->VK->Prop}(ho:Xz X (unaryOp op) r)(ha:PE X a ta):PE X (.UnaryOp op a pos) (tUn r ta):=by
 intro ah s σ H Q I h;exact UnaryOp_ (cQ (ha ah s σ H _ I h) λv s1 ⟨x,H1,I1,r1,q1⟩=>ho ah s1 σ H1 x v Q I1 r1 q1)
def Sh {f:Value->Value->Sem Value}{C:Int->Int->Prop}{g:Int->Int->Int}
  (rule:∀(i j:Int)(t u:Tok)(s:Shared)(Q:Value->Shared->Prop)(E:Value->Shared->Prop),C i j->Q (.int (g i j) s.toks) { s with toks:=s.toks+1 }->wpAny (model X.prog X.w) X.A (f (.int i t) (.int j u)) Q E s) :
  jG X f (rI C λi j=>.int (g i j)):=by
 intro ah s σ H x y v u Q I rx ry h;obtain⟨i,j,rfl,rfl,hc,q⟩:=h;obtain⟨t,rfl⟩:=rx;obtain⟨t',rfl⟩:=ry;exact rule i j t t' s _ _ hc ⟨.int (g i j),H,I.tok _,⟨_,rfl⟩,q⟩
def PN {f:Value->Value->Sem Value}{g:Int->Int->Int}
  (rule:∀(i j:Int)(t u:Tok)(s:Shared)(Q:Value->Shared->Prop)(E:Value->Shared->Prop),Q (.int (g i j) s.toks) { s with toks:=s.toks+1 }->wpAny (model X.prog X.w) X.A (f (.int i t) (.int j u)) Q E s) :
  jG X f (Me λi j=>.int (g i j)):=by
 intro ah s σ H x y v u Q I rx ry h;obtain⟨i,j,rfl,rfl,q⟩:=h;obtain⟨t,rfl⟩:=rx;obtain⟨t',rfl⟩:=ry;exact rule i j t t' s _ _ ⟨.int (g i j),H,I.tok _,⟨_,rfl⟩,q⟩
def Mp {f:Value->Value->Sem Value}{g:Int->Int->Bool}
  (rule:∀(i j:Int)(t u:Tok)(s:Shared)(Q:Value->Shared->Prop)(E:Value->Shared->Prop),Q (.bool (g i j)) s->wpAny (model X.prog X.w) X.A (f (.int i t) (.int j u)) Q E s) :
  jG X f (Me λi j=>.bl (g i j)):=by
 intro ah s σ H x y v u Q I rx ry h;obtain⟨i,j,rfl,rfl,q⟩:=h;obtain⟨t,rfl⟩:=rx;obtain⟨t',rfl⟩:=ry;exact rule i j t t' s _ _ ⟨.bl (g i j),H,I,rfl,q⟩
def XO (i j:Int):Prop:=0 < j/\j < 1073741824
def XN (i j:Int):Prop:=0<=j/\j<=1000000/\i.natAbs < 2 ^ 64
def N4 (i j:Int):Prop:=(-(2 ^ 64) < i/\i < 2 ^ 64)\/(-(2 ^ 64) < j/\j < 2 ^ 64)
def N4.ok {i j:Int}(h:N4 i j):IntMulOk i j:=by
 rcases h with ⟨h1,h2⟩ | ⟨h1,h2⟩
 .exact .of_left (intBits_le_64 h1 h2)
 exact .of_right (intBits_le_64 h1 h2)
def du:jG X (binaryOp .Add) (Me λi j=>.int (i+j)):=PN λ_ _ _ _ _ _ _ q=>add_int q
def mz:jG X (binaryOp .Sub) (Me λi j=>.int (i - j)):=PN λ_ _ _ _ _ _ _ q=>sub_int q
def Fx:jG X (binaryOp .Mult) (rI N4 λi j=>.int (i * j)):=Sh λ_ _ _ _ _ _ _ hc q=>mul_int q hc.ok
def fS:jG X (binaryOp .FloorDiv) (rI XO λi j=>.int (i / j)):=Sh λi j _ _ _ _ _ hc q=>by
 have h1:(0:Int) < j:=hc.1;have h2:j < 1073741824:=hc.2;exact floordiv_int ∅ (by rw [Int.fdiv_eq_ediv_of_nonneg i ∅];exact q) (.inl (PyProof.noPylong_small ∅))
def c_:jG X (binaryOp .Mod) (rI (λ_ j=>0 < j) λi j=>.int (i % j)):=Sh λi j _ _ _ _ _ hc q=>by
 have h1:(0:Int) < j:=hc;exact mod_int' ∅ (by rw [Int.fmod_eq_emod_of_nonneg i ∅];exact q)
def Mn:jG X (binaryOp .Pow) (rI XN λi j=>.int (i ^ j.toNat)):=Sh λ_ _ _ _ _ _ _ hc q=>pow_int_small hc.1 hc.2.1 hc.2.2 q
def unI {f:Value->Sem Value}{g:Int->Int}
  (rule:∀(i:Int)(t:Tok)(s:Shared)(Q:Value->Shared->Prop)(E:Value->Shared->Prop),Q (.int (g i) s.toks) { s with toks:=s.toks+1 }->wpAny (model X.prog X.w) X.A (f (.int i t)) Q E s) :
  Xz X f (rU λi=>.int (g i)):=by
 intro ah s σ H x v Q I rx h;obtain⟨i,rfl,q⟩:=h;obtain⟨t,rfl⟩:=rx;exact rule i t s _ _ ⟨.int (g i),H,I.tok _,⟨_,rfl⟩,q⟩
def iD:Xz X (unaryOp .USub) (rU λi=>.int (-i)):=unI λ_ _ _ _ _ q=>neg_int q
end
def Pq:V->V->Bool
 | .fg,.fg=>true | .fg,.int _=>true | .int _,.fg=>true | .fg,.bl _=>true | .bl _,.fg=>true | .fg,.str _=>true | .str _,.fg=>true
 | .int _,.int _=>true | .bl _,.bl _=>true | .str _,.str _=>true | .AR _,.AR _=>true
 | .int _,.str _=>true | .str _,.int _=>true | .bl _,.str _=>true | .str _,.bl _=>true
 | _,_=>false
def rEq:R2:=λx y H Q=>Pq x y=true/\Q (.bl (decide (x=y))) H
def rNe:R2:=λx y H Q=>Pq x y=true/\Q (.bl (!decide (x=y))) H
def BY {i j:Int}:decide (V.int i=V.int j)=(i == j):=by
 rw [mS];simp
def Hn {i j:Bool}:decide (V.bl i=V.bl j)=(i == j):=by
 rw [mS];simp
def BX {i j:Str}:decide (V.str i=V.str j)=(i == j):=by
 rw [mS];simp
def BZ {i j:Array UInt8}:decide (V.AR i=V.AR j)=(i.toList == j.toList):=by
 rw [mS];cases i;cases j;simp
section
variable {X:Cx}{a b c:Expr}{ta tb tc:TE}{pos:Pos}
def cD {ah:List (Addr×Obj)}{σ:St}{H:Hp}{s:Shared}{Q:VK}{k k':Bool}(I:Inv X ah σ H s)(q:Q (.bl k) H)(e:k=k'):EP X ah σ Q (.bool k') s:=by
 subst e;exact⟨.bl k,H,I,rfl,q⟩
def hJ:jG X (compareOp .Eq) rEq:=by
 intro ah s σ H x y v u Q I rx ry h;obtain⟨hs,q⟩:=h;cases x with
 | fg =>
  cases rx;cases y with
  | fg=>cases ry;exact PySem.EqNone.eq_none_none (cD I q (by simp))
  | bl j=>cases ry;exact PySem.EqNone.eq_none_bool (cD I q (by simp))
  | int j=>obtain⟨t',rfl⟩:=ry;exact PySem.EqNone.eq_none_int (cD I q (by simp))
  | str j=>obtain⟨t',rfl⟩:=ry;exact PySem.EqNone.eq_none_str (cD I q (by simp))
  | _=>exact absurd (show false=true from hs) eF
 | bl i =>
  cases rx;cases y with
  | fg=>cases ry;exact PySem.EqNone.eq_bool_none (cD I q (by simp))
  | bl j=>cases ry;exact eq_bool (cD I q Hn)
  | str j=>obtain⟨t',rfl⟩:=ry;exact PySem.EqMixed.eq_bool_str (cD I q (by simp))
  | _=>exact absurd (show false=true from hs) eF
 | int i =>
  obtain⟨t,rfl⟩:=rx;cases y with
  | fg=>cases ry;exact PySem.EqNone.eq_int_none (cD I q (by simp))
  | int j=>obtain⟨t',rfl⟩:=ry;exact eq_int (cD I q BY)
  | str j=>obtain⟨t',rfl⟩:=ry;exact PySem.EqMixed.eq_int_str (cD I q (by simp))
  | _=>exact absurd (show false=true from hs) eF
 | str i =>
  obtain⟨t,rfl⟩:=rx;cases y with
  | fg=>cases ry;exact PySem.EqNone.eq_str_none (cD I q (by simp))
  | bl j=>cases ry;exact PySem.EqMixed.eq_str_bool (cD I q (by simp))
  | int j=>obtain⟨t',rfl⟩:=ry;exact PySem.EqMixed.eq_str_int (cD I q (by simp))
  | str j=>obtain⟨t',rfl⟩:=ry;exact eq_str (cD I q BX)
  | _=>exact absurd (show false=true from hs) eF
 | AR i =>
  obtain⟨t,rfl⟩:=rx;cases y with
  | AR j=>obtain⟨t',rfl⟩:=ry;exact PySem.W.eq_bytes (cD I q BZ)
  | _=>exact absurd (show false=true from hs) eF
 | _=>cases y <;> exact absurd (show false=true from hs) eF
def uA:jG X (compareOp .NotEq) rNe:=by
 intro ah s σ H x y v u Q I rx ry h;obtain⟨hs,q⟩:=h;cases x with
 | fg =>
  cases rx;cases y with
  | fg=>cases ry;exact PySem.EqNone.ne_none_none (cD I q (by simp))
  | bl j=>cases ry;exact PySem.EqNone.ne_none_bool (cD I q (by simp))
  | int j=>obtain⟨t',rfl⟩:=ry;exact PySem.EqNone.ne_none_int (cD I q (by simp))
  | str j=>obtain⟨t',rfl⟩:=ry;exact PySem.EqNone.ne_none_str (cD I q (by simp))
  | _=>exact absurd (show false=true from hs) eF
 | bl i =>
  cases rx;cases y with
  | fg=>cases ry;exact PySem.EqNone.ne_bool_none (cD I q (by simp))
  | bl j=>cases ry;exact ne_bool (cD I q (congrArg not Hn))
  | str j=>obtain⟨t',rfl⟩:=ry;exact PySem.EqMixed.ne_bool_str (cD I q (by simp))
  | _=>exact absurd (show false=true from hs) eF
 | int i =>
  obtain⟨t,rfl⟩:=rx;cases y with
  | fg=>cases ry;exact PySem.EqNone.ne_int_none (cD I q (by simp))
  | int j=>obtain⟨t',rfl⟩:=ry;exact ne_int (cD I q (congrArg not BY))
  | str j=>obtain⟨t',rfl⟩:=ry;exact PySem.EqMixed.ne_int_str (cD I q (by simp))
  | _=>exact absurd (show false=true from hs) eF
 | str i =>
  obtain⟨t,rfl⟩:=rx;cases y with
  | fg=>cases ry;exact PySem.EqNone.ne_str_none (cD I q (by simp))
  | bl j=>cases ry;exact PySem.EqMixed.ne_str_bool (cD I q (by simp))
  | int j=>obtain⟨t',rfl⟩:=ry;exact PySem.EqMixed.ne_str_int (cD I q (by simp))
  | str j=>obtain⟨t',rfl⟩:=ry;exact ne_str (cD I q (congrArg not BX))
  | _=>exact absurd (show false=true from hs) eF
 | AR i =>
  obtain⟨t,rfl⟩:=rx;cases y with
  | AR j=>obtain⟨t',rfl⟩:=ry;exact PySem.W.ne_bytes (cD I q (congrArg not BZ))
  | _=>exact absurd (show false=true from hs) eF
 | _=>cases y <;> exact absurd (show false=true from hs) eF
def nU:jG X (compareOp .Lt) (Me λi j=>.bl (decide (i < j))):=Mp λ_ _ _ _ _ _ _ q=>lt_int q
def KA:jG X (compareOp .LtE) (Me λi j=>.bl (decide (i<=j))):=Mp λ_ _ _ _ _ _ _ q=>le_int q
def xU:jG X (compareOp .Gt) (Me λi j=>.bl (decide (j < i))):=Mp λ_ _ _ _ _ _ _ q=>gt_int q
def jG.or {f:Value->Value->Sem Value}{r r':R2}(h:jG X f r)(h':jG X f r'):jG X f (λx y H Q=>r x y H Q\/r' x y H Q):=by
 intro ah s σ H x y v u Q I rx ry q;rcases q with q | q
 .exact h ah s σ H x y v u Q I rx ry q
 exact h' ah s σ H x y v u Q I rx ry q
def bJ (b:Expr){op:CmpOp}(h:op≠.In:=by decide)(h2:op≠.NotIn:=by decide):behindInMarks op b=false:=by
 have e1:(op == CmpOp.In)=false:=by cases op <;> first | rfl | exact absurd rfl h
 have e2:(op == CmpOp.NotIn)=false:=by cases op <;> first | rfl | exact absurd rfl h2
 cases b <;> simp [behindInMarks,e1,e2]
def fu {op:CmpOp}{r:R2}(ho:jG X (compareOp op) r)(ha:PE X a ta)(hb:PE X b tb)(hm:behindInMarks op b=false):PE X (.Compare a [op] [b] pos) (RV r ta tb):=by
 intro ah s σ H Q I h;exact wpAny_Compare1 (NT ha hb I h λv u s2 x y H2 I2 rx ry q=>ho ah s2 σ H2 x y v u Q I2 rx ry q) hm
def Kj (t:TE):TT:=λσ H Q=>t σ H λx H'=>∃k,x=.bl k/\Q k H'
def aX {op:CmpOp}{r:R2}(ho:jG X (compareOp op) r)(ha:PE X a ta)(hb:PE X b tb)(hm:behindInMarks op b=false):PT X (.Compare a [op] [b] pos) (Kj (RV r ta tb)):=by
 intro ah s σ H Q I h;refine wpAny_isTrue_Compare1 (cQ (ha ah s σ H _ I h) λv s1 ⟨x,H1,I1,r1,q1⟩=>cQ (hb ah s1 σ H1 _ I1 q1) λu s2 ⟨y,H2,I2,r2,q2⟩ =>
  cQ (ho ah s2 σ H2 x y v u _ I2 r1 r2 q2) λc s3 ⟨z,H3,I3,r3,k,e,q3⟩=>?_) hm
 subst e;cases r3;exact ku ⟨H3,I3,q3⟩
def Ez (r r':R2)(ta tb tc:TE):TE:=λσ H Q=>ta σ H λx H1=>tb σ H1 λy H2=>r x y H2 λz H3=>∃k,z=.bl k /\
 (if k=true then tc σ H3 λw' H4=>r' y w' H4 Q else Q (.bl false) H3)
def Fs {op Mq:CmpOp}{r r':R2}(ho:jG X (compareOp op) r)(C_:jG X (compareOp Mq) r')(ha:PE X a ta)(hb:PE X b tb)(hc:PE X c tc)
  (hm:lastMarks [op,Mq] [b,c]=false:=by with_unfolding_all rfl):PE X (.Compare a [op,Mq] [b,c] pos) (Ez r r' ta tb tc):=by
 intro ah s σ H Q I h;refine Compare_chain (cQ (ha ah s σ H _ I h) λv s1 ⟨x,H1,I1,r1,q1⟩=>chain_link (cQ (hb ah s1 σ H1 _ I1 q1) λu s2 ⟨y,H2,I2,r2,q2⟩ =>
  cQ (ho ah s2 σ H2 x y v u _ I2 r1 r2 q2) λd s3 ⟨z,H3,I3,r3,k,e,q3⟩=>?_)) hm
 subst e;cases r3;refine ku ?_;cases k with
 | false=>exact ite_ff ⟨.bl false,H3,I3,rfl,q3⟩
 | true=>exact ite_tt (chain_last (cQ (hc ah s3 σ H3 _ I3 q3) λw' s4 ⟨z',H4,I4,r4,q4⟩=>C_ ah s4 σ H4 y z' u w' Q I4 r2 r4 q4))
def Fh {op Mq:CmpOp}{r r':R2}(ho:jG X (compareOp op) r)(C_:jG X (compareOp Mq) r')(ha:PE X a ta)(hb:PE X b tb)(hc:PE X c tc)
  (hm:lastMarks [op,Mq] [b,c]=false:=by with_unfolding_all rfl):PT X (.Compare a [op,Mq] [b,c] pos) (Kj (Ez r r' ta tb tc)):=by
 intro ah s σ H Q I h;refine isTrue_chain (cQ (ha ah s σ H _ I h) λv s1 ⟨x,H1,I1,r1,q1⟩=>test_link (cQ (hb ah s1 σ H1 _ I1 q1) λu s2 ⟨y,H2,I2,r2,q2⟩ =>
  cQ (ho ah s2 σ H2 x y v u _ I2 r1 r2 q2) λd s3 ⟨z,H3,I3,r3,k,e,q3⟩=>?_)) hm
 subst e;cases r3;refine ku ?_;cases k with
 | false =>
  obtain⟨k',e',q'⟩:=q3;cases e';exact ite_ff ⟨H3,I3,q'⟩
 | true =>
  refine ite_tt (test_last (cQ (hc ah s3 σ H3 _ I3 q3) λw' s4 ⟨z',H4,I4,r4,q4⟩=>cQ (C_ ah s4 σ H4 y z' u w' _ I4 r2 r4 q4) λd' s5 ⟨z2,H5,I5,r5,k2,e2,q5⟩=>?_));subst e2;cases r5;exact ku ⟨H5,I5,q5⟩
def HG (K:ba)(x:V)(H:Hp)(k:Bool):Prop :=
 match x with
 | .fg=>k=false
 | .bl b=>k=b
 | .int i=>k=(i != 0)
 | .str y=>y.length<=sizeLine/\k=((y.length:Int) != 0)
 | .AR y=>y.size<=sizeLine/\k=((y.size:Int) != 0)
 | .ref p=>(∃xs,aH K H p xs/\k=!xs.isEmpty)\/(∃xs,aS K H p xs/\k=!xs.isEmpty)\/∃kvs,H p=some (.dK kvs)/\k=!kvs.isEmpty
 | _=>False
def Aq {κ:Type}{kvs:List (κ×V)}{vs:List (κ×Value)}(r:KV kvs vs):(!vs.isEmpty)=!kvs.isEmpty:=by
 cases r <;> rfl
def r_ {xs:List V}{aT:List Value}(r:bf xs aT):(!aT.toArray.isEmpty)=!xs.isEmpty:=by
 cases r <;> simp
def wz:(sizeLine:Nat) < 2 ^ 63:=by rw [sizeLine_eq];decide
def LA:XA X (λx H Q=>∃k,HG X.K x H k/\Q k H):=by
 intro ah s σ H x v Q I rx h;obtain⟨k,e,q⟩:=h;have hl:=wz;have hs:sizeLine=16777216:=sizeLine_eq;cases x with
 | fg =>
  cases rx;have e':k=false:=e;subst e';exact truthy_none ⟨H,I,q⟩
 | bl b =>
  cases rx;have e':k=b:=e;subst e';exact ku ⟨H,I,q⟩
 | int i =>
  obtain⟨t,rfl⟩:=rx;have e':k=(i != 0):=e;subst e';exact PySem.P.truthy_int ⟨H,I,q⟩
 | str y =>
  obtain⟨t,rfl⟩:=rx;obtain⟨hy,e'⟩:y.length<=sizeLine/\k=((y.length:Int) != 0):=e;subst e';exact PySem.P.truthy_str ∅ ⟨H,I.tok _,q⟩
 | AR y =>
  obtain⟨t,rfl⟩:=rx;obtain⟨hy,e'⟩:y.size<=sizeLine/\k=((y.size:Int) != 0):=e;subst e';exact PySem.W.truthy_bytes ∅ ⟨H,I.tok _,q⟩
 | ref p =>
  cases rx;have e':(∃xs,aH X.K H p xs/\k=!xs.isEmpty)\/(∃xs,aS X.K H p xs/\k=!xs.isEmpty)\/∃kvs,H p=some (.dK kvs)/\k=!kvs.isEmpty:=e;rcases e' with ⟨xs,hx,e'⟩ | ⟨xs,hx,e'⟩ | ⟨kvs,hx,e'⟩
  .subst e';obtain⟨aT,r,pl,hz⟩:=I.list hx;have bE:=r.length;exact wpAny_truthy_list pl.isList (by simp only [bX];omega) ⟨H,I.tok _,by rw [r_ r];exact q⟩
  .subst e';obtain⟨aT,r,pl,hz⟩:=I.tuple hx;have bE:=r.length;exact truthy_tuple pl (by simp only [bX];omega) ⟨H,I.tok _,by rw [r_ r];exact q⟩
  subst e';obtain⟨hz,hS,vs,r,m⟩:kvs.length<=sizeLine/\(p == sysModules)=false/\∃vs,KV kvs vs/\s.heap.DictOf (bA X.prog X.w) p vs:=I.cw p _ hx;have bE:kvs.length=vs.length:=aU r;exact wpAny_truthy_dict hS m ∅ ⟨H,I.tok _,by rw [Aq r];exact q⟩
 | _=>exact(show False from e).elim
def iV (ha:PE X a ta)(he:∀whole,isTrue a X.env whole=(do let v <-whole;standAt a.pos;holding [v] (truthy v))) :
  PT X a (λσ H Q=>ta σ H λx H'=>∃k,HG X.K x H' k/\Q k H'):=by
 intro ah s σ H Q I h;exact isTrue_plain (cQ (ha ah s σ H _ I h) λv s1 ⟨x,H1,I1,r1,q1⟩=>LA ah s1 σ H1 x v Q I1 r1 q1) (he _)
def z7:jG X (binaryOp .Add) (λx y H Q=>∃i j,x=.str i/\y=.str j/\i.length+j.length<=sizeLine/\Q (.str (i++j)) H):=by
 intro ah s σ H x y v u Q I rx ry h;obtain⟨i,j,rfl,rfl,hz,q⟩:=h;obtain⟨t,rfl⟩:=rx;obtain⟨t',rfl⟩:=ry;exact add_str (λt' tk=>⟨.str (i++j),H,I.tok _,⟨_,rfl⟩,q⟩) hz
def vals1 {x:V}{us:List Value}(r:bf [x] us):∃u,us=[u]/\RelV x u:=by
 cases r with
 | cons r1 r2=>cases r2;exact⟨_,rfl,r1⟩
def vals2 {x y:V}{us:List Value}(r:bf [x,y] us):∃u w',us=[u,w']/\RelV x u/\RelV y w':=by
 cases r with
 | cons r1 r2 =>
  cases r2 with
  | cons r3 r4=>cases r4;exact⟨_,_,rfl,r1,r3⟩
def DN (hc:X.calm=true):iC X (.builtin "max") (λxs H Q=>∃i j,xs=[.int i,.int j]/\Q (.int (if j > i then j else i)) H):=by
 intro ah s σ H xs us Q I r h;obtain⟨i,j,rfl,q⟩:=h;obtain⟨u,w',rfl,⟨t,rfl⟩,⟨t',rfl⟩⟩:=vals2 r;refine max_two_ints (I.ok.hd hc) λh' tk k=>⟨_,H,I.kept k,?_,q⟩;by_cases hj:j > i
 .rw [ax hj,ax hj];exact⟨_,rfl⟩
 rw [ay hj,ay hj];exact⟨_,rfl⟩
end
structure AX (h:Heap)(x dx C:Addr)(mA:Str->Option Value):Prop where
 obj:h.get? x=some (PySem.W.instObj C dx)
 ns:h.Ns1 dx mA
 ne:dx≠x
def CV {h:Heap}{dx:Addr}{mA:Str->Option Value}(n:h.Ns1 dx mA):∃od,h.get? dx=some od/\∀name,PySem.W.lookIn name od=some (mA name):=by
 obtain⟨o,es,ep,ho,hd,hk,_,hm⟩:=n;refine⟨o,ho,λname=>?_⟩;have e:=hm name;unfold nsFind findBy at e;rw [<-Array.find?_toList] at e;unfold PySem.W.lookIn;rw [hd];dsimp only
 split
 .rename_i y q
  rw [q] at e;exact congrArg some e
 rename_i q
 rw [q] at e;have a:es.toList.any (·.refKey)=false:=by
  rw [List.any_eq_false];intro y hy;obtain⟨z,t,VQ⟩:=hk y (Array.mem_toList_iff.mp hy);simp [DictEntry.refKey,VQ]
 have a':¬es.toList.any (·.refKey)=true:=by rw [a];exact eF
 rw [ay a'];exact congrArg some e
def AX.look {h:Heap}{x dx C:Addr}{mA:Str->Option Value}(I:AX h x dx C mA):∃od,PySem.W.InstAt h x (PySem.W.instObj C dx) C (some od)/\∀name,PySem.W.lookIn name od=some (mA name) :=
 let ⟨od,ho,hl⟩:=CV I.ns
 ⟨od,⟨I.obj,rfl,rfl,ho⟩,hl⟩
section
variable {prog:Program}{w:World}{A:Around}{E:Value->Shared->Prop}{s:Shared}{K:ba}{x dx C f:Addr}{mA:Str->Option Value}{name:Str}{v:Value}
def get_map {expr:Bool}{Q:Value->Shared->Prop}(X:K.In s.heap)(I:AX s.heap x dx C mA)(hg:PySem.W.plainGet K C name=true)(hh:PySem.W.hasDictIn K C=true)
  (ha:PySem.W.findIn K (.ref C) name=some none)(hv:mA name=some v)(hv':PySem.W.handedIn v=true)(h:Q v { s with toks:=s.toks+1 }) :
  wpAny (model prog w) A (getAttr (.ref x) name expr) Q E s:=by
 obtain⟨od,J,hl⟩:=I.look;exact PySem.W.get_value X J (PySem.W.plainGet_of hg).1 (PySem.W.findObj_own hh ha rfl (by rw [hl,hv])) hv' h
def GV {pl:Sem Bool}{Q:Value×List Value->Shared->Prop}(X:K.In s.heap)(I:AX s.heap x dx C mA)(hg:PySem.W.plainGet K C name=true)
  (hf:PySem.W.findIn K (.ref C) name=some (some (.ref f)))(ht:PySem.W.isFn K (.ref f)=true)(hv:mA name=none)(h:Q (.ref f,[.ref x]) s) :
  wpAny (model prog w) A (getMethod (.ref x) name pl) Q E s:=by
 obtain⟨od,J,hl⟩:=I.look;exact PySem.W.method_fn X J (PySem.W.plainGet_of hg).1 (PySem.W.plainGet_of hg).2 hf (beq_iff_eq.mp ht) (by show (PySem.W.lookIn name od).map (·.isSome)=some false;rw [hl,hv];rfl) h
def IQ {ns:List Str}{Q:Unit->Shared->Prop}(X:K.In s.heap)(I:AX s.heap x dx C mA)
  (hs:PySem.W.findIn K (.ref C) "__setattr__"=some (some (.builtin "object.__setattr__")))(hp:PySem.W.plainOver K C=true)(ht:PySem.W.takerIn K C name=some none)(hh:PySem.W.hasDictIn K C=true)
  (hw:PySem.Within mA ns)(hsz:ns.length<=sizeLine)
  (h:∀h',AX h' x dx C (λy=>if y=name then some v else mA y)->Heap.SameBut dx s.heap h'->Q () { s with heap:=h',toks:=s.toks+2 }) :
  wpAny (model prog w) A (setAttr (.ref x) name v) Q E s:=by
 obtain⟨od,J,hl⟩:=I.look;refine PySem.W.set_plain X J hs (PySem.W.osa_open (s:={ s with toks:=s.toks+1 }) (r:=none) X J hp ht λb=>?_);obtain⟨cd,hc,Dg⟩:=PySem.W.any_some hh;have hx:s.heap.get? x=some ⟨.ref C,some dx,.plain,#[]⟩:=I.obj;refine aE (aP (aE (aE (wpAny_loadPart hx (aE (PySem.W.Looks.here (s:={ s with toks:=s.toks+1 }) (PySem.W.looks_clsIn X hc) ?_))))));rw [Dg];refine aP (a:=some dx) (aE (aP (aE ?_)));refine wpAny_nsSet1 (s:={ s with toks:=s.toks+1 }) I.ns λh' Gv Y8=>?_;obtain⟨oD,esD,epD,hoD,hdD,hcD⟩:=Gv.count (PySem.Within.cons name v hw);refine aE (wpAny_lookBehind hoD (by rw [hdD];exact pastItsLine_dict (dX hcD (by rw [dY];omega))) ?_);exact aP (h _ ⟨(Y8.2 _ (gB I.ne)).trans I.obj,Gv,I.ne⟩ Y8)
def F5 {R:Result->Shared->Prop}{vs:List Value}{kw:List (Str×Value)}(X:K.In s.heap)(hm:PySem.W.makesIn K C=true)
  (hi:PySem.W.findIn K (.ref C) "__init__"=some (some (.ref f)))(hf:PySem.W.typeIn K (.ref f)=some (.type "function"))
  (h:codeAny (model prog w) (A.under (.builtin "type.__call__" ⟨.ref C::vs,kw⟩)) (.call (.ref f) ⟨.ref (s.heap.objs.size+1)::vs,kw⟩) (PySem.W.InitBack (s.heap.objs.size+1) R)
   { s with heap:=(s.heap.push PySem.W.emptyDict).push (PySem.W.instObj C s.heap.objs.size) }) :
  codeAny (model prog w) A (.call (.ref C) ⟨vs,kw⟩) R s:=by
 obtain⟨hh,g,d,t,os⟩:=s;exact PySem.W.make_core (PySem.W.makes_of X hm) (PySem.W.looks_findIn X hi) (λself=>PySem.W.bind_fn X self hf) (.inl rfl) h
end
def eG (f:Str)(v:V):List (Str×V)->List (Str×V)
 | []=>[(f,v)]
 | (g,x)::r=>if g=f then (g,v)::r else (g,x)::eG f v r
theorem pX (f g:Str)(v:V):∀fs:List (Str×V),(eG f v fs).lookup g=if g=f then some v else fs.lookup g
 | []=>by
  show List.lookup g [(f,v)]=_;by_cases h:g=f
  .have hb:(g == f)=true:=beq_iff_eq.mpr h;simp only [List.lookup,hb,ax h]
  have hb:(g == f)=false:=kC.mpr h;simp only [List.lookup,hb,ay h]
 | (k,x)::r=>by
  have ih:=pX f g v r;rw [show eG f v ((k,x)::r)=(if k=f then (k,v)::r else (k,x)::eG f v r) from rfl];by_cases hk:k=f
  .rw [ax hk];by_cases h:g=k
   .have hb:(g == k)=true:=beq_iff_eq.mpr h;simp only [List.lookup,hb,ax (h.trans hk)]
   have hb:(g == k)=false:=kC.mpr h;simp only [List.lookup,hb,ay (λe:g=f=>h (e.trans hk.symm))]
  rw [ay hk];by_cases h:g=k
  .have hb:(g == k)=true:=beq_iff_eq.mpr h;simp only [List.lookup,hb,ay (λe:g=f=>hk (h.symm.trans e))]
  have hb:(g == k)=false:=kC.mpr h;simp only [List.lookup,hb];exact ih
theorem pq (f:Str)(v:V):∀fs:List (Str×V),f∈(eG f v fs).map (·.1)/\∀g,g∈fs.map (·.1)->g∈(eG f v fs).map (·.1)
 | []=>⟨by simp [eG],λg h=>by simp at h⟩
 | (k,x)::r=>by
  obtain⟨i1,i2⟩:=pq f v r;rw [show eG f v ((k,x)::r)=(if k=f then (k,v)::r else (k,x)::eG f v r) from rfl];by_cases hk:k=f
  .rw [ax hk];subst hk;exact⟨by simp,λg h=>by simpa using h⟩
  rw [ay hk];refine⟨?_,λg h=>?_⟩
  .rw [cO];exact dA _ i1
  rw [cO] at h ⊢;rcases bW.mp h with e | e
  .exact bW.mpr (.inl e)
  exact dA _ (i2 g e)
theorem pY (f:Str)(v:V):∀fs:List (Str×V),(eG f v fs).length<=fs.length+1
 | []=>by simp [eG]
 | (k,x)::r=>by
  have ih:=pY f v r;rw [show eG f v ((k,x)::r)=(if k=f then (k,v)::r else (k,x)::eG f v r) from rfl];by_cases hk:k=f
  .rw [ax hk,dY,dY];omega
  rw [ay hk,dY,dY];omega
def j4.some_of {v:V}{o:Option Value}(r:j4 (some v) o):∃u,o=some u/\RelV v u:=by
 cases o with
 | none=>exact(show False from r).elim
 | some u=>exact⟨u,rfl,r⟩
def j4.none_of {o:Option Value}(r:j4 none o):o=none:=by
 cases o with
 | none=>rfl
 | some u=>exact(show False from r).elim
def Dh {v:V}{u:Value}(r:RelV v u):PySem.W.handedIn u=true:=by
 cases v with
 | fg=>cases (show u=Value.none from r);rfl
 | bl b=>cases (show u=Value.bool b from r);rfl
 | int i=>obtain⟨t,e⟩:=(show ∃t,u=Value.int i t from r);cases e;rfl
 | str x=>obtain⟨t,e⟩:=(show ∃t,u=Value.str x t from r);cases e;rfl
 | AR b=>obtain⟨t,e⟩:=(show ∃t,u=Value.bytes b t from r);cases e;rfl
 | Nq b=>obtain⟨t,e⟩:=(show ∃t,u=Value.float b t from r);cases e;rfl
 | ref a=>cases (show u=Value.ref a from r);rfl
 | ty n=>cases (show u=Value.type n from r);rfl
section
variable {P:Program}{w:World}{H H':Hp}{h h':Heap}{a C dx:Addr}{fs Io:List (Str×V)}
def wF (cw:md P w H h)(e:H a=some (.ins C dx fs)):∃mA,AX h a dx C mA/\(∀f,j4 (fs.lookup f) (mA f))/\PySem.Within mA (fs.map (·.1))/\fs.length<=1000/\H dx=some (.own a):=by
 obtain⟨d,z,ne,ob,mA,n,r,q⟩:=(show cR P w H h a (.ins C dx fs) from cw a _ e);exact⟨mA,⟨ob,n,ne⟩,r,q,z,d⟩
end
structure DZ (K:ba)(C:Addr):Prop where
 pg:PySem.W.plainGet K C Str.empty=true
 hd:PySem.W.hasDictIn K C=true
 po:PySem.W.plainOver K C=true
 sa:PySem.W.findIn K (.ref C) "__setattr__"=some (some (.builtin "object.__setattr__"))
def DZ.get {K:ba}{C:Addr}(c:DZ K C)(f:Str):PySem.W.plainGet K C f=true:=c.pg
def eV (K:ba)(C:Addr)(f:Str):Prop:=PySem.W.findIn K (.ref C) f=some none
def eV.O0 {K:ba}{C:Addr}{f:Str}(n:eV K C f):PySem.W.takerIn K C f=some none:=by
 unfold PySem.W.takerIn;rw [show PySem.W.findIn K (.ref C) f=some none from n];rfl
structure Con (K:ba)(C:Addr)(f:Str)(v:V)(u:Value):Prop where
 at_:PySem.W.findIn K (.ref C) f=some (some u)
 rel:RelV v u
 get:PySem.W.specialIn K u "__get__"=some none
 cp:PySem.W.copiedNames.contains f=false
structure Meth (K:ba)(C:Addr)(m:Str)(f:Addr):Prop where
 at_:PySem.W.findIn K (.ref C) m=some (some (.ref f))
 fn:PySem.W.isFn K (.ref f)=true
 kp:PySem.W.keepIn K (.ref f)=true
section
variable {X:Cx}{ah:List (Addr×Obj)}{σ:St}{H:Hp}{s:Shared}{a C dx:Addr}{fs:List (Str×V)}{f:Str}{v:V}{A:Around}{E:Value->Shared->Prop}
def Ay {b:Bool}{Q:Value->Shared->Prop}(I:Inv X ah σ H s)(e:H a=some (.ins C dx fs))(c:DZ X.K C)(n:eV X.K C f)(l:fs.lookup f=some v)
  (h:∀u s',Inv X ah σ H s'->RelV v u->Q u s'):wpAny (model X.prog X.w) A (getAttr (.ref a) f b) Q E s:=by
 obtain⟨mA,O,r,_,_,_⟩:=wF I.cw e;obtain⟨u,hu,ru⟩:=j4.some_of (v:=v) (o:=mA f) (by rw [<-l];exact r f);exact get_map I.wC O (c.get f) c.hd n hu (Dh ru) (h u _ (I.tok _) ru)
def sq {m:Str}{g:Addr}{pl:Sem Bool}{Q:Value×List Value->Shared->Prop}(I:Inv X ah σ H s)(e:H a=some (.ins C dx fs))(c:DZ X.K C)(k:Meth X.K C m g)(l:fs.lookup m=none)
  (h:Q (.ref g,[.ref a]) s):wpAny (model X.prog X.w) A (getMethod (.ref a) m pl) Q E s:=by
 obtain⟨mA,O,r,_,_,_⟩:=wF I.cw e;have hn:mA m=none:=j4.none_of (by rw [<-l];exact r m);exact GV I.wC O (c.get m) k.at_ k.fn hn h
def zz {y:V}{u:Value}{Q:Unit->Shared->Prop}(I:Inv X ah σ H s)(e:H a=some (.ins C dx fs))(c:DZ X.K C)(n:eV X.K C f)(hl:fs.length < 1000)(ry:RelV y u)
  (h:∀s',Inv X ah σ (upd H a (.ins C dx (eG f y fs))) s'->Q () s'):wpAny (model X.prog X.w) A (setAttr (.ref a) f u) Q E s:=by
 obtain⟨mA,O,r,wi,_,ho⟩:=wF I.cw e;have hz:(fs.map (·.1)).length<=sizeLine:=by rw [au,sizeLine_eq];omega
 refine IQ I.wC O c.sa c.po n.O0 c.hd wi hz λh' O' sb=>h _ ?_;have hd:∃o,h'.get? dx=some o:=let ⟨o,_,_,e',_⟩:=O'.ns;⟨o,e'⟩;refine I.write (x:=a) (e:=dx) (by rw [e];exact True.intro) (.inr ho) (λb q hb z=>(sb.2 b hb).trans z) hd ?_;refine⟨by rw [aj O.ne];exact ho,?_,O.ne,O'.obj,_,O'.ns,λg=>?_,λg hg=>?_⟩
 .have:=pY f y fs;omega
 .show j4 ((eG f y fs).lookup g) (if g=f then some u else mA g);rw [pX];by_cases q:g=f
  .rw [ax q,ax q];exact ry
  rw [ay q,ay q];exact r g
 by_cases q:g=f
 .rw [q];exact(pq f y fs).1
 refine(pq f y fs).2 g (wi g λz=>hg ?_);show (if g=f then some u else mA g)=none;rw [ay q];exact z
def Inv.made (I:Inv X ah σ H s):Inv X ah σ (upd (upd H s.heap.objs.size (.own (s.heap.objs.size+1))) (s.heap.objs.size+1) (.ins C s.heap.objs.size []))
  { s with heap:=(s.heap.push PySem.W.emptyDict).push (PySem.W.instObj C s.heap.objs.size) }:=by
 have e1:(s.heap.push PySem.W.emptyDict).get? s.heap.objs.size=some PySem.W.emptyDict:=dZ s.heap rfl;have e2:((s.heap.push PySem.W.emptyDict).push (PySem.W.instObj C s.heap.objs.size)).get? (s.heap.objs.size+1)=some (PySem.W.instObj C s.heap.objs.size):=by
  have:=dZ (s.heap.push PySem.W.emptyDict) (o:=PySem.W.instObj C s.heap.objs.size) rfl;rwa [oJ] at this
 have e3:(s.heap.push PySem.W.emptyDict).Ns s.heap.objs.size (λ_=>none):=⟨PySem.W.emptyDict,#[],_,e1,rfl,(λe he=>absurd he (by simp)),λ_=>rfl⟩;have I1:=I.laid (a:=s.heap.objs.size) (o:=.own (s.heap.objs.size+1)) (h':=s.heap.push PySem.W.emptyDict) (t':=s.toks) (λb u q=>cu _ q) (aF _) ⟨_,e1⟩;refine I1.laid (a:=s.heap.objs.size+1) (o:=.ins C s.heap.objs.size []) (t':=s.toks) (λb u q=>cu _ q) (Nat.le_of_eq (oJ _ _)) ?_;have ne:s.heap.objs.size≠s.heap.objs.size+1:=cv (pQ _);refine⟨by rw [aj ne,ae],dW _,ne,e2,λ_=>none,(Heap.Ns1.of_empty e3).at λo q=>cu _ q,λ_=>True.intro,λy hy=>absurd rfl hy⟩
def J2 {prog:Program}{w:World}{env:Env}{e:Expr}{f:Str}{pos:Pos}{s:Shared}{Q:Value->Shared->Prop}(hb:attributeBase e f env (eval e env)=eval e env)
  (h:wpAny (model prog w) A (eval e env) (λo s₁=>wpAny (model prog w) A (getAttr o f true) Q E s₁) E s):wpAny (model prog w) A (eval (.Attribute e f pos) env) Q E s :=
 Attribute_any_ h (by rw [arm_eval_Attribute,hb])
end
def T6 (K:ba)(ta:TE)(f:Str):TE:=λσ H Q=>ta σ H λx H1=>∃a C dx fs v,x=.ref a/\H1 a=some (.ins C dx fs)/\DZ K C/\eV K C f/\fs.lookup f=some v/\Q v H1
def Uj (K:ba)(ta tv:TE)(f:Str):TS:=λD σ H=>tv σ H λy H1=>ta σ H1 λx H2=>∃a C dx fs,x=.ref a/\H2 a=some (.ins C dx fs)/\DZ K C/\eV K C f/\fs.length < 1000 /\
 D.nx σ (upd H2 a (.ins C dx (eG f y fs)))
section
variable {X:Cx}{o e value:Expr}{f:Str}{pos pos' vG:Pos}{ta tv:TE}
def fP (he:PE X e ta)(hb:attributeBase e f X.env (eval e X.env)=eval e X.env):PE X (.Attribute e f pos) (T6 X.K ta f):=by
 intro ah s σ H Q I h;refine J2 hb (cQ (he ah s σ H _ I h) λu s1 ⟨x,H1,I1,rx,a,C,dx,fs,v,ex,ea,c,n,l,q⟩=>?_);subst ex;obtain rfl:u=Value.ref a:=rx;exact Ay I1 ea c n l λu' s2 I2 ru=>⟨v,H1,I2,ru,q⟩
def g6 (ha:PE X o ta)(hv:PE X value tv)(hs:swapsWith value (some (.Attribute o f pos')) pos.line X.env=pure false):PS X (.Assign [.Attribute o f pos'] value pos) (Uj X.K ta tv f):=by
 intro ah s σ H D I h;refine plainObj_wpAny_Assign_Attribute (cQ (hv ah s σ H _ I h) λu s1 ⟨y,H1,I1,ry,q⟩=>cQ (ha ah s1 σ H1 _ I1 q) λov s2 ⟨x,H2,I2,rx,a,C,dx,fs,ex,ea,c,n,l,q2⟩=>?_) hs;subst ex;obtain rfl:ov=Value.ref a:=rx;exact zz I2 ea c n l ry λs3 I3=>⟨σ,_,I3,q2⟩
def KH {pl:Sem Bool}{m:Str}{apos:Pos}{args:List Expr}{ah:List (Addr×Obj)}{s:Shared}{σ:St}{H:Hp}{Q:Value->Shared->Prop}{te:TE}(he:PE X e te)(I:Inv X ah σ H s)
  (h:te σ H λx H1=>∃a C dx fs g,x=.ref a/\H1 a=some (.ins C dx fs)/\DZ X.K C/\Meth X.K C m g/\fs.lookup m=none /\
   ∀s1,Inv X ah σ H1 s1->wpAny (model X.prog X.w) X.A (callWith pos (.ref g) [.ref a] (backTo pos (starEach args X.env)) (backToKw pos (keywordEach [] X.env))) Q X.xe s1)
  (ht:eval (.Call (.Attribute e m apos) args [] pos) X.env=(do
   let ov <-eval e X.env
   standAt apos.atName
   let (f,first) <-holding [ov] (getMethod ov m pl)
   callWith pos f first (backTo pos (starEach args X.env)) (backToKw pos (keywordEach [] X.env)))) :
  wpAny (model X.prog X.w) X.A (eval (.Call (.Attribute e m apos) args [] pos) X.env) Q X.xe s:=by
 refine PySem.W.methodCall_KW (pl:=pl) (cQ (he ah s σ H _ I h) λu s1 ⟨x,H1,I1,rx,a,C,dx,fs,g,ex,ea,c,k,l,q⟩=>?_) ht;subst ex;obtain rfl:u=Value.ref a:=rx;exact sq I1 ea c k l (q s1 I1)
end
section
variable {X:Cx}{ah:List (Addr×Obj)}{σ:St}{H:Hp}{s:Shared}{A:Around}{E:Value->Shared->Prop}{Q:Value->Shared->Prop}{c:Value}{b:Bool}
inductive tG (K:ba)(H:Hp):V->Value->Prop where
 | fg:tG K H .fg (.type "NoneType")
 | bl (x:Bool):tG K H (.bl x) (.type "bool")
 | int (i:Int):tG K H (.int i) (.type "int")
 | str (x:Str):tG K H (.str x) (.type "str")
 | Nq (x:UInt64):tG K H (.Nq x) (.type "float")
 | lst {a:Addr}{xs:List V}(e:H a=some (.lst xs)):tG K H (.ref a) (.type "list")
 | kn {a:Addr}{o:Obj}{xs:List V}(e:H a=some (.kn o (.lst xs))):tG K H (.ref a) (.type "list")
 | tup {a:Addr}{xs:List V}(e:H a=some (.tup xs)):tG K H (.ref a) (.type "tuple")
 | dK {a:Addr}{kvs:List (aR×V)}(e:H a=some (.dK kvs)):tG K H (.ref a) (.type "dict")
 | dT {a:Addr}{kvs:List (List aR×V)}(e:H a=some (.dT kvs)):tG K H (.ref a) (.type "dict")
 | ins {a C dx:Addr}{fs:List (Str×V)}(e:H a=some (.ins C dx fs))(cl:DZ K C)(ha:PySem.W.findIn K (.ref C) "__class__"=some (some (.builtin "object.__class__")))
   (hn:PySem.W.specialIn K (.builtin "object.__class__") "__get__"=some (some (.builtin "getset_descriptor.__get__")))(htk:PySem.W.takesIn K (.builtin "object.__class__")=some true)
   (hm:PySem.W.mroIn K C (.type "object")=some true):tG K H (.ref a) (.ref C)
end
structure fX (k:Nat)(A:Around):Prop where
 hd:A.handled=none
 dp:A.depth+3 * k+5 < recursionLimit
 un:A.units+16 * k+200 < cLine
def fX.mono {j k:Nat}{A:Around}(r:fX k A)(h:j<=k):fX j A:=⟨r.hd,by have:=r.dp;omega,by have:=r.un;omega⟩
theorem fX.deeper {k:Nat}{A:Around}(r:fX (k+1) A)(env:Env):fX k (A.deeper env) :=
 ⟨r.hd,by have:=r.dp;show A.depth+1+3 * k+5 < _;omega,by have:=r.un;show A.units+3+16 * k+200 < _;omega⟩
theorem fX.in1 {k:Nat}{A:Around}(r:fX (k+1) A):fX k A.in1 :=
 ⟨r.hd,by have:=r.dp;show A.depth+3 * k+5 < _;omega,by have:=r.un;show A.units+1+16 * k+200 < _;omega⟩
def Ai {A:Around}{C:Addr}{us:List Value}{kw:List (Str×Value)}:(A.under (.builtin "type.__call__" ⟨.ref C::us,kw⟩)).depth=A.depth+1:=by
 first | rfl | simp [Around.under,Code.weight,Code.isCreation,Code.isGuard,Code.isCaller,Code.frames,Code.isFrame,guardIds]
def Ah {A:Around}{C:Addr}{us:List Value}{kw:List (Str×Value)}:(A.under (.builtin "type.__call__" ⟨.ref C::us,kw⟩)).units=A.units+1:=by
 first | rfl | simp [Around.under,Code.cUnits,Code.frames,Code.isFrame]
def fX.make {k:Nat}{A:Around}(r:fX (k+1) A)(C:Addr)(us:List Value)(kw:List (Str×Value)):fX k (A.under (.builtin "type.__call__" ⟨.ref C::us,kw⟩)) :=
 ⟨r.hd,by have:=r.dp;rw [Ai];omega,by have:=r.un;rw [Ah];omega⟩
theorem fX.depth {k:Nat}{A:Around}(r:fX k A):A.depth < recursionLimit:=by have:=r.dp;omega
theorem fX.units {k:Nat}{A:Around}(r:fX k A):A.units+64 < cLine:=by have:=r.un;omega
def rB:TA:=λ_ H Q=>Q [] H
def gY (ta:TE)(tr:TA):TA:=λσ H Q=>ta σ H λx H1=>tr σ H1 λxs H2=>Q (x::xs) H2
section
variable {X:Cx}{e:Expr}{es:List Expr}{te:TE}{t:TA}{pos:Pos}
def ag:PA X [] rB:=λ_ _ _ _ H Q I h=>Calls.spliced_nil ⟨[],H,I,.nil,h⟩
def ab (ha:PE X e te)(hr:PA X es t)(hs:starEach (e::es) X.env=(false,eval e X.env)::starEach es X.env:=by rfl):PA X (e::es) (gY te t):=by
 intro pos ah s σ H Q I h;rw [hs];show wpAny _ _ (spliced ((false,eval e X.env)::backTo pos (starEach es X.env))) _ _ s;refine oU (cQ (ha ah s σ H _ I h) λu s1 ⟨x,H1,I1,r1,q1⟩=>?_);exact cQ (hr pos ah s1 σ H1 _ I1 q1) λus s2 ⟨xs,H2,I2,r2,q2⟩=>⟨x::xs,H2,I2,.cons r1 r2,q2⟩
def tP (t:TA):TE:=λσ H Q=>t σ H λxs H1=>xs.length<=sizeLine/\∀p,H1 p=none->Q (.ref p) (upd H1 p (.tup xs))
def Pa (t:TA):TE:=λσ H Q=>t σ H λxs H1=>xs.length<=sizeLine/\∀p,H1 p=none->Q (.ref p) (upd H1 p (.lst xs))
def bo {x1}(h:PA X es t):PE X (.Tuple es x1 pos) (tP t):=by
 intro ah s σ H Q I hq;refine wpAny_Tuple_spliced (cQ (h pos ah s σ H _ I hq) λus s1 ⟨xs,H1,I1,r,z,q⟩=>⟨by rw [<-r.length];exact z,?_⟩);have hf:H1 s1.heap.objs.size=none:=I1.cw.fresh (aF _);refine⟨.ref s1.heap.objs.size,upd H1 s1.heap.objs.size (.tup xs),I1.laid (t':=s1.toks) (λb u e=>cu _ e) (aF _) ?_,rfl,q _ hf⟩;exact⟨z,us,r,⟨_,dZ _ rfl,rfl,_,rfl⟩⟩
def a_ (h:PA X es t):PE X (.List es pos) (Pa t):=by
 intro ah s σ H Q I hq;refine wpAny_List_spliced (cQ (h pos ah s σ H _ I hq) λus s1 ⟨xs,H1,I1,r,z,q⟩=>⟨by rw [<-r.length];exact z,?_⟩);have hf:H1 s1.heap.objs.size=none:=I1.cw.fresh (aF _);refine⟨.ref s1.heap.objs.size,upd H1 s1.heap.objs.size (.lst xs),I1.laid (t':=s1.toks) (λb u e=>cu _ e) (aF _) ?_,rfl,q _ hf⟩;exact⟨z,us,0,r,dZ _ rfl⟩
end
abbrev Sp:=List V->Hp->VK->XK->Prop
abbrev zd:=List Env->Hp->Shared->XK->Value->Shared->Prop
structure qt (P:Program)(w:World)(K:ba)(mg:Str->Option Value)(base:Heap)(A:Around)(outer:List Env)(s:Shared)(H:Hp):Prop where
 frames:A.frames=some outer
 mod:Mod K mg base
 bs:∀b o,base.get? b=some o->s.heap.get? b=some o/\H b=none
 Iy:base.objs.size<=s.heap.objs.size
 pD:s.heap.FunFrames base outer
 K8:∀b∈Dm outer,H b=none
 cw:md P w H s.heap
 bare:AllBare s.gens
def CE (outer:List Env)(P:Program)(w:World)(H:Hp)(s:Shared)(Q:VK)(u:Value)(s':Shared):Prop :=
 ∃v H',s'.os=s.os/\AllBare s'.gens/\Un (Dm outer) [] H H' s.heap s'.heap/\md P w H' s'.heap/\RelV v u/\Q v H'
def CR (CX:zd)(outer:List Env)(P:Program)(w:World)(H:Hp)(s:Shared)(Q:VK)(E:XK)(r:Result)(s':Shared):Prop :=
 match r with
 | .ok (.ret u)=>CE outer P w H s Q u s'
 | .ok _=>False
 | .error e=>CX outer H s E e s'
structure bR (P:Program)(w:World)(K:ba)(mg:Str->Option Value)(base:Heap)(CX:zd) (k:Nat)(f:Addr)(fd:FuncData) (ps:List Str)(sp:Sp):Prop where
 len:∀vs H Q E,sp vs H Q E->vs.length=ps.length
 run:∀(A:Around)(outer:List Env)(s:Shared)(H:Hp)(args:Args)(us:List Value)(vs:List V)(Q:VK)(E:XK),fX k A->qt P w K mg base A outer s H->BindsTo s fd args (ps.zip us)->bf vs us->sp vs H Q E ->
  codeAny (model P w) A (.call (.ref f) args) (CR CX outer P w H s Q E) s
theorem bR.mono {P:Program}{w:World}{K:ba}{mg:Str->Option Value}{base:Heap}{CX:zd}{j k:Nat}{f:Addr}{fd:FuncData}{ps:List Str}{sp:Sp}(F:bR P w K mg base CX j f fd ps sp)(h:j<=k) :
  bR P w K mg base CX k f fd ps sp:=⟨F.len,λA outer s H args us vs Q E hr=>F.run A outer s H args us vs Q E (hr.mono h)⟩
def bR.imp {P:Program}{w:World}{K:ba}{mg:Str->Option Value}{base:Heap}{CX:zd}{k:Nat}{f:Addr}{fd:FuncData}{ps:List Str}{sp X6:Sp}(F:bR P w K mg base CX k f fd ps sp)
  (h:∀vs H Q E,X6 vs H Q E->sp vs H Q E):bR P w K mg base CX k f fd ps X6 :=
 ⟨λvs H Q E q=>F.len vs H Q E (h _ _ _ _ q),λA outer s H args us vs Q E hr he hb hv hs=>F.run A outer s H args us vs Q E hr he hb hv (h _ _ _ _ hs)⟩
def qt.make {P:Program}{w:World}{K:ba}{mg:Str->Option Value}{base:Heap}{A:Around}{outer:List Env}{s:Shared}{H:Hp}(e:qt P w K mg base A outer s H)(C:Addr)(us:List Value)(kw:List (Str×Value)) :
  qt P w K mg base (A.under (.builtin "type.__call__" ⟨.ref C::us,kw⟩)) outer s H:=⟨by first | exact e.frames | (simpa [Around.under,Code.envs,Code.isFrame,pushEnvs] using e.frames),e.mod,e.bs,e.Iy,e.pD,e.K8,e.cw,e.bare⟩
theorem qt.in1 {P:Program}{w:World}{K:ba}{mg:Str->Option Value}{base:Heap}{A:Around}{outer:List Env}{s:Shared}{H:Hp}(e:qt P w K mg base A outer s H) :
  qt P w K mg base A.in1 outer s H:=⟨e.frames,e.mod,e.bs,e.Iy,e.pD,e.K8,e.cw,e.bare⟩
section
variable {X:Cx}{ah:List (Addr×Obj)}{σ:St}{H:Hp}{s s':Shared}
def Inv.Nw (I:Inv X ah σ H s):qt X.prog X.w X.K X.mg X.base X.A X.stack s H :=
 ⟨I.ok.frames,I.ok.mod,I.bs,dX I.ok.Iy I.sz,I.stack,I.Bb,I.cw,I.bare⟩
def Inv.after {Q:VK}{u:Value}(I:Inv X ah σ H s)(h:CE X.stack X.prog X.w H s Q u s'):EP X ah σ Q u s':=by
 obtain⟨v,H',os,bare,un,cw,r,q⟩:=h;obtain⟨hh,g,d,t,os'⟩:=s';obtain rfl:os'=s.os:=os;exact⟨v,H',I.call (h':=hh) (g':=g) (d':=d) (t':=t) (ch:=[]) un cw bare (λb z=>absurd z (by simp)),r,q⟩
end
def Kk (sp:Sp)(dvs:List V)(E:XK)(t:TA):TE:=λσ H Q=>t σ H λvs H1=>sp (vs++dvs) H1 Q E
def O9 (C:Addr)(m:Str)(sp:Sp)(dvs:List V)(E:XK)(ta:TE)(t:TA):TE:=λσ H Q=>ta σ H λx H1=>∃a dx fs,x=.ref a/\H1 a=some (.ins C dx fs)/\fs.lookup m=none /\
 t σ H1 λvs H2=>sp (x::(vs++dvs)) H2 Q E
def O_ (C:Addr)(sp:Sp)(dvs:List V)(E:XK)(t:TA):TE:=λσ H Q=>t σ H λvs H1=>∀x dx,H1 x=none->H1 dx=none->dx≠x ->
 sp (.ref x::(vs++dvs)) (upd (upd H1 dx (.own x)) x (.ins C dx [])) (λv H2=>v=.fg/\Q (.ref x) H2) E
def Binds (K:ba)(fd:FuncData) (ps:List Str)(ds:List Value):Prop :=
 ∀(s:Shared)(us:List Value),K.In s.heap->(us++ds).length=ps.length->BindsTo s fd ⟨us,[]⟩ (ps.zip (us++ds))
def Binds.all {K:ba}{fd:FuncData}{ps:List Str}(h:∀us:List Value,us.length=ps.length->bindArgs fd ⟨us,[]⟩=pure (ps.zip us)):Binds K fd ps []:=λs us _ hl=>by
 rw [iR] at hl ⊢;exact .of_eq (h us hl)
def Passes (CX:zd)(X:Cx)(E:XK):Prop:=∀(ah:List (Addr×Obj))(σ:St)(H:Hp)(s:Shared)(e:Value)(s':Shared),Inv X ah σ H s->CX X.stack H s E e s'->X.xe e s'
section
variable {X:Cx}{CX:zd}{k:Nat}{f C:Addr}{fd:FuncData}{ps:List Str}{sp:Sp}{dvs:List V}{ds:List Value}{E:XK}{x m:Str}{p pos apos:Pos}{e o:Expr}{es:List Expr}{ta:TE}{t:TA}
def E9 {ah:List (Addr×Obj)}{σ:St}{H:Hp}{s:Shared}{Q:VK}{us:List Value}{vs:List V}(F:bR X.prog X.w X.K X.mg X.base CX k f fd ps sp)(hr:fX k X.A)(hb:Binds X.K fd ps ds)(hd:bf dvs ds)(hx:Passes CX X E)
  (I:Inv X ah σ H s)(r:bf vs us)(h:sp (vs++dvs) H Q E):wpAny (model X.prog X.w) X.A (call (.ref f) us) (EP X ah σ Q) X.xe s:=by
 have r2:bf (vs++dvs) (us++ds):=r.append hd;have hl:(us++ds).length=ps.length:=by rw [<-r2.length];exact F.len _ _ _ _ h
 refine wpAny_call (oF (F.run X.A X.stack s H ⟨us,[]⟩ (us++ds) (vs++dvs) Q E hr I.Nw (hb s us I.wC hl) r2 h) λr s' hq=>?_);cases r with
 | error e=>exact hx ah σ H s e s' I hq
 | ok fl =>
  cases fl with
  | ret u=>exact I.after hq
  | next=>exact False.elim hq
  | brk=>exact False.elim hq
  | cont=>exact False.elim hq
def Jm (F:bR X.prog X.w X.K X.mg X.base CX k f fd ps sp)(hr:fX k X.A)(hg:Gl X x)(hm:X.mg x=some (.ref f))(hk:PySem.W.keepIn X.K (.ref f)=true)(hb:Binds X.K fd ps ds)(hd:bf dvs ds)(hx:Passes CX X E)
  (ha:PA X (e::es) t)(Df:(x == ("__debug__":Str))=false:=by decide)(he:starEach (e::es) X.env=(false,eval e X.env)::starEach es X.env:=by rfl)(BO:(backTo pos (starEach es X.env)).any (·.1)=false:=by rfl) :
  PE X (.Call (.Name x p) (e::es) [] pos) (Kk sp dvs E t):=by
 intro ah s σ H Q I h;refine qL (wA I hg hm ?_ Df);refine PySem.W.callWith_K (h₀:=X.base) I.ok.mod.Qm hk (cQ (ha pos ah s σ H _ I h) λus s1 ⟨vs,H1,I1,r,q⟩=>⟨I1.wC,?_⟩) he BO;exact E9 F hr hb hd hx I1 r q
def BE {pl:Sem Bool}(he:PE X o ta)(c:DZ X.K C)(hm:Meth X.K C m f)(F:bR X.prog X.w X.K X.mg X.base CX k f fd ps sp)(hr:fX k X.A)(hb:Binds X.K fd ps ds)(hd:bf dvs ds)(hx:Passes CX X E)(ha:PA X (e::es) t)
  (yU:starEach (e::es) X.env=(false,eval e X.env)::starEach es X.env:=by rfl)(BO:(backTo pos (starEach es X.env)).any (·.1)=false:=by rfl)
  (ht:eval (.Call (.Attribute o m apos) (e::es) [] pos) X.env=(do
   let ov <-eval o X.env
   standAt apos.atName
   let (f,first) <-holding [ov] (getMethod ov m pl)
   callWith pos f first (backTo pos (starEach (e::es) X.env)) (backToKw pos (keywordEach [] X.env))):=by rfl) :
  PE X (.Call (.Attribute o m apos) (e::es) [] pos) (O9 C m sp dvs E ta t):=by
 intro ah s σ H Q I h;refine PySem.W.methodCall_KW (pl:=pl) (cQ (he ah s σ H _ I h) λu s1 ⟨x,H1,I1,rx,a,dx,fs,ex,ea,l,q⟩=>?_) ht;subst ex;obtain rfl:u=Value.ref a:=rx;refine sq I1 ea c hm l ?_;refine PySem.W.callWith_K (first:=[.ref a]) (h₀:=X.base) I.ok.mod.Qm hm.kp (cQ (ha pos ah s1 σ H1 _ I1 q) λus s2 ⟨vs,H2,I2,r,q2⟩=>⟨I2.wC,?_⟩) yU BO;exact E9 (us:=.ref a::us) (vs:=.ref a::vs) F hr hb hd hx I2 (.cons rfl r) q2
structure Mk (K:ba)(C f:Addr):Prop where
 makes:PySem.W.makesIn K C=true
 init:PySem.W.findIn K (.ref C) "__init__"=some (some (.ref f))
 fn:PySem.W.isFn K (.ref f)=true
 kp:PySem.W.keepIn K (.ref C)=true
def E8 {ah:List (Addr×Obj)}{σ:St}{H:Hp}{s:Shared}{Q:VK}{us:List Value}{vs:List V}(M:Mk X.K C f)(F:bR X.prog X.w X.K X.mg X.base CX k f fd ps sp)(hr:fX (k+1) X.A)(hb:Binds X.K fd ps ds)(hd:bf dvs ds)
  (hx:Passes CX X E)(I:Inv X ah σ H s)(r:bf vs us)
  (h:∀x dx,H x=none->H dx=none->dx≠x->sp (.ref x::(vs++dvs)) (upd (upd H dx (.own x)) x (.ins C dx [])) (λv H2=>v=.fg/\Q (.ref x) H2) E) :
  wpAny (model X.prog X.w) X.A (call (.ref C) us) (EP X ah σ Q) X.xe s:=by
 have hq:=h (s.heap.objs.size+1) s.heap.objs.size (I.cw.fresh (me _)) (I.cw.fresh (aF _)) (cv (pQ _));have I2:=Inv.made (C:=C) I;have r2:bf (V.ref (s.heap.objs.size+1)::(vs++dvs)) (Value.ref (s.heap.objs.size+1)::(us++ds)):=.cons rfl (r.append hd);have hl:(Value.ref (s.heap.objs.size+1)::us++ds).length=ps.length:=by
  have e:=r2.length;rw [F.len _ _ _ _ hq] at e;exact e.symm
 refine wpAny_call (F5 (f:=f) I.wC M.makes M.init (beq_iff_eq.mp M.fn) (oF (F.run _ X.stack _ _ ⟨Value.ref (s.heap.objs.size+1)::us,[]⟩ (Value.ref (s.heap.objs.size+1)::(us++ds)) _ _ E (hr.make C us [])
  (I2.Nw.make C us []) (hb _ (Value.ref (s.heap.objs.size+1)::us) I2.wC hl) r2 hq) λr s' QH=>?_))
 cases r with
 | error e=>exact hx ah σ _ _ e s' I2 QH
 | ok fl =>
  cases fl with
  | ret u =>
   obtain⟨v,H',I3,rv,ev,q3⟩:=I2.after QH;subst ev;exact⟨rv,⟨V.ref (s.heap.objs.size+1),H',I3,rfl,q3⟩⟩
  | next=>exact False.elim QH
  | brk=>exact False.elim QH
  | cont=>exact False.elim QH
def wj (M:Mk X.K C f)(F:bR X.prog X.w X.K X.mg X.base CX k f fd ps sp)(hr:fX (k+1) X.A)(hg:Gl X x)(hm:X.mg x=some (.ref C))(hb:Binds X.K fd ps ds)(hd:bf dvs ds)(hx:Passes CX X E)
  (ha:PA X (e::es) t)(Df:(x == ("__debug__":Str))=false:=by decide)(he:starEach (e::es) X.env=(false,eval e X.env)::starEach es X.env:=by rfl)(BO:(backTo pos (starEach es X.env)).any (·.1)=false:=by rfl) :
  PE X (.Call (.Name x p) (e::es) [] pos) (O_ C sp dvs E t):=by
 intro ah s σ H Q I h;refine qL (wA I hg hm ?_ Df);refine PySem.W.callWith_K (h₀:=X.base) I.ok.mod.Qm M.kp (cQ (ha pos ah s σ H _ I h) λus s1 ⟨vs,H1,I1,r,q⟩=>⟨I1.wC,?_⟩) he BO;exact E8 M F hr hb hd hx I1 r q
end
section
variable {X:Cx}{CX:zd}{k:Nat}{f C:Addr}{fd:FuncData}{ps ks:List Str}{sp:Sp}{E:XK}{x m:Str}{p pos apos aaj:Pos}{e o:Expr}{es:List Expr}{kws:List Keyword}{te ta:TE}{t tk:TA}{nm:Option Str}
structure XE (K:ba)(fd:FuncData) (ps ks:List Str)(g:List Value->List Value->List Value)(gV:List V->List V->List V):Prop where
 to:∀(s:Shared)(us ws:List Value),K.In s.heap->(g us ws).length=ps.length->BindsTo s fd ⟨us,ks.zip ws⟩ (ps.zip (g us ws))
 rel:∀{vs:List V}{us:List Value}{zs:List V}{ws:List Value},bf vs us->bf zs ws->bf (gV vs zs) (g us ws)
variable {g:List Value->List Value->List Value}{gV:List V->List V->List V}
end
structure aK (N P:List Str)(sc:Scope):Prop where
 kind:sc.kind=.function
 co:sc.isCoroutine=false
 gen:sc.isGenerator=false
 nd:N.Nodup
 pre:N.take P.length=P
 par:∀x∈P,sc.names.lookup x=some .local\/sc.names.lookup x=some .cell
 Mw:∀y∈sc.names,y.2≠.free
def iM {N P:List Str}{sc:Scope}(a:sc.kind=.function)(b:sc.isCoroutine=false)(c:sc.isGenerator=false)(d:N.take P.length=P)(e:N.Nodup/\(∀x∈P,sc.names.lookup x=some .local\/sc.names.lookup x=some .cell)/\∀y∈sc.names,y.2≠.free):aK N P sc:=⟨a,b,c,e.1,d,e.2.1,e.2.2⟩
theorem uV {kindOf:Str->Option NameKind}{x:Str}:∀{binds:List (Str×Value)}{m:Str->Option Value},(∀v,(x,v)∉binds)->bindL kindOf binds m x=m x
 | [],_,_=>rfl
 | (n,v)::r,m,h=>by
  unfold bindL;rw [uV λw hw=>h w (dA _ hw)]
  split
  .have:x≠n:=by rintro rfl;exact h v cH
   simp [this]
  rfl
theorem uX {kindOf:Str->Option NameKind}{x:Str}:∀{binds:List (Str×Value)}{m:Str->Option Value},(∀v,(x,v)∉binds)->bindC kindOf binds m x=m x
 | [],_,_=>rfl
 | (n,v)::r,m,h=>by
  unfold bindC;rw [uX λw hw=>h w (dA _ hw)]
  split
  .rfl
  have:x≠n:=by rintro rfl;exact h v cH
  simp [this]
theorem uW {kindOf:Str->Option NameKind}{x:Str}{v:Value}:∀{P:List Str}{vs:List Value}{i:Nat}{m:Str->Option Value},P.Nodup->P[i]?=some x->vs[i]?=some v->kindOf x=some .local ->
  bindL kindOf (P.zip vs) m x=some v
 | [],_,_,_,_,h,_,_=>by simp at h
 | _::_,[],_,_,_,_,h,_=>by simp at h
 | p::P,w::vs,0,m,nd,h1,h2,hk=>by
  simp at h1 h2;subst h1;subst h2;show bindL kindOf ((p,w)::P.zip vs) m p=_;unfold bindL;rw [uV λv hv=>(mT.mp nd).1 (List.of_mem_zip hv).1,ax hk];simp
 | p::P,w::vs,i+1,m,nd,h1,h2,hk=>by
  show bindL kindOf ((p,w)::P.zip vs) m x=_;unfold bindL;exact uW (i:=i) (mT.mp nd).2 (by simpa using h1) (by simpa using h2) hk
theorem uY {kindOf:Str->Option NameKind}{x:Str}{v:Value}:∀{P:List Str}{vs:List Value}{i:Nat}{m:Str->Option Value},P.Nodup->P[i]?=some x->vs[i]?=some v->kindOf x≠some .local ->
  bindC kindOf (P.zip vs) m x=some v
 | [],_,_,_,_,h,_,_=>by simp at h
 | _::_,[],_,_,_,_,h,_=>by simp at h
 | p::P,w::vs,0,m,nd,h1,h2,hk=>by
  simp at h1 h2;subst h1;subst h2;show bindC kindOf ((p,w)::P.zip vs) m p=_;unfold bindC;rw [uX λv hv=>(mT.mp nd).1 (List.of_mem_zip hv).1,ay hk];simp
 | p::P,w::vs,i+1,m,nd,h1,h2,hk=>by
  show bindC kindOf ((p,w)::P.zip vs) m x=_;unfold bindC;exact uY (i:=i) (mT.mp nd).2 (by simpa using h1) (by simpa using h2) hk
def start (N:List Str)(vs:List V):St:=vs.map some++List.replicate (N.length - vs.length) none
def pI (CX:zd)(P:Program)(w:World)(K:ba)(mg:Str->Option Value)(base:Heap) (N:List Str)(qual:Str)(scope:Scope)(f:Addr)(cd:Value)(A:Around)(outer:List Env)(s:Shared)(H:Hp)(E:XK):Cx where
 prog:=P
 w:=w
 K:=K
 mg:=mg
 base:=base
 A:=A.deeper (envOfC qual scope s.heap.objs.size f cd)
 N:=N
 s₀:=s
 H₀:=H
 env:=envOfC qual scope s.heap.objs.size f cd
 outer:=outer
 stack:=envOfC qual scope s.heap.objs.size f cd::outer
 ex:=[]
 calm:=true
 fn:=λ_=>true
 pn:=[]
 xe:=λe s'=>wpAny (model P w) (A.deeper (envOfC qual scope s.heap.objs.size f cd)) (leaving (envOfC qual scope s.heap.objs.size f cd) e) (λ_ Pw=>CX outer H s E e Pw) (λe' Pw=>CX outer H s E e' Pw) s'
def yE {sc:Scope}{n:Nat}{x:Str}(h:sc.names.lookup x=some .cell):∃c,(cellsFrom n sc.names []).lookup x=some c:=by
 have q:=PySem.W.cellsFrom_some sc.names n [] (.inl h);exact lX.mp q
def uF {CX:zd}{P:Program}{w:World}{K:ba}{mg:Str->Option Value}{base:Heap}{N ps:List Str}{qual:Str}{scope:Scope}{f:Addr}{cd:Value}{A:Around}{outer:List Env}{s s1:Shared}{H:Hp}{E:XK}{us:List Value}{vs:List V}
  (S:aK N ps scope)(hd:A.handled=none)(e0:qt P w K mg base A outer s H)(hl:vs.length=ps.length)(r:bf vs us)
  (x:InCallC s s.heap.objs.size (bindL (envOfC qual scope s.heap.objs.size f cd).kindOf (ps.zip us) λ_=>none) (cellsFrom (s.heap.objs.size+1) scope.names []) (bindC (envOfC qual scope s.heap.objs.size f cd).kindOf (ps.zip us) λ_=>none) s1) :
  Inv (pI CX P w K mg base N qual scope f cd A outer s H E) [] (start N vs) H s1:=by
 have BO:ps.length<=N.length:=by have:=congrArg List.length S.pre;rw [bO] at this;omega
 obtain⟨h1,tk,rfl,hk⟩:=x.done;have PY:∀b:Addr,b∉(pI CX P w K mg base N qual scope f cd A outer s H E).ex:=λb z=>absurd (show b∈([]:List Addr) from z) (by simp);refine⟨⟨e0.mod,S.kind,rfl,rfl,aF _,λy z c h1 h2=>?_,λy hy=>?_,λy c _ h=>?_,λ_=>hd,Around.frames_deeper e0.frames,.inr ⟨rfl,rfl⟩,λb z=>absurd z (PY b),e0.bs,e0.Iy,λb _ _=>PY b,λb z=>absurd z (PY b),e0.pD,e0.K8⟩,
  rfl,e0.bare,Un.kept hk,⟨_,x.toInCall.ns,λi y v h1 h2 h3=>?_⟩,λy c h=>⟨_,x.cell y c h⟩,e0.cw.fresh (aF _),λy c h=>?_,λp hp=>absurd (show p∈([]:List (Addr×Obj)) from hp) (by simp),e0.cw.kept hk,?_⟩
 .exact name_of_addr x.apart (rj h1) (rj h2)
 .have hy:scope.names.lookup y=some .cell\/scope.names.lookup y=some .free:=hy;rcases hy with hy | hy
  .exact yE hy
  exact absurd rfl (S.Mw _ (rj hy))
 .exact kI (x.above y c (rj h))
 .have hi:i < vs.length:=by
   unfold start at h2;by_cases hi:i < vs.length
   .exact hi
   rw [mY (by simpa using hi)] at h2;rw [List.getElem?_replicate] at h2
   split at h2 <;> cases h2
  have ha:vs[i]?=some v:=by
   unfold start at h2;rw [pS (by simpa using hi),bz] at h2;cases e:vs[i]? with
   | none=>rw [e] at h2;cases h2
   | some a=>rw [e] at h2;cases h2;rfl
  obtain⟨u,hu,rv⟩:=r.get ha;have hp:ps[i]?=some y:=by
   rw [<-S.pre,xn ∅];exact h1
  have Sj:ps.Nodup:=by rw [<-S.pre];exact S.nd.sublist (List.take_sublist _ _)
  refine⟨u,rv,?_⟩;rcases S.par y (b9 hp) with k | k
  .exact .inl ⟨k,uW Sj hp hu k⟩
  obtain⟨c,e⟩:=yE (n:=s.heap.objs.size+1) k;refine .inr ⟨.inl k,c,e,?_⟩;have q:=x.cell y c e;rw [uY Sj hp hu (by show scope.names.lookup y≠_;rw [k];decide)] at q;exact q
 .exact e0.cw.fresh (kI (x.above y c (rj h)))
 unfold start;show _=N.length;rw [a9,au,List.length_replicate];omega
def G1 {CX:zd}{P:Program}{w:World}{K:ba}{mg:Str->Option Value}{base:Heap}{k:Nat}{f:Addr}{name qual:Str}{params:Arguments}{body:List Stmt}{scope:Scope}{dV kV doc pm eX ct oc:Value}{an od:Option Addr}
  {xR:Array (Option Value)}{N ps:List Str}{sp:Sp}(lk:K.lookup f=some ⟨oc,od,.func (PySem.W.fnOf name qual params body scope dV kV doc pm an eX ct),xR⟩)(wJ:PySem.W.codeIn K eX qual=true)(S:aK N ps scope)
  (len:∀vs H Q E,sp vs H Q E->vs.length=ps.length)
  (jA:∀(A:Around)(outer:List Env)(s:Shared)(H:Hp)(vs:List V)(Q:VK)(E:XK),fX k (A.deeper (envOfC qual scope s.heap.objs.size f eX))->sp vs H Q E ->
   ∃t,AW (pI CX P w K mg base N qual scope f eX A outer s H E) body t/\t { nx:=λ_ H'=>Q .fg H',rt:=Q } (start N vs) H) :
  bR P w K mg base CX (k+1) f (PySem.W.fnOf name qual params body scope dV kV doc pm an eX ct) ps sp:=by
 refine⟨len,λA outer s H args us vs Q E hr e0 hb r yV=>?_⟩;have hl:=len _ _ _ _ yV;have KX:K.In s.heap:=e0.mod.Qm.keeps λb o e=>(e0.bs b o e).1;have lim:s.heap.NoLimit:=e0.mod.nolimit.keeps λb o e=>(e0.bs b o e).1;have jy:∀y∈ps.zip us,scope.names.lookup y.1=some .local\/(scope.names.lookup y.1=some .cell/\((cellsFrom (s.heap.objs.size+1) scope.names []).lookup y.1).isSome=true):=λ⟨n,v⟩ hy=>by
  rcases S.par n (List.of_mem_zip hy).1 with q | q
  .exact .inl q
  exact .inr ⟨q,PySem.W.cellsFrom_some _ _ _ (.inl q)⟩
 refine codeAny_call_function hr.depth (KX _ _ lk) rfl S.co S.gen rfl (PySem.W.codeRec_of KX wJ) (hb _ _ _ _ ?_);refine wpAny_newFunctionEnv_cells S.kind jy λenv he s1 x=>?_;subst he;refine⟨lim.keeps x.toInCall.keep,codeAny_func ?_⟩;obtain⟨t,ht,hq⟩:=jA A outer s H vs Q E (hr.deeper _) yV;have I:Inv (pI CX P w K mg base N qual scope f eX A outer s H E) [] (start N vs) H s1:=uF S hr.hd e0 hl r x;refine dJ (ht [] s1 (start N vs) H _ I hq) (λfl s' hs=>?_) λe s' hs=>hs;have fin:∀{σ':St}{H':Hp}{v:V}{u:Value},Inv (pI CX P w K mg base N qual scope f eX A outer s H E) [] σ' H' s'->RelV v u->Q v H'->CE outer P w H s Q u s' :=
  λ{σ' H' v u} J rv q=>⟨v,H',J.os,J.bare,J.base,J.cw,rv,q⟩
 cases fl with
 | ret u =>
  obtain⟨v,σ',H',J,rv,q⟩:=hs;exact fin J rv q
 | next =>
  obtain⟨σ',H',J,q⟩:=hs;exact fin (v:=V.fg) (u:=Value.none) J rfl q
 | brk =>
  obtain⟨_,_,_,q⟩:=hs;exact False.elim q
 | cont =>
  obtain⟨_,_,_,q⟩:=hs;exact False.elim q
section
variable {X:Cx}{x:Str}{p pos:Pos}{e:Expr}{es:List Expr}{t:TA}{id T:String}{r:List V->Hp->VK->Prop}
def X1 (r:List V->Hp->VK->Prop)(t:TA):TE:=λσ H Q=>t σ H λvs H1=>r vs H1 Q
def aD (hc:iC X (.builtin id) r)(hg:Gl X x)(hm:X.mg x=none)(hv:bootBuiltins x=some (.builtin id))(ha:PA X (e::es) t)(hn:x ≠ "__name__" := by decide)(Df:(x == ("__debug__":Str))=false:=by decide)
  (he:starEach (e::es) X.env=(false,eval e X.env)::starEach es X.env:=by rfl)(BO:(backTo pos (starEach es X.env)).any (·.1)=false:=by rfl):PE X (.Call (.Name x p) (e::es) [] pos) (X1 r t):=by
 intro ah s σ H Q I h;refine qL (jV I hg hm hv ?_ hn Df);exact PyProof.Rows.callWith_builtin1 (cQ (ha pos ah s σ H _ I h) λus s1 ⟨vs,H1,I1,r1,q1⟩=>hc ah s1 σ H1 vs us Q I1 r1 q1) he BO
def bc (hc:iC X (.type T) r)(hg:Gl X x)(hm:X.mg x=none)(hv:bootBuiltins x=some (.type T))(ha:PA X (e::es) t)(hn:x ≠ "__name__" := by decide)(Df:(x == ("__debug__":Str))=false:=by decide)
  (he:starEach (e::es) X.env=(false,eval e X.env)::starEach es X.env:=by rfl)(BO:(backTo pos (starEach es X.env)).any (·.1)=false:=by rfl):PE X (.Call (.Name x p) (e::es) [] pos) (X1 r t):=by
 intro ah s σ H Q I h;refine qL (jV I hg hm hv ?_ hn Df);exact vC (cQ (ha pos ah s σ H _ I h) λus s1 ⟨vs,H1,I1,r1,q1⟩=>hc ah s1 σ H1 vs us Q I1 r1 q1) he BO
end
end L2
namespace HT
open PySem PyProof.Rows
section
open PySem.SeqAt
open PySem.AutoSeq1 (wpAny_loadPart')
open PySem.MeetsSeq PySem.MeetsSeq2 PySem.MeetsSeq3
end
section
variable {prog:Program}{w:World}{A:Around}{E:Value->Shared->Prop}{s:Shared}
def J1 {t b:Addr}{vs ws:List Value}{Q:Value->Shared->Prop}(ht:IsTup s.heap t vs.toArray)(hb:IsTup s.heap b ws.toArray)(hv:vs≠[])
  (h1:ws=[]->Q (.ref t) s)(h2:ws≠[]->Q (.ref s.heap.objs.size) { s with heap:=s.heap.push { cls:=.type "tuple",data:=.seq (vs++ws).toArray } })
  (hsz:vs.length+ws.length<=sizeLine):wpAny (model prog w) A (binaryOp .Add (.ref t) (.ref b)) Q E s:=by
 obtain⟨⟨cls,dd,data,sl⟩,ho,hc,n,hd⟩:=id ht;obtain⟨⟨W_,OJ,data2,R7⟩,Ig,JM,n2,hd2⟩:=id hb;simp only at hc hd JM hd2;subst hc hd JM hd2;have e:vs.toArray++ws.toArray=(vs++ws).toArray:=by simp
 by_cases hw:ws=[]
 .exact concat_meets ⟨_,ho,rfl⟩ ⟨_,Ig,rfl⟩ noFill_tuple_add seq_tuple_add zg zi (zk _ _)
   (tuple_addW1 t b vs.toArray ws.toArray n n2 dd OJ sl R7 (by simpa using hv) (by simp [hw])) ⟨ho,Ig,h1 hw⟩
 refine concat_meets ⟨_,ho,rfl⟩ ⟨_,Ig,rfl⟩ noFill_tuple_add seq_tuple_add zg zi (zk _ _)
  (tuple_addW2 t b vs.toArray ws.toArray n n2 dd OJ sl R7 (by simpa using hv) (by simpa using hw) (by rw [bX,bX];exact hsz)) ⟨ho,Ig,?_⟩
 rw [e];exact h2 hw
def gy (n d:Nat):Option Int->Nat
 | none=>d
 | some v=>if v < 0 then (v+(n:Int)).toNat else min v.toNat n
def gG (n d:Nat):gy n d none=d:=rfl
def gZ (n d k:Nat):gy n d (some (k:Int))=min k n:=by
 show (if (k:Int) < 0 then ((k:Int)+(n:Int)).toNat else min (k:Int).toNat n)=min k n;rw [ay ∅,kx]
def LW (n d:Nat)(hd:d<=n)(o:Option Int):gy n d o<=n:=by
 cases o with
 | none=>exact hd
 | some v =>
  show (if v < 0 then (v+(n:Int)).toNat else min v.toNat n)<=n;by_cases hv:v < 0
  .rw [ax hv];omega
  rw [ay hv];exact Nat.min_le_right _ _
def B4 (v:Int) (n d:Nat):(if v < 0 then max (v+(n:Int)) 0 else min v (n:Int))=((gy n d (some v):Nat):Int):=by
 show (if v < 0 then max (v+(n:Int)) 0 else min v (n:Int))=(((if v < 0 then (v+(n:Int)).toNat else min v.toNat n):Nat):Int);by_cases hv:v < 0
 .simp only [ax hv];omega
 simp only [ay hv];omega
def AS (lo hi:Option Int) (n:Nat):Builtin.Slice.sliceAdjust lo hi 1 (n:Int)=(((gy n 0 lo:Nat):Int),((gy n n hi:Nat):Int)):=by
 have h1:¬((1:Int) < 0):=by omega
 unfold Builtin.Slice.sliceAdjust;simp only [h1,if_false];refine Prod.ext ?_ ?_
 .cases lo with
  | none=>rfl
  | some v=>exact B4 v n 0
 cases hi with
 | none=>rfl
 | some v=>exact B4 v n n
def zX (i j:Nat):Builtin.Slice.slicePlaces (i:Int) (j:Int) 1=j - i:=by
 unfold Builtin.Slice.slicePlaces;have h1:(1:Int) > 0:=by omega
 simp only [h1,if_true,Int.ediv_one]
 split <;> omega
def rJ {v:Value}{o:Option Int}{Q:Option Int->Shared->Prop}(p:IsPart v o)(h:Q o s):wpAny (model prog w) A (Builtin.Slice.slicePartIndex v) Q E s:=by
 cases p with
 | none=>exact slicePart_none h
 | int i t=>exact slicePart_int h
def ju {sl:Addr}{vl vu:Value}{lo hi:Option Int}{n:Nat}{Q:Int×Int×Nat->Shared->Prop}(hs:s.heap.IsSliceOf sl vl vu .none)(pl:IsPart vl lo)(pu:IsPart vu hi)
  (h:Q (((gy n 0 lo:Nat):Int),1,gy n n hi - gy n 0 lo) s):wpAny (model prog w) A (Builtin.Slice.sliceApplied (.ref sl) (pure (n:Int))) Q E s:=by
 obtain⟨os,C9,GA,Ii⟩:=id hs;unfold Builtin.Slice.sliceApplied Builtin.Slice.sliceFields;refine aE (aE (iF C9 Ii (x:=vl) rfl (aE (iF C9 Ii (x:=vu) rfl (aE (iF C9 Ii (x:=.none) rfl (aP ?_)))))));refine aE (slicePart_none ?_);show wpAny _ _ (if ((1:Int) == 0)=true then _ else _) _ _ s;rw [ay (by decide)];refine aE (rJ pl (aE (rJ pu (aE (aP ?_)))));show wpAny _ _ (match Builtin.Slice.sliceAdjust lo hi 1 (n:Int) with | (lo,hi)=>pure (lo,(1:Int),Builtin.Slice.slicePlaces lo hi 1)) _ _ s
 rw [AS lo hi n];show wpAny _ _ (pure (((gy n 0 lo:Nat):Int),(1:Int),Builtin.Slice.slicePlaces ((gy n 0 lo:Nat):Int) ((gy n n hi:Nat):Int) 1)) _ _ s;rw [zX];exact aP h
def Fn (xs:Array Value) (i k:Nat):((List.range k).filterMap λ(m:Nat)=>xs[((i:Int)+(m:Int) * 1).toNat]?).toArray=((xs.toList.drop i).take k).toArray:=by
 have e:(λ(m:Nat)=>xs[((i:Int)+(m:Int) * 1).toNat]?)=λm=>xs[i+m]?:=by
  funext m
  have:((i:Int)+(m:Int) * 1).toNat=i+m:=by omega
  rw [this]
 rw [e];have:=pick_run xs i k;rw [List.filterMap_map] at this;have e2:((λx=>xs[x]?) ∘ λx=>i+x)=λm=>xs[i+m]?:=rfl;rw [e2] at this;rw [this]
def oi {t sl:Addr}{items:Array Value}{vl vu:Value}{lo hi:Option Int}{Q:Value->Shared->Prop}(ht:IsTup s.heap t items)(hs:s.heap.IsSliceOf sl vl vu .none)(pl:IsPart vl lo)(pu:IsPart vu hi)
  (hw:¬(gy items.size 0 lo=0/\gy items.size items.size hi=items.size))
  (h:Q (.ref s.heap.objs.size) { s with heap:=s.heap.push { cls:=.type "tuple",data:=.seq ((items.toList.drop (gy items.size 0 lo)).take (gy items.size items.size hi - gy items.size 0 lo)).toArray } })
  (hsz:items.size<=sizeLine):wpAny (model prog w) A (getItem (.ref t) (.ref sl)) Q E s:=by
 have nY:sizeOk (.seq ((items.toList.drop (gy items.size 0 lo)).take (gy items.size items.size hi - gy items.size 0 lo)).toArray):=by
  show ((items.toList.drop (gy items.size 0 lo)).take (gy items.size items.size hi - gy items.size 0 lo)).toArray.size<=sizeLine;rw [bX,bO,ff,rg];omega
 have hj:gy items.size items.size hi<=items.size:=LW _ _ (aF _) hi;obtain⟨os,C9,GA,Ii⟩:=id hs;have QZ:s.TypeIs (.ref sl) "slice" := ⟨os,C9,GA⟩;unfold getItem
 try with_reducible refine jM ?_
 first | refine aE (aP ?_) | skip
 refine aE (wpAny_sequenceKey ht.typeIs (by decide) ?_);refine aE (qO (name:=Str.ofString "__getitem__") ht.typeIs mZ
  (mr mZ ht.typeIs entry_tuple_getitem ?_ (args_tuple_getitem _ _)))
 show wpAny _ _ (Builtin.Tuple.tupleItemsOf (.ref t) >>= _) _ _ s;refine aE (tupleItemsOf_ ht ?_);refine aE (lS QZ ?_);rw [ax (by decide)];refine aE (ju hs pl pu ?_);have hno:¬((((gy items.size 0 lo:Nat):Int) == 0 && (1:Int) == 1 && (gy items.size items.size hi - gy items.size 0 lo) == items.size)=true):=by
  intro q;rw [pP,pP] at q;have q1:((gy items.size 0 lo:Nat):Int)=0:=eq_of_beq q.1.1;have q2:gy items.size items.size hi - gy items.size 0 lo=items.size:=eq_of_beq q.2;exact hw ⟨∅,∅⟩
 show wpAny _ _ (if (((gy items.size 0 lo:Nat):Int) == 0 && (1:Int) == 1 && (gy items.size items.size hi - gy items.size 0 lo) == items.size)=true then _ else _) _ _ s;rw [ay hno,Fn]
 first
  | exact aE (m:=Builtin.Tuple.tupleExact _) (jq (aP ⟨_,rfl,aP h⟩) nY)
  | exact aE (m:=Builtin.Tuple.tupleExact _) (jq (aE (aP (aP ⟨_,rfl,aP h⟩))) nY)
  | exact aE (aE (m:=Builtin.Tuple.tupleExact _) (jq (aP (aP ⟨_,rfl,aP h⟩)) nY))
  | exact aE (aE (m:=Builtin.Tuple.tupleExact _) (jq (aP ⟨_,rfl,aP h⟩) nY))
end
end HT
namespace L2
open PySem PySem.Spec PyProof.Rows
abbrev TO:=St->Hp->(Option Int->Hp->Prop)->Prop
def PO (X:Cx)(e:Option Expr)(t:TO):Prop :=
 ∀(ah:List (Addr×Obj))(s:Shared)(σ:St)(H:Hp)(Q:Option Int->Hp->Prop),Inv X ah σ H s->t σ H Q ->
  wpAny (model X.prog X.w) X.A (evalPart e X.env) (λu s'=>∃o H',Inv X ah σ H' s'/\IsPart u o/\Q o H') X.xe s
def IM:TO:=λ_ H Q=>Q none H
def O5 (t:TE):TO:=λσ H Q=>t σ H λx H1=>∃i,x=.int i/\Q (some i) H1
def intsAre_of {ns:List Int}:∀{us:List Value},bf (ns.map V.int) us->IntsAre us ns:=by
 induction ns with
 | nil=>intro us r;rw [mh] at r;cases r;exact .nil
 | cons n ns ih =>
  intro us r;rw [cO] at r;cases r with
  | cons r1 r2 =>
   obtain⟨t,e⟩:=r1;subst e;exact .cons n t (ih r2)
section
variable {X:Cx}{e:Expr}{te:TE}{lo hi:Option Expr}{tl th:TO}{pos p2:Pos}
def dr:PO X none IM:=by
 intro ah s σ H Q I h;rw [evalPart_none];exact aP ⟨none,H,I,.none,h⟩
def bS (h:PE X e te):PO X (some e) (O5 te):=by
 intro ah s σ H Q I hw;rw [evalPart_some];refine cQ (h ah s σ H _ I hw) λu s1 ⟨x,H1,I1,r1,q1⟩=>?_;obtain⟨i,rfl,q⟩:=q1;obtain⟨t,rfl⟩:=r1;exact⟨some i,H1,I1,.int i t,q⟩
def Lr (X:Cx)(r:V->Option Int->Option Int->Hp->VK->Prop):Prop :=
 ∀(ah:List (Addr×Obj))(s:Shared)(σ:St)(H:Hp)(x:V)(v vl vu:Value)(lo hi:Option Int)(sl:Addr)(Q:VK),Inv X ah σ H s->RelV x v->s.heap.IsSliceOf sl vl vu .none->IsPart vl lo->IsPart vu hi->r x lo hi H Q ->
  ∃T id,typeLookup (.type T) "__getitem__"=pure (some (.builtin id))/\s.TypeIs v T/\wpAny (model X.prog X.w) X.A (getItem v (.ref sl)) (EP X ah σ Q) X.xe s
def Lr.or {r r':V->Option Int->Option Int->Hp->VK->Prop}(h:Lr X r)(h':Lr X r'):Lr X (λx lo hi H Q=>r x lo hi H Q\/r' x lo hi H Q):=by
 intro ah s σ H x v vl vu lo hi sl Q I rx hs pl pu q;rcases q with q | q
 .exact h ah s σ H x v vl vu lo hi sl Q I rx hs pl pu q
 exact h' ah s σ H x v vl vu lo hi sl Q I rx hs pl pu q
def tSl (r:V->Option Int->Option Int->Hp->VK->Prop)(te:TE)(tl th:TO):TE:=λσ H Q=>te σ H λx H1=>tl σ H1 λl H2=>th σ H2 λu H3=>r x l u H3 Q
def bY {r:V->Option Int->Option Int->Hp->VK->Prop}(hr:Lr X r)(he:PE X e te)(hl:PO X lo tl)(hu:PO X hi th):PE X (.Subscript e (.Slice lo hi none p2) pos) (tSl r te tl th):=by
 intro ah s σ H Q I h;refine Subscript_ (cQ (he ah s σ H _ I h) λv s1 ⟨x,H1,I1,r1,q1⟩=>?_);refine wpAny_Slice (cQ (hl ah s1 σ H1 _ I1 q1) λvl s2 ⟨l,H2,I2,pl,q2⟩=>cQ (hu ah s2 σ H2 _ I2 q2) λvu s3 ⟨u,H3,I3,pu,q3⟩=>?_);rw [evalPart_none];refine aP ?_;have I4:Inv X ah σ H3 { s3 with heap:=s3.heap.push { cls:=.type "slice",data:=.fields #[vl,vu,.none] } }:=I3.kept (t':=s3.toks) λb ob q=>cu _ q;obtain⟨T,id,hT,ht,hg⟩:=hr ah { s3 with heap:=s3.heap.push { cls:=.type "slice",data:=.fields #[vl,vu,.none] } } σ H3 x v vl vu l u s3.heap.objs.size Q I4 r1 (Heap.IsSliceOf.new ..) pl pu q3;show wpAny (model X.prog X.w) X.A (subscriptTail e (.Slice lo hi none p2) v (.ref s3.heap.objs.size)) (EP X ah σ Q) X.xe { s3 with heap:=s3.heap.push { cls:=.type "slice",data:=.fields #[vl,vu,.none] } };exact tail_any (ops:=[.ref s3.heap.objs.size,v]) ht hT hg (by with_unfolding_all rfl)
def d8 (xs:List V)(lo hi:Option Int):List V:=(xs.drop (HT.gy xs.length 0 lo)).take (HT.gy xs.length xs.length hi - HT.gy xs.length 0 lo)
def p_ (xs:List V)(lo hi:Option Int):(d8 xs lo hi).length<=xs.length:=by
 unfold d8;rw [bO,ff];omega
def Ut (K:ba):V->Option Int->Option Int->Hp->VK->Prop:=λx lo hi H Q=>∃a xs,x=.ref a/\aS K H a xs /\
 ¬(HT.gy xs.length 0 lo=0/\HT.gy xs.length xs.length hi=xs.length)/\∀p,H p=none->Q (.ref p) (upd H p (.tup (d8 xs lo hi)))
def LN:Lr X (Ut X.K):=by
 intro ah s σ H x v vl vu lo hi sl Q I rx hs pl pu h;obtain⟨a,xs,rfl,hx,hw,q⟩:=h;cases rx;obtain⟨aT,r,ht,hz⟩:=I.tuple hx;have bE:aT.toArray.size=xs.length:=by rw [bX];exact r.length.symm
 refine⟨"tuple",_,mZ.lookup,ht.typeIs,?_⟩;refine HT.oi ht hs pl pu (by rw [bE];exact hw) ?_ (by rw [bE];exact hz);rw [bE];refine⟨.ref s.heap.objs.size,_,I.laid (t':=s.toks) (o:=.tup (d8 xs lo hi)) (λb ob q=>cu _ q) (aF _) ?_,rfl,q _ (I.cw.fresh (aF _))⟩;exact⟨dX (p_ xs lo hi) hz,_,(r.drop (HT.gy xs.length 0 lo)).take (HT.gy xs.length xs.length hi - HT.gy xs.length 0 lo),IsTup.new _ _⟩
def PF (K:ba):R2:=λx y H Q=>∃a b xs ys,x=.ref a/\y=.ref b/\aS K H a xs/\aS K H b ys/\xs≠[]/\xs.length+ys.length<=sizeLine /\
 (ys=[]->Q (.ref a) H)/\(ys≠[]->∀p,H p=none->Q (.ref p) (upd H p (.tup (xs++ys))))
def bf.qB {xs:List V}{us:List Value}(r:bf xs us):us=[]↔xs=[]:=by
 cases r with
 | nil=>simp
 | cons _ _=>simp
def Jo:jG X (binaryOp .Add) (PF X.K):=by
 intro ah s σ H x y v u Q I rx ry h;obtain⟨a,b,xs,ys,rfl,rfl,ha,hb,hx,hz,q1,q2⟩:=h;cases rx;cases ry;obtain⟨aT,r1,p1,_⟩:=I.tuple ha;obtain⟨dF,r2,p2,_⟩:=I.tuple hb;refine HT.J1 p1 p2 (λz=>hx (r1.qB.mp z)) (λz=>⟨.ref a,H,I,rfl,q1 (r2.qB.mp z)⟩) (λz=>?_) (by rw [<-r1.length,<-r2.length];exact hz);refine⟨.ref s.heap.objs.size,_,I.laid (t':=s.toks) (o:=.tup (xs++ys)) (λb ob q=>cu _ q) (aF _) ?_,rfl,q2 (λw=>z (r2.qB.mpr w)) _ (I.cw.fresh (aF _))⟩;exact⟨by rw [a9];exact hz,_,r1.append r2,IsTup.new _ _⟩
end
def KU (n:Nat) (i:Int):Option Nat:=if 0<=i then (if i < n then some i.toNat else none) else if -(n:Int)<=i then some (i+n).toNat else none
def jZ {α:Type}(xs:List α) (i:Int):Option α:=(KU xs.length i).bind λj=>xs[j]?
def JG {n:Nat}{i:Int}{j:Nat}(h:KU n i=some j):seqIndex? i n=some j/\j < n/\-(n:Int)<=i/\i < n:=by
 unfold KU at h;by_cases h0:0<=i
 .rw [ax h0] at h;by_cases h1:i < n
  .rw [ax h1] at h;have e:i.toNat=j:=ir h;exact⟨by rw [seqIndex_of h0 h1,e],∅,∅,h1⟩
  rw [ay h1] at h;cases h
 rw [ay h0] at h;by_cases h1:-(n:Int)<=i
 .rw [ax h1] at h;have e:(i+n).toNat=j:=ir h;exact⟨by rw [seqIndex_neg ∅ h1,e],∅,h1,∅⟩
 rw [ay h1] at h;cases h
def B7 {α:Type}{xs:List α}{i:Int}{v:α}(h:jZ xs i=some v):∃j,seqIndex? i xs.length=some j/\xs[j]?=some v/\j < xs.length/\-(xs.length:Int)<=i/\i < xs.length:=by
 unfold jZ at h;cases e:KU xs.length i with
 | none=>rw [e] at h;cases h
 | some j =>
  rw [e] at h;obtain⟨h1,h2,h3,h4⟩:=JG e;exact⟨j,h1,h,h2,h3,h4⟩
def bZ {α:Type}{xs:List α}{j:Nat}{v:α}(h:xs[j]?=some v):jZ xs (j:Int)=some v:=by
 have hj:j < xs.length:=(bu.mp h).1;have e:KU xs.length (j:Int)=some j:=by
  unfold KU;rw [ax ∅,ax ∅];simp
 unfold jZ;rw [e];exact h
def Ht {α:Type}(xs:List α)(v:α):jZ (xs++[v]) (-1)=some v:=by
 have hl:(xs++[v]).length=xs.length+1:=by simp
 have e:KU (xs++[v]).length (-1)=some xs.length:=by
  unfold KU;rw [hl,ay (by decide),ax ∅]
  congr 1
  omega
 unfold jZ;rw [e];show (xs++[v])[xs.length]?=some v;simp
def Kb (b:Expr):Prop:=∀o i,subscripted b false o i=operate [o,i] (getItem o i)
def Kd (X:Cx)(r:R2):Prop :=
 ∀(value slice:Expr)(ah:List (Addr×Obj))(s:Shared)(σ:St)(H:Hp)(x y:V)(v u:Value)(Q:VK),Inv X ah σ H s->RelV x v->RelV y u->r x y H Q ->
  subscripted slice false v u=operate [v,u] (getItem v u)->wpAny (model X.prog X.w) X.A (subscriptTail value slice v u) (EP X ah σ Q) X.xe s
def OQ (X:Cx)(id:String)(r:V->List V->Hp->VK->Prop):Prop :=
 ∀(ah:List (Addr×Obj))(s:Shared)(σ:St)(H:Hp)(x:V)(xs:List V)(v:Value)(us:List Value)(Q:VK),Inv X ah σ H s->RelV x v->bf xs us->r x xs H Q ->
  wpAny (model X.prog X.w) X.A (call (.builtin id) (v::us)) (EP X ah σ Q) X.xe s
section
variable {X:Cx}{a b:Expr}{ta tb:TE}{pos:Pos}
def Kd.or {r r':R2}(h:Kd X r)(h':Kd X r'):Kd X (λx y H Q=>r x y H Q\/r' x y H Q):=by
 intro value slice ah s σ H x y v u Q I rx ry q hs;rcases q with q | q
 .exact h value slice ah s σ H x y v u Q I rx ry q hs
 exact h' value slice ah s σ H x y v u Q I rx ry q hs
def OQ.or {id:String}{r r':V->List V->Hp->VK->Prop}(h:OQ X id r)(h':OQ X id r'):OQ X id (λx xs H Q=>r x xs H Q\/r' x xs H Q):=by
 intro ah s σ H x xs v us Q I rx rs q;rcases q with q | q
 .exact h ah s σ H x xs v us Q I rx rs q
 exact h' ah s σ H x xs v us Q I rx rs q
def aL {r:R2}(hr:Kd X r)(ha:PE X a ta)(hb:PE X b tb)(hs:Kb b):PE X (.Subscript a b pos) (RV r ta tb):=by
 intro ah s σ H Q I h;exact Subscript_ (NT ha hb I h λv u s2 x y H2 I2 rx ry q=>hr a b ah s2 σ H2 x y v u Q I2 rx ry q (hs _ _))
def PB (K:ba):R2:=λx y H Q=>∃p xs i v,x=.ref p/\y=.int i/\aH K H p xs/\jZ xs i=some v/\Q v H
def Pz (K:ba):R2:=λx y H Q=>∃p xs i v,x=.ref p/\y=.int i/\aS K H p xs/\jZ xs i=some v/\Q v H
def bB:Kd X (PB X.K):=by
 intro value slice ah s σ H x y v u Q I rx ry h hs;obtain⟨p,xs,i,z,rfl,rfl,hq,he,q⟩:=h;cases rx;obtain⟨t,rfl⟩:=ry;obtain⟨aT,r,pl,hz⟩:=I.list hq;obtain⟨j,h1,h2,h3,h4,h5⟩:=B7 he;obtain⟨w,ew,zT⟩:=r.get h2;have hl:=r.length;have hn:=wz;have fin:EP X ah σ Q w s:=⟨z,H,I,zT,q⟩;by_cases h0:0<=i
 .have hj:i.toNat=j:=by
   rw [seqIndex_of h0 h5] at h1;exact ir h1
  exact item_listR pl.isList h0 ∅ (by rw [hj];simpa using ew) fin hs
 have hj:(i+(aT.toArray.size:Int)).toNat=j:=by
  rw [seqIndex_neg ∅ h4] at h1;rw [bX,<-hl];exact ir h1
 exact subscriptTail_builtinR (x:=w) pl.isList.typeIs slot_list_getitem.lookup
  (wpAny_getItem_list_neg (Q:=λr s'=>r=w/\EP X ah σ Q r s') pl.isList ∅ (by rw [bX] <;> omega) ∅ (by rw [hj];simpa using ew) ⟨rfl,fin⟩) hs
def aZ:Kd X (Pz X.K):=by
 intro value slice ah s σ H x y v u Q I rx ry h hs;obtain⟨p,xs,i,z,rfl,rfl,hq,he,q⟩:=h;cases rx;obtain⟨t,rfl⟩:=ry;obtain⟨aT,r,pl,hz⟩:=I.tuple hq;obtain⟨j,h1,h2,h3,h4,h5⟩:=B7 he;obtain⟨w,ew,zT⟩:=r.get h2;have hl:=r.length;have hn:=wz;have fin:EP X ah σ Q w s:=⟨z,H,I,zT,q⟩;exact subscriptTail_builtinR (x:=w) pl.typeIs slot_tuple_getitem.lookup
  (getItem_tuple (j:=j) (Q:=λr s'=>r=w/\EP X ah σ Q r s') pl ∅ ∅ (by rw [bX,<-hl];exact h1) (by simpa using ew) ⟨rfl,fin⟩) hs
theorem Inv.lst {ah:List (Addr×Obj)}{σ:St}{H:Hp}{s:Shared}{p:Addr}{xs:List V}(I:Inv X ah σ H s)(h:H p=some (.lst xs)) :
  ∃(aT:List Value) (n:Nat),bf xs aT/\s.heap.get? p=some { cls:=.type "list",data:=.seq aT.toArray n }/\xs.length<=sizeLine:=by
 obtain⟨z,aT,n,r,e⟩:=I.cw p _ h;exact⟨aT,n,r,e,z⟩
def vP (lo hi:Option Int) (n:Nat):(sliceBounds lo hi none n).1=((HT.gy n 0 lo:Nat):Int)/\(sliceBounds lo hi none n).2.1=((HT.gy n n hi:Nat):Int)/\(sliceBounds lo hi none n).2.2=1:=by
 refine⟨?_,?_,rfl⟩
 .cases lo with
  | none=>simp [sliceBounds,HT.gy]
  | some i =>
   simp only [sliceBounds,HT.gy,Option.getD_none,show (1:Int) > 0 by decide,if_true];by_cases h:i < 0
   .simp only [h,if_true] <;> omega
   simp only [h,if_false] <;> omega
 cases hi with
 | none=>simp [sliceBounds,HT.gy]
 | some i =>
  simp only [sliceBounds,HT.gy,Option.getD_none,show (1:Int) > 0 by decide,if_true];by_cases h:i < 0
  .simp only [h,if_true] <;> omega
  simp only [h,if_false] <;> omega
def tR (aT:List Value)(lo hi:Option Int):slicePick aT.toArray lo hi none=((aT.drop (HT.gy aT.length 0 lo)).take (HT.gy aT.length aT.length hi - HT.gy aT.length 0 lo)).toArray:=by
 obtain⟨h1,h2,h3⟩:=vP lo hi aT.toArray.size;unfold slicePick;rw [h1,h2,h3];simp only [sliceRange_one,pick_run,bX] <;> rfl
def Uu (K:ba):V->Option Int->Option Int->Hp->VK->Prop:=λx lo hi H Q=>∃a xs,x=.ref a/\aH K H a xs/\∀p,H p=none->Q (.ref p) (upd H p (.lst (d8 xs lo hi)))
def dq:Lr X (Uu X.K):=by
 intro ah s σ H x v vl vu lo hi sl Q I rx hs pl pu h;obtain⟨a,xs,rfl,hx,q⟩:=h;cases rx;obtain⟨aT,r,ht,hz⟩:=I.list hx;have bE:=r.length;refine⟨"list",_,slot_list_getitem.lookup,ht.isList.typeIs,?_⟩;refine wpAny_getItem_list_slice ht.isList hs pl pu .none (by simp) ?_ (by rw [bX] <;> omega)
 rw [tR,<-bE];refine⟨.ref s.heap.objs.size,_,I.laid (t':=s.toks) (o:=.lst (d8 xs lo hi)) (λb ob q=>cu _ q) (aF _) ?_,rfl,q _ (I.cw.fresh (aF _))⟩;exact⟨dX (p_ xs lo hi) hz,_,0,(r.drop (HT.gy xs.length 0 lo)).take (HT.gy xs.length xs.length hi - HT.gy xs.length 0 lo),dZ _ rfl⟩
def ib:V->Bool
 | .fg=>true
 | .bl _=>true
 | .int _=>true
 | .str _=>true
 | _=>false
def uL:V->V->Bool
 | .fg,.fg=>true
 | .bl a,.bl b=>a == b
 | .bl a,.int b=>(if a then 1 else 0) == b
 | .int a,.bl b=>a == (if b then 1 else 0)
 | .int a,.int b=>a == b
 | .str a,.str b=>a == b
 | _,_=>false
def AJ {A:Around}{s:Shared}{y x:V}{u v:Value}(ry:RelV y u)(rx:RelV x v)(fy:ib y=true)(fx:ib x=true):SeqAt.EqAt A s u v (uL y x):=by
 cases y with
 | fg =>
  cases ry;cases x with
  | fg=>cases rx;exact SeqAt.EqAt.same _
  | bl b=>cases rx;exact SeqAt.EqAt.none_bool b
  | int b=>obtain⟨t,rfl⟩:=rx;exact SeqAt.EqAt.none_int b t
  | str b=>obtain⟨t,rfl⟩:=rx;exact SeqAt.EqAt.none_str b t
  | _=>exact absurd (show false=true from fx) eF
 | bl a =>
  cases ry;cases x with
  | fg=>cases rx;exact SeqAt.EqAt.bool_none a
  | bl b=>cases rx;exact SeqAt.EqAt.bool_bool a b
  | int b=>obtain⟨t,rfl⟩:=rx;exact SeqAt.EqAt.bool_int a b t
  | str b=>obtain⟨t,rfl⟩:=rx;exact SeqAt.EqAt.bool_str a b t
  | _=>exact absurd (show false=true from fx) eF
 | int a =>
  obtain⟨t',rfl⟩:=ry;cases x with
  | fg=>cases rx;exact SeqAt.EqAt.int_none a t'
  | bl b=>cases rx;exact SeqAt.EqAt.int_bool a t' b
  | int b=>obtain⟨t,rfl⟩:=rx;exact SeqAt.EqAt.int_int a t' b t
  | str b=>obtain⟨t,rfl⟩:=rx;exact SeqAt.EqAt.int_str a t' b t
  | _=>exact absurd (show false=true from fx) eF
 | str a =>
  obtain⟨t',rfl⟩:=ry;cases x with
  | fg=>cases rx;exact SeqAt.EqAt.str_none a t'
  | bl b=>cases rx;exact SeqAt.EqAt.str_bool a t' b
  | int b=>obtain⟨t,rfl⟩:=rx;exact SeqAt.EqAt.str_int a t' b t
  | str b=>obtain⟨t,rfl⟩:=rx;exact SeqAt.EqAt.str_str a t' b t
  | _=>exact absurd (show false=true from fx) eF
 | _=>exact absurd (show false=true from fy) eF
def AI (x:V)(u:Value):Bool:=match u with
 | .none=>uL .fg x
 | .bool b=>uL (.bl b) x
 | .int i _=>uL (.int i) x
 | .str z _=>uL (.str z) x
 | _=>false
def G8 {x y:V}{u:Value}(r:RelV y u)(f:ib y=true):AI x u=uL y x:=by
 cases y with
 | fg=>cases r;rfl
 | bl b=>cases r;rfl
 | int i=>obtain⟨t,rfl⟩:=r;rfl
 | str z=>obtain⟨t,rfl⟩:=r;rfl
 | _=>exact absurd (show false=true from f) eF
theorem oA {x:V}:∀{xs:List V}{us:List Value},bf xs us->xs.all ib=true->us.any (AI x)=xs.any λy=>uL y x
 | _,_,.nil,_=>rfl
 | y::xs,u::us,.cons r t,f=>by
  rw [List.all_cons,pP] at f;rw [qQ,qQ,G8 r f.1,oA t f.2]
theorem kW {A:Around}{s:Shared}{x:V}{v:Value}(rx:RelV x v)(fx:ib x=true):∀{xs:List V}{us:List Value},bf xs us->xs.all ib=true->∀u∈us,SeqAt.EqAt A s u v (AI x u)
 | _,_,.nil,_=>λu hu=>by cases hu
 | y::xs,u::us,.cons r t,f=>λu' hu=>by
  rw [List.all_cons,pP] at f;rcases bW.mp hu with rfl | hu
  .rw [G8 r f.1];exact AJ r rx f.1 fx
  exact kW rx fx t f.2 u' hu
def KZ (x:V)(xs:List V):Bool:=xs.any λy=>uL y x
def Se (K:ba)(neg:Bool):R2:=λx y H Q=>∃p xs,y=.ref p/\(aH K H p xs\/aS K H p xs)/\ib x=true/\xs.all ib=true/\Q (.bl (if neg then !KZ x xs else KZ x xs)) H
def lG:jG X (compareOp .In) (Se X.K false):=by
 intro ah s σ H x y v u Q I rx ry h;obtain⟨p,xs,rfl,hq,fx,fs,q⟩:=h;cases ry;rcases hq with hq | hq
 .obtain⟨aT,r,pl,hz⟩:=I.list hq;refine SeqAt.in_listAt (AI x) pl.isList (λw hw=>kW rx fx r fs w (by simpa using hw)) ⟨.bl _,H,I,rfl,?_⟩;rw [show aT.toArray.any (AI x)=aT.any (AI x) by simp,oA r fs];exact q
 obtain⟨aT,r,pl,hz⟩:=I.tuple hq;refine SeqAt.in_tupleAt (AI x) pl (λw hw=>kW rx fx r fs w (by simpa using hw)) ⟨.bl _,H,I,rfl,?_⟩;rw [show aT.toArray.any (AI x)=aT.any (AI x) by simp,oA r fs];exact q
def iL:jG X (compareOp .NotIn) (Se X.K true):=by
 intro ah s σ H x y v u Q I rx ry h;obtain⟨p,xs,rfl,hq,fx,fs,q⟩:=h;cases ry;rcases hq with hq | hq
 .obtain⟨aT,r,pl,hz⟩:=I.list hq;refine SeqAt.notIn_listAt (AI x) pl.isList (λw hw=>kW rx fx r fs w (by simpa using hw)) ⟨.bl _,H,I,rfl,?_⟩;rw [show aT.toArray.any (AI x)=aT.any (AI x) by simp,oA r fs];exact q
 obtain⟨aT,r,pl,hz⟩:=I.tuple hq;refine SeqAt.notIn_tupleAt (AI x) pl (λw hw=>kW rx fx r fs w (by simpa using hw)) ⟨.bl _,H,I,rfl,?_⟩;rw [show aT.toArray.any (AI x)=aT.any (AI x) by simp,oA r fs];exact q
def aG:iC X (.builtin "len") (λxs H Q=>∃p ys,xs=[.ref p]/\(aH X.K H p ys\/aS X.K H p ys)/\Q (.int ys.length) H):=by
 intro ah s σ H xs us Q I r h;obtain⟨p,ys,rfl,hq,q⟩:=h;obtain⟨u,rfl,rx⟩:=vals1 r;cases rx;have hn:=wz;rcases hq with hq | hq
 .obtain⟨aT,r',pl,hz⟩:=I.list hq;have bE:=r'.length;exact Calls.call_len_list pl.isList (by simp only [bX] <;> omega) ⟨.int ys.length,H,I.tok _,⟨s.toks+1,by rw [bX,bE]⟩,q⟩
 obtain⟨aT,r',pl,hz⟩:=I.tuple hq;have bE:=r'.length;exact len_tuple pl (by simp only [bX] <;> omega) ⟨.int ys.length,H,I.tok _,⟨s.toks+1,by rw [bX,bE]⟩,q⟩
def iC.or {f:Value}{r r':List V->Hp->VK->Prop}(h:iC X f r)(h':iC X f r'):iC X f (λxs H Q=>r xs H Q\/r' xs H Q):=by
 intro ah s σ H xs us Q I rs q;rcases q with q | q
 .exact h ah s σ H xs us Q I rs q
 exact h' ah s σ H xs us Q I rs q
def fA:iC X (.type "list") (λxs H Q=>∃p ys,xs=[.ref p]/\(aH X.K H p ys\/aS X.K H p ys)/\∀l,H l=none->Q (.ref l) (upd H l (.lst ys))):=by
 intro ah s σ H xs us Q I r h;obtain⟨p,ys,rfl,hq,q⟩:=h;obtain⟨u,rfl,rx⟩:=vals1 r;cases rx;have fin:∀(aT:List Value),bf ys aT->ys.length<=sizeLine->∀(h':Heap) (c':Nat),(∀b o',s.heap.get? b=some o'->h'.get? b=some o') ->
   h'.get? s.heap.objs.size=some { cls:=.type "list",dict:=none,data:=.seq aT.toArray c',slots:=#[] }->EP X ah σ Q (.ref s.heap.objs.size) { s with heap:=h' }:=λaT r' hz h' c' kp e =>
  ⟨.ref s.heap.objs.size,_,I.laid (t':=s.toks) kp (aF _) (show cR X.prog X.w _ h' _ (.lst ys) from ⟨hz,aT,c',r',e⟩),rfl,q _ (I.cw.fresh (aF _))⟩
 rcases hq with hq | hq
 .obtain⟨aT,r',pl,hz⟩:=I.list hq;have bE:=r'.length;obtain⟨o,ho,hc,n,hd⟩:=pl.isList;exact call_list_seq p (.inl rfl) ho hc hd (λh' c' kp e=>fin aT r' hz h' c' kp e) (by simp only [bX] <;> omega)
 obtain⟨aT,r',pl,hz⟩:=I.tuple hq;have bE:=r'.length;obtain⟨o,ho,hc,n,hd⟩:=pl;exact call_list_seq p (.inr rfl) ho hc hd (λh' c' kp e=>fin aT r' hz h' c' kp e) (by simp only [bX] <;> omega)
def dQ:iC X (.type "tuple") (λxs H Q=>∃p ys,xs=[.ref p]/\((aH X.K H p ys/\∀l,H l=none->Q (.ref l) (upd H l (.tup ys)))\/(aS X.K H p ys/\Q (.ref p) H))):=by
 intro ah s σ H xs us Q I r h;obtain⟨p,ys,rfl,h⟩:=h;obtain⟨u,rfl,rx⟩:=vals1 r;cases rx;rcases h with ⟨hq,q⟩ | ⟨hq,q⟩
 .obtain⟨aT,r',pl,hz⟩:=I.list hq;have bE:=r'.length;refine call_tuple_list pl.isList (λh' kp=>?_) (by simp only [bX] <;> omega)
  have I1:Inv X ah σ H { s with heap:=h' }:=I.kept (t':=s.toks) kp;have I2:Inv X ah σ (upd H h'.objs.size (.tup ys)) { s with heap:=h'.push { cls:=.type "tuple",data:=.seq aT.toArray } } :=
   I1.laid (t':=s.toks) (λb o e=>cu _ e) (aF _) (show cR X.prog X.w _ _ _ (.tup ys) from ⟨hz,aT,r',IsTup.new _ _⟩)
  exact⟨.ref h'.objs.size,_,I2,rfl,q _ (I1.cw.fresh (aF _))⟩
 obtain⟨aT,r',pl,hz⟩:=I.tuple hq;exact call_tuple_same pl ⟨.ref p,H,I,rfl,q⟩
def TK (K:ba)(T:String)(x:V)(H:Hp):Prop:=match x with
 | .str _=>T = "str"
 | .int _=>T = "int"
 | .ref p=>(T = "list" /\ ∃xs,aH K H p xs)\/(T = "tuple" /\ ∃o,K.lookup p=some o/\o.cls=.type "tuple" /\ o.dict=none) \/
   (T = "dict" /\ ((∃kvs,H p=some (.dK kvs))\/∃kvs,H p=some (.dT kvs)))\/(T = "set" /\ ∃S n,H p=some (.set S n))
 | _=>False
def Et {ah:List (Addr×Obj)}{σ:St}{H:Hp}{s:Shared}{T:String}{x:V}{v:Value}(I:Inv X ah σ H s)(r:RelV x v)(ty:TK X.K T x H) :
  s.TypeIs v T/\∀a,v=.ref a->∃ob,s.heap.get? a=some ob/\ob.dict=none:=by
 cases x with
 | str z =>
  obtain⟨t,rfl⟩:=r;cases (show T = "str" from ty);exact⟨typeIs_str s z t,λ_ e=>nomatch e⟩
 | int i =>
  obtain⟨t,rfl⟩:=r;cases (show T = "int" from ty);exact⟨typeIs_int s i t,λ_ e=>nomatch e⟩
 | ref p =>
  cases r;rcases ty with ⟨rfl,xs,hq⟩ | ⟨rfl,o,hk,hc,hd⟩ | ⟨rfl,hk⟩ | ⟨rfl,S,n,hk⟩
  .obtain⟨aT,_,pl,_⟩:=I.list hq;refine⟨pl.isList.typeIs,λa e=>?_⟩;cases e;obtain⟨o,n,e,c,hd,_⟩:=pl;exact⟨o,e,hd⟩
  .refine⟨⟨o,I.wC p o hk,hc⟩,λa e=>?_⟩;cases e;exact⟨o,I.wC _ o hk,hd⟩
  .have z:∃o,s.heap.get? p=some o/\o.ExactDict:=by
    rcases hk with ⟨kvs,hk⟩ | ⟨kvs,hk⟩
    .obtain⟨_,_,_,_,o,_,_,e,ex,_⟩:=I.cw p _ hk;exact⟨o,e,ex⟩
    obtain⟨_,_,_,_,o,_,_,e,ex,_⟩:=I.cw p _ hk;exact⟨o,e,ex⟩
   obtain⟨o,e,ex⟩:=z;refine⟨⟨o,e,ex.1⟩,λa e2=>?_⟩;cases e2;exact⟨o,e,ex.2.1⟩
  obtain⟨o,_,_,_,e,ex,_⟩:=I.cw p _ hk;refine⟨⟨o,e,ex.1⟩,λa e2=>?_⟩;cases e2;exact⟨o,e,ex.2.1⟩
 | _=>exact False.elim ty
def T7 (K:ba)(T:String)(r:V->List V->Hp->VK->Prop)(to:TE):TE:=λσ H Q=>to σ H λx H1=>TK K T x H1/\r x [] H1 Q
def tBM (K:ba)(T:String)(r:V->List V->Hp->VK->Prop)(to:TE)(t:TA):TE:=λσ H Q=>to σ H λx H1=>TK K T x H1/\t σ H1 λxs H2=>r x xs H2 Q
variable {o e:Expr}{es:List Expr}{to:TE}{t:TA}{name:Str}{apos hV:Pos}{T id:String}{r:V->List V->Hp->VK->Prop}
def Ft (pa:PlainAttrs T)(slot:Slot T name id)(Vr:typeOf (.builtin id)=pure (.type "method_descriptor"))(hm:OQ X id r)(ho:PE X o to)
  (GK:attributeBase o name X.env (eval o X.env)=eval o X.env:=by rfl)(Gw:(apos.endLine == hV.line)=true:=by rfl):PE X (.Call (.Attribute o name apos) [] [] hV) (T7 X.K T r to):=by
 intro ah s σ H Q I h;refine wpAny_Call_method0_late GK Gw (cQ (ho ah s σ H _ I h) λv s1 ⟨x,H1,I1,r1,ty,q1⟩=>?_);obtain⟨h1,h2⟩:=Et I1 r1 ty;exact⟨T,id,pa,slot,Vr,h1,h2,ro rfl (PySem.evalArgs_none (hm ah s1 σ H1 x [] v [] Q I1 r1 .nil q1))⟩
def g9 (pa:PlainAttrs T)(slot:Slot T name id)(Vr:typeOf (.builtin id)=pure (.type "method_descriptor"))(hm:OQ X id r)(ho:PE X o to)(ha:PA X (e::es) t)
  (GK:attributeBase o name X.env (eval o X.env)=eval o X.env:=by rfl)
  (VX:((backTo hV (starEach (e::es) X.env)).all (λx=>!x.1) && (backToKw hV (keywordEach [] X.env)).all (λx=>x.1.isSome)
   && decide ((e::es).length+([]:List Keyword).length+(if ([]:List Keyword).isEmpty then 0 else 1) < 30))=true:=by rfl)
  (Gw:(apos.endLine == hV.line)=true:=by rfl)(hs:starEach (e::es) X.env=(false,eval e X.env)::starEach es X.env:=by rfl)(MT:(backTo hV (starEach es X.env)).any (·.1)=false:=by rfl) :
  PE X (.Call (.Attribute o name apos) (e::es) [] hV) (tBM X.K T r to t):=by
 intro ah s σ H Q I h;refine wpAny_Call_method_late GK VX Gw rfl (cQ (ho ah s σ H _ I h) λv s1 ⟨x,H1,I1,r1,ty,q1⟩=>?_);obtain⟨h1,h2⟩:=Et I1 r1 ty;refine⟨T,id,pa,slot,Vr,h1,h2,?_⟩;have hA:=ha hV ah s1 σ H1 _ I1 q1;rw [hs] at hA ⊢;refine ro (by show (false || (backTo hV (starEach es X.env)).any (·.1))=false;rw [MT] <;> rfl) (vi ?_)
 exact cQ hA λus s2 ⟨vs,H2,I2,r2,q2⟩=>hm ah s2 σ H2 x vs v us Q I2 r1 r2 q2
end
def XC (X:Cx)(id:String)(r:V->List V->Hp->VK->Prop):Prop :=
 ∀(ah:List (Addr×Obj))(s:Shared)(σ:St)(H:Hp)(x:V)(xs:List V)(v:Value)(us:List Value)(Q:VK),Inv X ah σ H s->RelV x v->bf xs us->r x xs H Q ->
  wpAny (model X.prog X.w) X.A (call (.builtin id) (v::us)) (EP X ah σ Q) X.xe s
def bf.one:∀{x:V}{us:List Value},bf [x] us->∃u,us=[u]/\RelV x u
 | _,_,.cons r .nil=>⟨_,rfl,r⟩
def bf.two:∀{x y:V}{us:List Value},bf [x,y] us->∃u v,us=[u,v]/\RelV x u/\RelV y v
 | _,_,_,.cons r (.cons q .nil)=>⟨_,_,rfl,r,q⟩
def bf.zero:∀{us:List Value},bf [] us->us=[]
 | _,.nil=>rfl
theorem bf.dropLast {xs:List V}{us:List Value}(h:bf xs us):bf xs.dropLast us.dropLast:=by
 induction h with
 | nil=>exact .nil
 | cons r t ih =>
  cases t with
  | nil=>exact .nil
  | cons q t'=>exact .cons r ih
theorem bf.eraseIdx:∀{xs:List V}{us:List Value}(i:Nat),bf xs us->bf (xs.eraseIdx i) (us.eraseIdx i)
 | _,_,_,.nil=>.nil
 | _,_,0,.cons _ t=>t
 | _,_,i+1,.cons r t=>.cons r (bf.eraseIdx i t)
theorem bf.reverse {xs:List V}{us:List Value}(h:bf xs us):bf xs.reverse us.reverse:=by
 induction h with
 | nil=>exact .nil
 | cons r t ih=>rw [qK,qK];exact bf.append ih (.cons r .nil)
def AH {α:Type}(l:List α):l.eraseIdx (l.length - 1)=l.dropLast:=by
 induction l with
 | nil=>rfl
 | cons a r ih =>
  cases r with
  | nil=>rfl
  | cons b r =>
   have e:(a::b::r).length - 1=((b::r).length - 1)+1:=by
    have h1:(a::b::r).length=r.length+2:=rfl;have h2:(b::r).length=r.length+1:=rfl;omega
   rw [e,List.eraseIdx_cons_succ,ih]
   all_goals rfl
section
variable {X:Cx}{ah:List (Addr×Obj)}{σ:St}{H:Hp}{s:Shared}{l b:Addr}{xs ys zs:List V}
def Inv.Mz {aT tT:List Value}{n:Nat}{f:Array Value->Array Value}{t':Nat}(I:Inv X ah σ H s)(hH:H l=some (.lst xs))
  (e:s.heap.get? l=some { cls:=.type "list",data:=.seq aT.toArray n })(hf:f aT.toArray=tT.toArray)(hv:bf ys tT)(hz:ys.length<=sizeLine) :
  Inv X ah σ (upd H l (.lst ys)) { s with heap:=s.heap.update l (Obj.mapSeq f),toks:=t' }:=by
 have q:=PySem.IsL.update e f;rw [hf] at q;refine I.write (x:=l) (e:=l) (by rw [hH];exact trivial) (.inl rfl) (λb' u hb hu=>(Heap.get?_update_other s.heap (Obj.mapSeq f) (gB hb)).trans hu) ⟨_,q⟩ ?_;exact⟨hz,tT,_,hv,q⟩
def Inv.U3 {aT:List Value}{t':Nat}(I:Inv X ah σ H s)(hv:bf ys aT)(hz:ys.length<=sizeLine) :
  Inv X ah σ (upd H s.heap.objs.size (.lst ys)) { s with heap:=s.heap.push { cls:=.type "list",data:=.seq aT.toArray },toks:=t' } :=
 I.laid (λ_ _ q=>cu _ q) (aF _) ⟨hz,aT,0,hv,dZ _ rfl⟩
theorem Inv.fresh (I:Inv X ah σ H s):H s.heap.objs.size=none:=I.cw.fresh (aF _)
def Inv.CU (I:Inv X ah σ H s)(hH:H l=some (.lst xs)):xs.length<=sizeLine/\∃(aT:List Value) (n:Nat),bf xs aT/\xs.length=aT.length/\s.heap.get? l=some { cls:=.type "list",data:=.seq aT.toArray n }:=by
 obtain⟨z,aT,n,r,e⟩:=I.cw l _ hH;exact⟨z,aT,n,r,r.length,e⟩
def FX {n:Nat}(h:n<=sizeLine):Builtin.List.listTooLong n=false:=by
 unfold Builtin.List.listTooLong;exact b0 ∅
end
section
variable {X:Cx}
def Je:V->List V->Hp->VK->Prop:=λx vs H Q=>∃l xs y,x=.ref l/\vs=[y]/\H l=some (.lst xs)/\xs.length < sizeLine/\Q .fg (upd H l (.lst (xs++[y])))
def bU:XC X "list.append" Je:=by
 intro ah s σ H x vs v us Q I rx rv h;obtain⟨l,xs,y,rfl,rfl,hH,hz,q⟩:=h;cases rx;obtain⟨u,rfl,ru⟩:=rv.one;obtain⟨z,aT,n,r,hl,e⟩:=I.CU hH;refine call_meets F.slot_list_append ⟨_,e,rfl⟩ F.entry_list_append (F.args_list_append_2 _ _) (PySem.list_append l aT.toArray n u (by rw [bX];omega)) ⟨e,?_⟩;refine⟨.fg,_,I.Mz (tT:=aT++[u]) hH e (by simp) (r.append (.cons ru .nil)) ?_,rfl,q⟩;rw [a9,gw];omega
def Jd:V->List V->Hp->VK->Prop:=λx vs H Q=>∃l b xs zs,x=.ref l/\vs=[.ref b]/\H l=some (.lst xs)/\H b=some (.lst zs)/\xs.length+zs.length<=sizeLine/\Q .fg (upd H l (.lst (xs++zs)))
def Od:XC X "list.extend" Jd:=by
 intro ah s σ H x vs v us Q I rx rv h;obtain⟨l,b,xs,zs,rfl,rfl,hH,hB,hz,q⟩:=h;cases rx;obtain⟨u,rfl,ru⟩:=rv.one;cases ru;obtain⟨z,aT,n,r,hl,e⟩:=I.CU hH;obtain⟨z2,dF,n2,r2,tU,e2⟩:=I.CU hB;have hsz:aT.toArray.size+dF.toArray.size<=sizeLine:=by rw [bX,bX];omega
 have QM:¬(!aT.toArray.isEmpty && Builtin.List.listTooLong (aT.toArray.size+dF.toArray.size))=true:=by
  rw [FX hsz,oN];exact eF
 refine call_meets F.slot_list_extend ⟨_,e,rfl⟩ F.entry_list_extend (F.args_list_extend_2 _ _)
  (AutoSeq1.list_extend_list_list_0 l aT.toArray n b dF.toArray n2 QM (by rw [bX];omega) ∅) ⟨e,e2,?_⟩
 refine⟨.fg,_,I.Mz (tT:=aT++dF) hH e (by simp) (r.append r2) ?_,rfl,q⟩;rw [a9];omega
def Uv:V->List V->Hp->VK->Prop:=λx vs H Q=>∃l xs y,x=.ref l/\vs=[]/\H l=some (.lst xs)/\xs[xs.length - 1]?=some y/\Q y (upd H l (.lst xs.dropLast))
def F4:XC X "list.pop" Uv:=by
 intro ah s σ H x vs v us Q I rx rv h;obtain⟨l,xs,y,rfl,rfl,hH,hy,q⟩:=h;cases rx;have hus:=rv.zero;subst hus;obtain⟨z,aT,n,r,hl,e⟩:=I.CU hH;obtain⟨u,hu,ru⟩:=r.get hy;have Vn:aT.toArray[aT.toArray.size - 1]?=some u:=by
  show aT.toArray[aT.length - 1]?=some u;rw [<-Array.getElem?_toList,<-hl];exact hu
 refine call_meets F.slot_list_pop ⟨_,e,rfl⟩ F.entry_list_pop (F.args_list_pop_1 _) (MeetsSeq.list_pop_last l aT.toArray n u Vn (by rw [bX];omega)) ⟨e,?_⟩;refine⟨y,_,I.Mz (tT:=aT.dropLast) hH e ?_ r.dropLast ?_,ru,q⟩
 .show aT.toArray.eraseIdxIfInBounds (aT.toArray.size - 1)=aT.dropLast.toArray;rw [bX,List.eraseIdxIfInBounds_toArray,AH]
 rw [List.length_dropLast];omega
def Ux:R2:=λx y H Q=>∃l b xs zs,x=.ref l/\y=.ref b/\H l=some (.lst xs)/\H b=some (.lst zs)/\xs.length+zs.length<=sizeLine/\∀p,H p=none->Q (.ref p) (upd H p (.lst (xs++zs)))
def dH:jG X (binaryOp .Add) Ux:=by
 intro ah s σ H x y v u Q I rx ry h;obtain⟨l,b,xs,zs,rfl,rfl,hH,hB,hz,q⟩:=h;cases rx;cases ry;obtain⟨z,aT,n,r,hl,e⟩:=I.CU hH;obtain⟨z2,dF,n2,r2,tU,e2⟩:=I.CU hB;refine PySem.P.add_list e e2 ?_ (by rw [bX,bX];omega);have ea:aT.toArray++dF.toArray=(aT++dF).toArray:=by simp
 rw [ea];exact⟨.ref _,_,I.U3 (t':=s.toks) (r.append r2) (by rw [a9];omega),rfl,q _ I.fresh⟩
end
section
variable {prog:Program}{w:World}{A:Around}{E:Value->Shared->Prop}{s:Shared}
set_option maxRecDepth 100000 in
end
section
variable {X:Cx}
end
end L2
namespace IC
open PySem PySem.W PySem.Calls PyProof.Rows
def qk {P:Params}{h:Heap}:∀(ns:List Int)(vs:List Value),WellAll P h vs (ns.map WData.int)->IntsAre vs ns:=by
 intro ns
 induction ns with
 | nil =>
  intro vs w;rw [mh] at w;cases w;exact .nil
 | cons n ns ih =>
  intro vs w;rw [cO] at w;cases w with
  | cons a b =>
   cases a;exact .cons _ _ (ih _ b)
def Ct {l:OpenLaw}{n:Nat}(hn:l.most=some n){P:Params}{h:Heap}{args:List WData}{vals:List Value}
  (JH:l.row.toRowW.claim.pre args=true)(Vp:WellAll P h vals args) :
  ∃a vs ns,vals=[Value.ref a]/\args=[WData.list (ns.map WData.int)]/\h.get? a=some { cls:=.type "list",data:=.seq vs.toArray }/\IntsAre vs ns/\ns.length<=n:=by
 have hsh:WShape.hasAll [] args [.list .int]=true:=(pre_splitW JH).1;have hc:l.pre.holds [] { args:=args }=true:=(pre_splitW JH).2;obtain⟨d,r,rfl,h1,h2⟩:=hasAllW_cons hsh;obtain rfl:=hasAllW_nil h2;obtain⟨xs,rfl,h3⟩:=hasW_list h1;obtain⟨ns,rfl⟩:=items_int h3;have bE:ns.length<=n:=by
  unfold OpenLaw.pre at hc;have h4:(WTm.not (.lt (.lit (.int (n:Int))) (.len (.arg 0)))).holds [] { args:=[.list (ns.map .int)] }=true:=by
   have h4:=(holds_andW hc).1;rw [hn] at h4;exact h4
  have h5:=condW_of h4 (w_not (w_lt w_lit (w_len_list (w_arg rfl))));rw [au] at h5;refine Nat.le_of_not_lt λq=>?_;have q':(n:Int) < ((ns.length:Nat):Int):=by omega
  first
   | (rw [bh q'] at h5;exact absurd h5 (by decide))
   | (simp at h5;omega)
 cases Vp with
 | cons w1 w2 =>
  cases w2;cases w1 with
  | list ho qo=>exact⟨_,_,ns,rfl,rfl,ho,qk ns _ qo,bE⟩
def CA (l:OpenLaw)(args:List WData):l.row.toRowW.claim.post args (.bool true) args=true :=
 postW_of (r:=l.row.toRowW) (X:=(true == true))
  (show WShape.has [] (.bool true) .bool=true by first | rfl | decide | simp [WShape.has,WShape.arms,WShape.armsAll])
  (show (WTm.eq .res (.lit (.bool true))).value [] { args:=args,res:=some (.bool true),after:=args }=some (.bool (true == true)) from w_eq_bool (w_res rfl) w_lit) rfl
def qd {l:OpenLaw}{n:Nat}{q:Program}{loose:List Str}{XP:(Str->Option Value)->Heap->Prop}{YP:World->Heap->Prop}{d:DefRec}
  (hn:l.most=some n)(M8:d.params.defaults=[])
  (call:∀(w:World)(s₀ s₁:Shared)(mg mb:Str->Option Value)(fa:Addr)(o:Obj)(pm cd doc:Value)(a:Addr)(vs:List Value)(ns:List Int),
   Ground q loose [] XP w s₀ mg mb s₁.heap->YP w s₁.heap ->
   s₁.heap.get? fa=some o->o.data=.func (docDef d.name d.params d.body d.scope pm cd doc)->s₁.heap.CodeRec cd d.name->mg d.name=some (.ref fa) ->
   s₁.heap.get? a=some { cls:=.type "list",data:=.seq vs.toArray }->IntsAre vs ns->ns.length<=n->s₁.gens=#[] ->
   codeAny (model l.prog w) callerA (.call (.ref fa) ⟨[.ref a],[]⟩) (λr s'=>r=.ok (.ret (.bool true))/\OldK s₁.heap s'.heap/\s'.os=s₁.os/\AllBare s'.gens) s₁) :
  WalkO q loose XP YP l.row.toRowW d [] (λf vs=>PySem.call f vs):=by
 intro w s₀ s₁ mg mb G Y fa o pm cd doc dV kV ho hd wJ hD MV hg args vals as JH aan hrd Vp hlo;obtain rfl:dV=.none:=Dflts.none hD M8;obtain rfl:kV=.none:=Dflts.noKw hD;obtain⟨a,vs,ns,rfl,rfl,Gs,hints,bE⟩:=Ct hn JH Vp;refine enter_call (oF (call w s₀ s₁ mg mb fa o pm cd doc a vs ns G Y ho (fd_plain hd) wJ MV Gs hints bE hg) λr s' hq=>?_);obtain⟨rfl,h2,h3,h4⟩:=hq;exact⟨.inl ⟨.bool true,.bool true,[],rfl,λ_=>rfl,.bool true,CA l _,λ_=>⟨List.Pairwise.nil,λ_ hm=>(nomatch hm)⟩⟩,h2,h3,h4⟩
section
variable {prog:Program}{w:World}{A:Around}{E:Value->Shared->Prop}{s:Shared}{K:Frag}
def rV (h:Heap):Heap:={ h with objs:=#[] }
def mC (h:Heap)(b:Addr):(rV h).get? b=none:=by
 cases e:(rV h).get? b with
 | none=>rfl
 | some o=>exact absurd (bN e) (Nat.not_lt_zero _)
def ledger (h:Heap)(L d:Addr):List (Addr×Obj):=(List.range h.objs.size).filterMap λa=>if a=L\/a=d then none else (h.get? a).map λo=>(a,o)
def jT {h:Heap}{L d a:Addr}{o:Obj}:(a,o)∈ledger h L d↔a≠L/\a≠d/\h.get? a=some o:=by
 unfold ledger;rw [List.mem_filterMap];constructor
 .rintro⟨b,_,e⟩
  split at e
  .cases e
  rename_i hb
  obtain⟨o',ho,e'⟩:=cC.mp e;cases e';exact⟨λq=>hb (.inl q),λq=>hb (.inr q),ho⟩
 rintro⟨n1,n2,ho⟩;refine⟨a,pN.mpr (bN ho),?_⟩;rw [ay (show ¬(a=L\/a=d) from λq=>q.elim n1 n2),ho] <;> rfl
def x_ {h:Heap}{L d:Addr}{od:Obj}(qF:d≠L)(ho:h.get? d=some od):News (rV h) L h ([]++(d,od)::ledger h L d):=by
 rintro⟨a,o⟩ hp;rcases bW.mp hp with e | hp
 .cases e;exact⟨ho,qF,mC _ _⟩
 obtain⟨n1,n2,e⟩:=jT.mp hp;exact⟨e,n1,mC _ _⟩
def Nm {h:Heap}{L:Addr}{m:Str->Option Value}(n:h.Ns L m):Fr (rV h) L h m :=
 ⟨n,λb o e=>(by rw [mC] at e;cases e),dW _⟩
end
end IC
namespace L2
open PySem PySem.Spec PyProof.Rows
theorem oY:∀{vs:List Value}{ns:List Int},IntsAre vs ns->bf (ns.map V.int) vs
 | _,_,.nil=>.nil
 | _,_,.cons n t h=>.cons ⟨t,rfl⟩ (oY h)
def NY (H:Hp):Prop:=∀b,H b=none\/∃o xs,H b=some (.kn o (.lst xs))
def F_ {P:Program}{w:World}{K:ba}{mg mb:Str->Option Value}{CX:zd}{k:Nat}{fa a:Addr}{fd:FuncData}{x:Str}{sp:Sp}{s₁:Shared}{vs:List Value}{ns:List Int}
  (KX:K.In s₁.heap)(xf:s₁.heap.Ns mainGlobals mg)(hb:s₁.heap.Ns builtinsNs mb)(Nb:∀x:Str,x ≠ "__name__" -> mb x=bootBuiltins x)(MX:s₁.heap.NoLimit)(hg:s₁.gens=#[])
  (ha:s₁.heap.get? a=some { cls:=.type "list",data:=.seq vs.toArray })(hi:IntsAre vs ns)(hl:ns.length<=sizeLine)(hr:fX k callerA)
  (F:∀base:Heap,K.In base->base.Ns mainGlobals mg->bR P w K mg base CX k fa fd [x] sp)(n_:∀(s:Shared)(u:Value),BindsTo s fd ⟨[u],[]⟩ [(x,u)])
  (yV:∀H:Hp,NY H->aH K H a (ns.map V.int)->sp [.ref a] H (λv _=>v=.bl true) λ_ _ _=>False)
  (Nh:∀H e s',CX [] H s₁ (λ_ _ _=>False) e s'->False) :
  codeAny (model P w) callerA (.call (.ref fa) ⟨[.ref a],[]⟩) (λr s'=>r=.ok (.ret (.bool true))/\OldK s₁.heap s'.heap/\s'.os=s₁.os/\AllBare s'.gens) s₁:=by
 have rv:=oY hi;have MD:=hi.length;have core:∀H:Hp,NY H->aH K H a (ns.map V.int)->md P w H s₁.heap->(∀b,H b≠none->b=a)->(H a≠none->K.lookup a=none) ->
   codeAny (model P w) callerA (.call (.ref fa) ⟨[.ref a],[]⟩) (λr s'=>r=.ok (.ret (.bool true))/\OldK s₁.heap s'.heap/\s'.os=s₁.os/\AllBare s'.gens) s₁:=by
  intro H hO hS cw hA hK;have lJ:∀{b:Addr}{o:Obj},s₁.heap.get? b=some o->H b=none->(mJ s₁.heap H).get? b=some o:=λe n=>yi e n;have PY:∀{b:Addr}{o:Obj}{es:Array DictEntry}{ep:Nat},s₁.heap.get? b=some o->o.data=.dict es ep->H b=none:=λ{b o es ep} e d=>by
   cases q:H b with
   | none=>rfl
   | some u =>
    have e':b=a:=hA b (by rw [q];simp);subst e';rw [ha] at e;cases e;have d':Data.seq vs.toArray _=Data.dict es ep:=d;cases d'
  have Jx:∀{b:Addr}{m:Str->Option Value},s₁.heap.Ns b m->(mJ s₁.heap H).Ns b m:=λ{b m} ⟨o,es,ep,e,d,r⟩=>⟨o,es,ep,lJ e (PY e d),d,r⟩;have Q2:K.In (mJ s₁.heap H):=λb o e=>lJ (KX b o e) (by
   cases q:H b with
   | none=>rfl
   | some u =>
    have e':b=a:=hA b (by rw [q];simp);subst e';rw [hK (by rw [q];simp)] at e;cases e)
  have hM:Mod K mg (mJ s₁.heap H):=⟨Q2,Jx xf,⟨mb,Jx hb,Nb⟩,let ⟨mc,h1,h2⟩:=MX;⟨mc,Jx h1,h2⟩⟩;have e0:qt P w K mg (mJ s₁.heap H) callerA [] s₁ H:=⟨rfl,hM,λb o e=>BH e,Nat.le_of_eq (uH _ _),trivial,λb hb=>absurd (show b∈([]:List Addr) from hb) (by simp),cw,.of_eq hg⟩;refine oF ((F _ Q2 (Jx xf)).run callerA [] s₁ H ⟨[.ref a],[]⟩ [.ref a] [.ref a] _ _ hr e0 (n_ s₁ (.ref a)) (.cons rfl .nil) (yV H hO hS)) λr s' h=>?_;cases r with
  | error e=>exact(Nh H e s' h).elim
  | ok fl =>
   cases fl with
   | next=>exact False.elim h
   | brk=>exact False.elim h
   | cont=>exact False.elim h
   | ret u =>
    obtain⟨v,H',os,bare,un,JI,r',q⟩:=h;have q':v=.bl true:=q;subst q';obtain rfl:u=Value.bool true:=r';refine⟨rfl,OldK.of_keep λb o e=>?_,os,bare⟩;cases q:H b with
    | none=>exact un.keep b o e q (by intro z;exact absurd (show b∈([]:List Addr) from z) (by simp)) (by simp)
    | some u =>
     rcases hO b with z | ⟨ob,xs,z⟩
     .rw [q] at z;cases z
     have z2:=un.mK b ob _ z;obtain⟨e1,_⟩:=cw b _ z;obtain⟨e2,_⟩:=JI b _ z2;rw [e] at e1;cases e1;exact e2
 cases hk:K.lookup a with
 | some o =>
  have e:=KX a o hk;rw [ha] at e;cases e;refine core (λ_=>none) (λ_=>.inl rfl) (.inr ⟨_,vs.toArray,_,hk,rfl,rfl,rfl,by rw [bX,MD];exact hl,by simpa using rv⟩) (λb u z=>by have z':(none:Option HO)=some u:=z;cases z') (λb z=>absurd rfl z) λz=>absurd rfl z
 | none =>
  refine core (λb=>if b=a then some (.kn { cls:=.type "list",data:=.seq vs.toArray } (.lst (ns.map V.int))) else none) (λb=>?_) (.inl (.inr ⟨{ cls:=.type "list",data:=.seq vs.toArray },ax rfl⟩)) (λb u z=>?_) (λb z=>?_) λ_=>hk
  .by_cases hb:b=a
   .exact .inr ⟨_,_,ax hb⟩
   exact .inl (ay hb)
  .by_cases hb:b=a
   .have z':=(ax hb).symm.trans z;cases z';subst hb;exact⟨ha,by rw [au];exact hl,vs,_,rv,ha⟩
   have z':=(ay hb).symm.trans z;cases z'
  by_cases hb:b=a
  .exact hb
  exact absurd (ay hb) z
abbrev KOf {K:ba}{h:Heap}(_:K.In h):ba:=K
def RT {l:PySem.W.OpenLaw}{n k:Nat}{q:Program}{loose:List Str}{XP:(Str->Option Value)->Heap->Prop}{YP:World->Heap->Prop}{d:DefRec}{K:Params->ba}{CX:World->zd}{sp:World->Sp}{x:Str}
  (hn:l.most=some n)(Gv:n<=sizeLine)(M8:d.params.defaults=[])(hr:fX k callerA)
  (hY:∀(w:World)(h:Heap),YP w h->(K w.params).In h)
  (F:∀(w:World)(mg:Str->Option Value)(fa:Addr)(h:Heap),(K w.params).In h->h.Ns mainGlobals mg->mg d.name=some (.ref fa) ->
   ∃fd:FuncData,(∀(s:Shared)(u:Value),BindsTo s fd ⟨[u],[]⟩ [(x,u)]) /\
    ∀base:Heap,(K w.params).In base->base.Ns mainGlobals mg->bR l.prog w (K w.params) mg base (CX w) k fa fd [x] (sp w))
  (yV:∀(w:World)(H:Hp)(a:Addr)(ns:List Int),ns.length<=n->NY H->aH (K w.params) H a (ns.map V.int)->sp w [.ref a] H (λv _=>v=.bl true) λ_ _ _=>False)
  (Nh:∀(w:World)(H:Hp)(s:Shared)(e:Value)(s':Shared),CX w [] H s (λ_ _ _=>False) e s'->False) :
  PySem.W.WalkO q loose XP YP l.row.toRowW d [] (λf vs=>PySem.call f vs):=by
 refine IC.qd hn M8 λw s₀ s₁ mg mb fa o pm cd doc a vs ns G Y ho hd wJ MV Gs hints bE hg=>?_;have KX:=hY w _ Y;obtain⟨fd,hb,hF⟩:=F w mg fa _ KX G.T.g MV;exact F_ KX G.T.g G.T.b G.T.builtins G.T.nolimit hg Gs hints (dX bE Gv) hr hF hb (λH hO hS=>yV w H a ns bE hO hS) λH e s'=>Nh w H s₁ e s'
def dI (s:Stmt):Arguments:=match s with
 | .FunctionDef _ a _ _ _ _ _ _ _ _=>a
 | _=>{ posonlyargs:=[],args:=[],vararg:=none,kwonlyargs:=[],kw_defaults:=[],kwarg:=none,defaults:=[] }
def cA (s:Stmt):List Stmt:=match s with
 | .FunctionDef _ _ b _ _ _ _ _ _ _=>b
 | _=>[]
def av (s:Stmt):Scope:=match s with
 | .FunctionDef _ _ _ _ _ _ sc _ _ _=>sc
 | _=>{ kind:=.function,names:=[],isGenerator:=false,isCoroutine:=false }
abbrev gk:zd:=λ_ _ _ _ _ _=>False
abbrev E0:XK:=λ_ _ _=>False
def ux {X:Cx}:Passes gk X E0:=λ_ _ _ _ _ _ _ h=>h.elim
structure iB (K:ba)(x qual:Str)(st:Stmt)(f:Addr)(fd:FuncData):Prop where
 ex:∃(oc:Value)(od:Option Addr)(kV doc pm:Value)(an:Option Addr)(eX ct:Value)(xR:Array (Option Value)),
  fd=PySem.W.fnOf x qual (dI st) (cA st) (av st) .none kV doc pm an eX ct/\K.lookup f=some ⟨oc,od,.func fd,xR⟩/\PySem.W.codeIn K eX qual=true
 kp:PySem.W.keepIn K (.ref f)=true
section
variable {P:Program}{w:World}{K:ba}{mg:Str->Option Value}{base:Heap}
def iB.ok {x qual:Str}{st:Stmt}{f:Addr}{fd:FuncData}{N ps:List Str}{k:Nat}{sp:Sp}(F:iB K x qual st f fd)(S:aK N ps (av st))(len:∀vs H Q E,sp vs H Q E->vs.length=ps.length)
  (jA:∀(eX:Value)(A:Around)(outer:List Env)(s:Shared)(H:Hp)(vs:List V)(Q:VK)(E:XK),fX k (A.deeper (envOfC qual (av st) s.heap.objs.size f eX))->sp vs H Q E ->
   ∃t,AW (pI gk P w K mg base N qual (av st) f eX A outer s H E).CS (cA st) t/\t { nx:=λ_ H'=>Q .fg H',rt:=Q } (start N vs) H):bR P w K mg base gk (k+1) f fd ps sp:=by
 obtain⟨oc,od,kV,doc,pm,an,eX,ct,xR,rfl,lk,wJ⟩:=F.ex;refine G1 lk wJ S len λA outer s H vs Q E hr yV=>?_;obtain⟨t,h,q⟩:=jA eX A outer s H vs Q E hr yV;exact⟨t,h.CS,q⟩
def iB.binds {x qual:Str}{st:Stmt}{f:Addr}{fd:FuncData}{ps:List Str}(F:iB K x qual st f fd)
  (h:∀(kV doc pm:Value)(an:Option Addr)(eX ct:Value)(us:List Value),us.length=ps.length->bindArgs (PySem.W.fnOf x qual (dI st) (cA st) (av st) .none kV doc pm an eX ct) ⟨us,[]⟩=pure (ps.zip us)):Binds K fd ps []:=by
 obtain⟨oc,od,kV,doc,pm,an,eX,ct,xR,rfl,lk,wJ⟩:=F.ex;exact .all (h kV doc pm an eX ct)
def GX {x qual:Str}{st:Stmt}{f:Addr}{oc:Value}{od an:Option Addr}{xR:Array (Option Value)}{kV doc pm eX ct:Value}(l:K.lookup f=some ⟨oc,od,.func (PySem.W.fnOf x qual (dI st) (cA st) (av st) .none kV doc pm an eX ct),xR⟩)
  (c:PySem.W.codeIn K eX qual=true)(k:PySem.W.keepIn K (.ref f)=true):iB K x qual st f (PySem.W.fnOf x qual (dI st) (cA st) (av st) .none kV doc pm an eX ct):=⟨⟨oc,od,kV,doc,pm,an,eX,ct,xR,rfl,l,c⟩,k⟩
end
def gh {A:Around}{k:Nat}(hr:fX k A):A.units+1 < cLine:=q_ (Nat.add_le_add_left (by decide:1<=64) _) hr.units
section
variable {X:Cx}
def pv (i:Nat){x:Str}{pos:Pos}(hN:X.N[i]?=some x:=by rfl)(hv:Td X.env.scope x:=by first | exact Or.inl rfl | exact Or.inr (bC rfl) | exact Or.inr (Or.inr rfl))(hd:(x == ("__debug__":Str))=false:=by decide)
  (wJ:(x == ("__classdict__":Str))=false:=by decide):PE X (.Name x pos) (gS i):=Mi hN hv hd wJ
end
def cT {A B:Prop}(h:B):if false=true then A else B:=by
 rw [ay eF];exact h
def d0 {A B:Prop}(h:A):if true=true then A else B:=by
 rw [ax rfl];exact h
def cf {c A B:Prop} [Decidable c] (h1:c->A)(h2:¬c->B):if c then A else B:=by
 by_cases h:c
 .rw [ax h];exact h1 h
 rw [ay h];exact h2 h
def aA (H H':Hp):Prop:=∀b o,H b=some o->H' b=some o
def aA.refl (H:Hp):aA H H:=λ_ _ h=>h
def aA.trans {H H1 H2:Hp}(a:aA H H1)(b:aA H1 H2):aA H H2:=λc o h=>b c o (a c o h)
def aA.free {H H':Hp}(e:aA H H'){l:Addr}(h:H' l=Option.none):H l=Option.none:=by
 cases q:H l with
 | none=>rfl
 | some o =>
  rw [e l o q] at h;cases h
def aA.seq {K:ba}{H H':Hp}{a:Addr}{xs:List V}(e:aA H H')(h:aH K H a xs):aH K H' a xs:=by
 rcases h with (h | ⟨o,h⟩) | h
 .exact .inl (.inl (e _ _ h))
 .exact .inl (.inr ⟨o,e _ _ h⟩)
 exact .inr h
end L2
namespace HD
open PySem PySem.W
def E_ (st:SharedT->Thread->Option (SharedT×Thread))(ok:Thread->Bool):Nat->SharedT->Thread->Option SharedT
 | 0,_,_=>none
 | n+1,s,t=>match through t with
  | true=>some s
  | false=>match ok t with
   | false=>none
   | true=>match st s t with
    | some (s',t')=>E_ st ok n s' t'
    | none=>none
theorem Bx {tb:String->Option Builtin}{p:Program}{w:World}{n₀:Nat}{ann:Option Value}:∀{n:Nat}{s s':SharedT}{t:Thread},E_ (stepT (denote tb) p w) (stepOk n₀ ann) n s t=some s'->topRun tb p w n₀ ann n s.abs t=some s'.abs
 | 0,_,_,_,h=>by cases h
 | n+1,s,s',t,h=>by
  unfold E_ at h;unfold topRun;cases he:through t with
  | true=>rw [he] at h;cases h;rfl
  | false =>
   rw [he] at h;cases hk:stepOk n₀ ann t with
   | false=>rw [hk] at h;cases h
   | true =>
    rw [hk] at h;cases hs:stepT (denote tb) p w s t with
    | none=>rw [hs] at h;cases h
    | some r=>obtain⟨s₂,t₂⟩:=r;rw [hs] at h;rw [stepT_spec hs];exact Bx h
def lL:List Obj->Nat->BT->BT
 | [],_,t=>t
 | o::r,i,t=>lL r (i+1) (t.ins i o)
noncomputable def B5 (P:Params):BT:=lL (boot_heap P).objs.toList 0 .nil
def DQ (P:Params):absHeap (B5 P) 11 {}=boot_heap P:=by kernel_rfl
def Np {β:Type}:Obj->(Obj->β)->β
 | ⟨c,d,t,s⟩,k=>k ⟨c,d,t,s⟩
def qG {β:Type}:List Obj->(List Obj->β)->β
 | [],k=>k []
 | x::r,k=>Np x λy=>qG r λys=>k (y::ys)
theorem sE {β:Type}:∀(l:List Obj)(k:List Obj->β),qG l k=k l
 | [],_=>rfl
 | ⟨c,d,t,s⟩::r,k=>by
  show qG r (λys=>k (⟨c,d,t,s⟩::ys))=_;rw [sE r]
def F6 (p q:Program) (loose:List Str)(Xt:Shared->Bool){α:Type}(Yf:Shared->α)(g0:Bool)(h₀:Heap)(s:Shared) :=
 ((staticsOk (importedModules p.main.body) h₀ s.heap && namesBound p s.heap && gensDone s && laidKept h₀ s.heap),openSeen q loose (importedModules p.main.body) Xt g0 s,Yf s)
def ER {β:Type}(f:Shared->β)(s:SharedT):β:=qG (s.tree.list s.n) λl=>f ⟨⟨l.toArray,s.life⟩,s.gens,s.drawn,s.toks,s.os⟩
def EN {β:Type}(f:Shared->β)(s:SharedT):ER f s=f s.abs:=sE _ _
def Qc {p q:Program}{loose:List Str}{Xt:Shared->Bool}{α:Type}{Yf:Shared->α}{Ya:World->α}{N:Nat}{g0:Bool}{ann:Option Value}{M:Nat}
  (Fw:∀w:World,(fencedOpening treeTable p w N).map (λs=>(s.heap,s.gens,s.drawn,s.toks))=some (boot_heap w.params,Array.mk [],boot_drawn,boot_toks))
  (size:∀w:World,((boot_heap w.params).isNs mainGlobals && (Array.mk []:Array GenState).size == 0,(boot_heap w.params).objs.size,(boot_heap w.params).nsMap mainGlobals "__annotations__")=(true,11,ann))
  (run:∀(w:World)(os:OsState),(E_ (stepT (denote treeTable) p w) (stepOk 11 ann) M ⟨B5 w.params,11,{},Array.mk [],boot_drawn,boot_toks,os⟩ (topStub p)).map (ER (F6 p q loose Xt Yf g0 (boot_heap w.params)))=some (true,openGood q loose,Ya w))
  (le:Nat.ble M N=true):LeftO p q loose Xt Yf Ya N g0:=λw=>by
 obtain⟨⟨h,gs,d,k,os⟩,e,e'⟩:=cC.mp (Fw w);obtain⟨rfl,rfl,rfl,rfl⟩:h=boot_heap w.params/\gs=Array.mk []/\d=boot_drawn/\k=boot_toks:=by simpa using e'
 obtain⟨z1,z2,z3⟩:_/\_/\_:=by simpa only [qR] using size w
 obtain⟨s',r0,l0⟩:=cC.mp (run w os);rw [EN] at l0;obtain⟨l1,l2,l3⟩:_/\_/\_:=by simpa only [F6,qR] using l0
 have r:=Bx r0;have ea:SharedT.abs ⟨B5 w.params,11,{},Array.mk [],boot_drawn,boot_toks,os⟩=⟨boot_heap w.params,Array.mk [],boot_drawn,boot_toks,os⟩:=by
  unfold SharedT.abs;rw [DQ]
 rw [ea] at r;have r:=topRun_mono (N - M) _ _ _ _ r;rw [show M+(N - M)=N by have:=Nat.le_of_ble_eq_true le;omega] at r;have t:topFrom treeTable p w N ⟨boot_heap w.params,Array.mk [],boot_drawn,boot_toks,os⟩=some s'.abs:=by
  unfold topFrom;dsimp only;rw [z1,z2,z3,r];show (match staticsOk (importedModules p.main.body) (boot_heap w.params) s'.abs.heap && namesBound p s'.abs.heap && gensDone s'.abs && laidKept (boot_heap w.params) s'.abs.heap with | true=>_ | false=>_)=_
  rw [l1]
 unfold openEnds;rw [e];show (topFrom treeTable p w N _).map _=_;rw [t];exact congrArg some (Prod.ext l2 l3)
end HD
set_option maxHeartbeats 0
namespace HD
open PySem PySem.W L2
def dE (P:Params)(x:Str)(t:Tok)(v:Value):DictEntry:=⟨PyData.keyHash P x,.str x t,v⟩
def top (p:Program) (i:Nat):Stmt:=p.main.body.getD i (.Pass ⟨0,0,0,0⟩)
def jw (p:Program) (i j:Nat):Stmt:=match top p i with
 | .ClassDef _ _ _ body _ _ _ _ _ _ _=>body.getD j (.Pass ⟨0,0,0,0⟩)
 | _=>.Pass ⟨0,0,0,0⟩
def posOf (s:Stmt):Pos:=match s with
 | .FunctionDef _ _ _ _ _ _ _ _ _ p=>p
 | _=>⟨0,0,0,0⟩
def cF (a:Addr)(n q:Str)(i:Nat)(l m:Int)(x y:Addr)(u v s t:Value)(z:Int)(w:Nat):Addr×Obj:=(a,⟨.type "code",none,.fields #[.str n i,.str q (i+1),.str "/claim/cut.py" (i+2),.int l 0,.int m 0,.int 0 0,.int 0 0,.int 3 0,.ref x,.bool true,.int 181 0,.ref y,u,v,s,t,.int z 0,.int l 0,.str "/claim/cut.py" w],#[]⟩)
def fF (a:Addr)(n q:Str)(s:Stmt)(m:Value):Addr×Obj:=(a,⟨.type "function",none,.func (fnOf n q (dI s) (cA s) (av s) .none .none .none m none (.ref (a-1)) .none),#[]⟩)
def dR (P:Params)(x:Str)(t:Tok)(a:Addr):DictEntry:=dE P x t (.ref a)
def m0:Value:=.str "__main__" 164
def m1:Value:=.str "wright.rules" 194
def m2:Value:=.str "wright.deed_trees" 234
def m3:Value:=.str "wright.begin_tables" 283
def m4:Value:=.str "wright.errors" 377
def m5:Value:=.str "wright.loops" 538
def m6:Value:=.str "wright.tree_sizes" 568
def m7:Value:=.str "wright.grammar_faults" 589
def m8:Value:=.str "wright.least_trees" 616
def m9:Value:=.str "wright.grammars" 702
def ki:Value:=.str "law_wright_k68_deeds_of_no_tree" 745
noncomputable def K' (p:Program)(P:Params):Frag:=[
 (2,⟨.none,none,.dict #[] 0,#[]⟩),
 (3,⟨.type "dict",none,.dict #[dE P "__name__" 165 (.str "law_wright_k68_deeds_of_no_tree" 745),dE P "__doc__" 166 (.none),dE P "__package__" 167 (.none),dE P "__loader__" 168 (.builtin "__main__.__loader__#opaque"),dE P "__spec__" 169 (.none),dR P "__annotations__" 170 6,dR P "__builtins__" 171 4,dE P "__file__" 173 (.str "/claim/cut.py" 172),dE P "__cached__" 174 (.none),dR P "_wall" 193 21,dR P "heads_of" 201 26,dR P "words_in" 207 31,dR P "numbers_by_name" 213 36,dR P "standings_by_part" 225 43,dR P "is_number_below" 233 50,dR P "tree_of" 241 55,dR P "do_deed" 251 62,dR P "do_step" 260 69,dR P "do_make" 272 76,dR P "is_child" 282 83,dR P "found_empties" 290 88,dR P "first_places" 301 95,dR P "BeginTable" 376 145,dR P "WrightError" 396 159,dR P "NoRules" 412 172,dR P "Twice" 437 191,dR P "Endless" 462 210,dR P "Unmet" 487 229,dR P "Loop" 512 248,dR P "Vast" 537 267,dR P "find_loop" 545 274,dR P "steps_with_like_rows" 551 279,dR P "way_back" 567 286,dR P "least_sizes" 575 291,dR P "greatest_empty_sizes" 582 298,dR P "settled_sizes" 588 303,dE P "MOST_RULES" 592 (.int (60) 591),dR P "refuse_faults" 598 308,dR P "refuse_twice" 609 315,dR P "names_met" 615 320,dR P "least_by_part" 623 325,dR P "rule_size" 629 330,dR P "empty_by_name" 635 335,dR P "LeastTrees" 701 378,dR P "Grammar" 744 407,dR P "_law_cell_at" 754 418,dR P "_law_names" 760 423,dR P "_law_words" 767 430,dR P "_law_digits" 779 437,dR P "_law_skeleton" 793 444,dR P "_law_more" 808 451,dR P "_law_ended" 814 456,dR P "_law_good" 820 461,dR P "_law_grammar" 834 468,dR P "_law_least" 840 473,dR P "_law_tree" 855 480,dR P "_law_deeds" 864 487,dR P "_law_drawn_tree" 870 492,dR P "_law_whole" 877 499,dR P "_law_piled" 891 506,dR P "_law_due" 897 511,dR P "_law_spoiled" 911 518,dR P "law" 925 525] 63,#[]⟩),
 (cF 20 "_wall" "_wall" 187 1 1 15 16 .none (.ref 17) (.ref 18) (.ref 19) 191 192),
 (fF 21 "_wall" "_wall" (top p 0) m0),
 (cF 25 "heads_of" "heads_of" 196 5 1 22 23 .none .none .none (.ref 24) 199 200),
 (fF 26 "heads_of" "heads_of" (top p 2) m1),
 (cF 30 "words_in" "words_in" 202 7 1 27 28 .none .none .none (.ref 29) 205 206),
 (fF 31 "words_in" "words_in" (top p 3) m1),
 (cF 35 "numbers_by_name" "numbers_by_name" 208 15 1 32 33 .none .none .none (.ref 34) 211 212),
 (fF 36 "numbers_by_name" "numbers_by_name" (top p 4) m1),
 (cF 42 "standings_by_part" "standings_by_part" 214 20 1 37 38 .none (.ref 39) (.ref 40) (.ref 41) 223 224),
 (fF 43 "standings_by_part" "standings_by_part" (top p 5) m1),
 (cF 49 "is_number_below" "is_number_below" 226 26 2 44 45 .none (.ref 46) (.ref 47) (.ref 48) 231 232),
 (fF 50 "is_number_below" "is_number_below" (top p 6) m1),
 (cF 54 "tree_of" "tree_of" 236 29 2 51 52 .none .none .none (.ref 53) 239 240),
 (fF 55 "tree_of" "tree_of" (top p 8) m2),
 (cF 61 "do_deed" "do_deed" 242 38 4 56 57 .none (.ref 58) (.ref 59) (.ref 60) 249 250),
 (fF 62 "do_deed" "do_deed" (top p 9) m2),
 (cF 68 "do_step" "do_step" 252 44 3 63 64 .none (.ref 65) (.ref 66) (.ref 67) 258 259),
 (fF 69 "do_step" "do_step" (top p 10) m2),
 (cF 75 "do_make" "do_make" 261 49 4 70 71 .none (.ref 72) (.ref 73) (.ref 74) 270 271),
 (fF 76 "do_make" "do_make" (top p 11) m2),
 (cF 82 "is_child" "is_child" 273 59 4 77 78 .none (.ref 79) (.ref 80) (.ref 81) 280 281),
 (fF 83 "is_child" "is_child" (top p 12) m2),
 (cF 87 "found_empties" "found_empties" 285 64 1 84 85 .none .none .none (.ref 86) 288 289),
 (fF 88 "found_empties" "found_empties" (top p 14) m3),
 (cF 94 "first_places" "first_places" 291 75 2 89 90 .none (.ref 91) (.ref 92) (.ref 93) 299 300),
 (fF 95 "first_places" "first_places" (top p 15) m3),
 (cF 106 "__init__" "BeginTable.__init__" 314 84 2 103 104 .none .none .none (.ref 105) 317 318),
 (fF 107 "__init__" "BeginTable.__init__" (jw p 16 0) m3),
 (cF 113 "find_begins" "BeginTable.find_begins" 320 95 3 108 109 .none (.ref 110) (.ref 111) (.ref 112) 329 330),
 (fF 114 "find_begins" "BeginTable.find_begins" (jw p 16 1) m3),
 (cF 120 "words_of_part" "BeginTable.words_of_part" 332 103 2 115 116 .none (.ref 117) (.ref 118) (.ref 119) 337 338),
 (fF 121 "words_of_part" "BeginTable.words_of_part" (jw p 16 2) m3),
 (cF 127 "first_words" "BeginTable.first_words" 340 106 2 122 123 .none (.ref 124) (.ref 125) (.ref 126) 345 346),
 (fF 128 "first_words" "BeginTable.first_words" (jw p 16 3) m3),
 (cF 134 "all_empty" "BeginTable.all_empty" 348 109 2 129 130 .none (.ref 131) (.ref 132) (.ref 133) 353 354),
 (fF 135 "all_empty" "BeginTable.all_empty" (jw p 16 4) m3),
 (cF 141 "words_of_parts" "BeginTable.words_of_parts" 356 112 3 136 137 .none (.ref 138) (.ref 139) (.ref 140) 362 363),
 (fF 142 "words_of_parts" "BeginTable.words_of_parts" (jw p 16 5) m3),
 (144,⟨.type "dict",none,.dict #[dE P "__module__" 309 (.str "wright.begin_tables" 283),dE P "__firstlineno__" 313 (.int (82) 312),dR P "__init__" 319 107,dR P "find_begins" 331 114,dR P "words_of_part" 339 121,dR P "first_words" 347 128,dR P "all_empty" 355 135,dR P "words_of_parts" 364 142,dR P "__static_attributes__" 369 143,dR P "__dict__" 371 146,dR P "__weakref__" 373 147,dE P "__doc__" 374 (.none)] 4,#[]⟩),
 (145,⟨.type "type",none,.cls ⟨"BeginTable",[.type "object"],[.ref 145,.type "object"],144,"BeginTable",true,[],[],false,none,false⟩,#[none,none,some (.str "BeginTable" 302),some (.str "BeginTable" 310),some (.builtin "object.__new__"),some (.bool true)]⟩),
 (146,⟨.type "getset_descriptor",none,.fields #[.str "__dict__" 370,.ref 145,.builtin "function.__dict__",.builtin "function.__dict__#set"],#[]⟩),
 (147,⟨.type "getset_descriptor",none,.fields #[.str "__weakref__" 372,.ref 145,.builtin "ExceptionGroup.__weakref__",.none],#[]⟩),
 (158,⟨.type "dict",none,.dict #[dE P "__module__" 386 (.str "wright.errors" 377),dE P "__firstlineno__" 390 (.int (115) 389),dR P "__static_attributes__" 391 157,dR P "__weakref__" 393 160,dE P "__doc__" 394 (.none)] 3,#[]⟩),
 (159,⟨.type "type",none,.cls ⟨"WrightError",[.type "ValueError"],[.ref 159,.type "ValueError",.type "Exception",.type "BaseException",.type "object"],158,"WrightError",true,[],[.ref 172,.ref 191,.ref 210,.ref 229,.ref 248,.ref 267],false,none,false⟩,#[some (.ref 150),none,some (.str "WrightError" 379),some (.str "WrightError" 387),some (.builtin "ValueError.__new__"),some (.bool true)]⟩),
 (160,⟨.type "getset_descriptor",none,.fields #[.str "__weakref__" 392,.ref 159,.builtin "ExceptionGroup.__weakref__",.none],#[]⟩),
 (171,⟨.type "dict",none,.dict #[dE P "__module__" 404 (.str "wright.errors" 377),dE P "__firstlineno__" 408 (.int (117) 407),dR P "__static_attributes__" 409 170,dE P "__doc__" 410 (.none)] 2,#[]⟩),
 (172,⟨.type "type",none,.cls ⟨"NoRules",[.ref 159],[.ref 172,.ref 159,.type "ValueError",.type "Exception",.type "BaseException",.type "object"],171,"NoRules",true,[],[],false,none,false⟩,#[some (.ref 163),none,some (.str "NoRules" 397),some (.str "NoRules" 405),some (.builtin "ValueError.__new__"),some (.bool true)]⟩),
 (cF 187 "__init__" "Twice.__init__" 425 121 2 182 183 .none (.ref 184) (.ref 185) (.ref 186) 430 431),
 (fF 188 "__init__" "Twice.__init__" (jw p 20 0) m4),
 (190,⟨.type "dict",none,.dict #[dE P "__module__" 420 (.str "wright.errors" 377),dE P "__firstlineno__" 424 (.int (119) 423),dR P "__init__" 432 188,dR P "__static_attributes__" 434 189,dE P "__doc__" 435 (.none)] 2,#[]⟩),
 (191,⟨.type "type",none,.cls ⟨"Twice",[.ref 159],[.ref 191,.ref 159,.type "ValueError",.type "Exception",.type "BaseException",.type "object"],190,"Twice",true,[],[],false,none,false⟩,#[some (.ref 175),none,some (.str "Twice" 413),some (.str "Twice" 421),some (.builtin "ValueError.__new__"),some (.bool true)]⟩),
 (cF 206 "__init__" "Endless.__init__" 450 126 2 201 202 .none (.ref 203) (.ref 204) (.ref 205) 455 456),
 (fF 207 "__init__" "Endless.__init__" (jw p 21 0) m4),
 (209,⟨.type "dict",none,.dict #[dE P "__module__" 445 (.str "wright.errors" 377),dE P "__firstlineno__" 449 (.int (124) 448),dR P "__init__" 457 207,dR P "__static_attributes__" 459 208,dE P "__doc__" 460 (.none)] 2,#[]⟩),
 (210,⟨.type "type",none,.cls ⟨"Endless",[.ref 159],[.ref 210,.ref 159,.type "ValueError",.type "Exception",.type "BaseException",.type "object"],209,"Endless",true,[],[],false,none,false⟩,#[some (.ref 194),none,some (.str "Endless" 438),some (.str "Endless" 446),some (.builtin "ValueError.__new__"),some (.bool true)]⟩),
 (cF 225 "__init__" "Unmet.__init__" 475 131 2 220 221 .none (.ref 222) (.ref 223) (.ref 224) 480 481),
 (fF 226 "__init__" "Unmet.__init__" (jw p 22 0) m4),
 (228,⟨.type "dict",none,.dict #[dE P "__module__" 470 (.str "wright.errors" 377),dE P "__firstlineno__" 474 (.int (129) 473),dR P "__init__" 482 226,dR P "__static_attributes__" 484 227,dE P "__doc__" 485 (.none)] 2,#[]⟩),
 (229,⟨.type "type",none,.cls ⟨"Unmet",[.ref 159],[.ref 229,.ref 159,.type "ValueError",.type "Exception",.type "BaseException",.type "object"],228,"Unmet",true,[],[],false,none,false⟩,#[some (.ref 213),none,some (.str "Unmet" 463),some (.str "Unmet" 471),some (.builtin "ValueError.__new__"),some (.bool true)]⟩),
 (cF 244 "__init__" "Loop.__init__" 500 136 2 239 240 .none (.ref 241) (.ref 242) (.ref 243) 505 506),
 (fF 245 "__init__" "Loop.__init__" (jw p 23 0) m4),
 (247,⟨.type "dict",none,.dict #[dE P "__module__" 495 (.str "wright.errors" 377),dE P "__firstlineno__" 499 (.int (134) 498),dR P "__init__" 507 245,dR P "__static_attributes__" 509 246,dE P "__doc__" 510 (.none)] 2,#[]⟩),
 (248,⟨.type "type",none,.cls ⟨"Loop",[.ref 159],[.ref 248,.ref 159,.type "ValueError",.type "Exception",.type "BaseException",.type "object"],247,"Loop",true,[],[],false,none,false⟩,#[some (.ref 232),none,some (.str "Loop" 488),some (.str "Loop" 496),some (.builtin "ValueError.__new__"),some (.bool true)]⟩),
 (cF 263 "__init__" "Vast.__init__" 525 141 2 258 259 .none (.ref 260) (.ref 261) (.ref 262) 530 531),
 (fF 264 "__init__" "Vast.__init__" (jw p 24 0) m4),
 (266,⟨.type "dict",none,.dict #[dE P "__module__" 520 (.str "wright.errors" 377),dE P "__firstlineno__" 524 (.int (139) 523),dR P "__init__" 532 264,dR P "__static_attributes__" 534 265,dE P "__doc__" 535 (.none)] 2,#[]⟩),
 (267,⟨.type "type",none,.cls ⟨"Vast",[.ref 159],[.ref 267,.ref 159,.type "ValueError",.type "Exception",.type "BaseException",.type "object"],266,"Vast",true,[],[],false,none,false⟩,#[some (.ref 251),none,some (.str "Vast" 513),some (.str "Vast" 521),some (.builtin "ValueError.__new__"),some (.bool true)]⟩),
 (cF 273 "find_loop" "find_loop" 540 145 1 270 271 .none .none .none (.ref 272) 543 544),
 (fF 274 "find_loop" "find_loop" (top p 26) m5),
 (cF 278 "steps_with_like_rows" "steps_with_like_rows" 546 149 1 275 276 .none .none .none (.ref 277) 549 550),
 (fF 279 "steps_with_like_rows" "steps_with_like_rows" (top p 27) m5),
 (cF 285 "way_back" "way_back" 552 158 3 280 281 .none (.ref 282) (.ref 283) (.ref 284) 565 566),
 (fF 286 "way_back" "way_back" (top p 28) m5),
 (cF 290 "least_sizes" "least_sizes" 570 174 1 287 288 .none .none .none (.ref 289) 573 574),
 (fF 291 "least_sizes" "least_sizes" (top p 30) m6),
 (cF 297 "greatest_empty_sizes" "greatest_empty_sizes" 576 176 1 292 293 .none (.ref 294) (.ref 295) (.ref 296) 580 581),
 (fF 298 "greatest_empty_sizes" "greatest_empty_sizes" (top p 31) m6),
 (cF 302 "settled_sizes" "settled_sizes" 583 178 3 299 300 .none .none .none (.ref 301) 586 587),
 (fF 303 "settled_sizes" "settled_sizes" (top p 32) m6),
 (cF 307 "refuse_faults" "refuse_faults" 593 191 2 304 305 .none .none .none (.ref 306) 596 597),
 (fF 308 "refuse_faults" "refuse_faults" (top p 35) m7),
 (cF 314 "refuse_twice" "refuse_twice" 599 210 1 309 310 .none (.ref 311) (.ref 312) (.ref 313) 607 608),
 (fF 315 "refuse_twice" "refuse_twice" (top p 36) m7),
 (cF 319 "names_met" "names_met" 610 217 1 316 317 .none .none .none (.ref 318) 613 614),
 (fF 320 "names_met" "names_met" (top p 37) m7),
 (cF 324 "least_by_part" "least_by_part" 618 227 1 321 322 .none .none .none (.ref 323) 621 622),
 (fF 325 "least_by_part" "least_by_part" (top p 39) m8),
 (cF 329 "rule_size" "rule_size" 624 235 2 326 327 .none .none .none (.ref 328) 627 628),
 (fF 330 "rule_size" "rule_size" (top p 40) m8),
 (cF 334 "empty_by_name" "empty_by_name" 630 237 2 331 332 .none .none .none (.ref 333) 633 634),
 (fF 335 "empty_by_name" "empty_by_name" (top p 41) m8),
 (cF 346 "__init__" "LeastTrees.__init__" 648 244 3 343 344 .none .none .none (.ref 345) 651 652),
 (fF 347 "__init__" "LeastTrees.__init__" (jw p 42 0) m8),
 (cF 353 "least_of" "LeastTrees.least_of" 654 251 2 348 349 .none (.ref 350) (.ref 351) (.ref 352) 659 660),
 (fF 354 "least_of" "LeastTrees.least_of" (jw p 42 1) m8),
 (cF 360 "hollow_of" "LeastTrees.hollow_of" 662 254 2 355 356 .none (.ref 357) (.ref 358) (.ref 359) 667 668),
 (fF 361 "hollow_of" "LeastTrees.hollow_of" (jw p 42 2) m8),
 (cF 367 "begun_place" "LeastTrees.begun_place" 670 257 3 362 363 .none (.ref 364) (.ref 365) (.ref 366) 676 677),
 (fF 368 "begun_place" "LeastTrees.begun_place" (jw p 42 3) m8),
 (cF 374 "begun_of" "LeastTrees.begun_of" 679 260 4 369 370 .none (.ref 371) (.ref 372) (.ref 373) 686 687),
 (fF 375 "begun_of" "LeastTrees.begun_of" (jw p 42 4) m8),
 (377,⟨.type "dict",none,.dict #[dE P "__module__" 643 (.str "wright.least_trees" 616),dE P "__firstlineno__" 647 (.int (242) 646),dR P "__init__" 653 347,dR P "least_of" 661 354,dR P "hollow_of" 669 361,dR P "begun_place" 678 368,dR P "begun_of" 688 375,dR P "__static_attributes__" 694 376,dR P "__dict__" 696 379,dR P "__weakref__" 698 380,dE P "__doc__" 699 (.none)] 4,#[]⟩),
 (378,⟨.type "type",none,.cls ⟨"LeastTrees",[.type "object"],[.ref 378,.type "object"],377,"LeastTrees",true,[],[],false,none,false⟩,#[none,none,some (.str "LeastTrees" 636),some (.str "LeastTrees" 644),some (.builtin "object.__new__"),some (.bool true)]⟩),
 (379,⟨.type "getset_descriptor",none,.fields #[.str "__dict__" 695,.ref 378,.builtin "function.__dict__",.builtin "function.__dict__#set"],#[]⟩),
 (380,⟨.type "getset_descriptor",none,.fields #[.str "__weakref__" 697,.ref 378,.builtin "ExceptionGroup.__weakref__",.none],#[]⟩),
 (390,⟨.type "tuple",none,.seq #[.none] 0,#[]⟩),
 (cF 396 "__init__" "Grammar.__init__" 716 265 3 391 392 .none (.ref 393) (.ref 394) (.ref 395) 722 723),
 (397,⟨.type "function",none,.func (fnOf "__init__" "Grammar.__init__" (dI (jw p 44 0)) (cA (jw p 44 0)) (av (jw p 44 0)) (.ref 390) (.none) (.none) (.str "wright.grammars" 702) (none) (.ref 396) (.none)),#[]⟩),
 (cF 403 "start" "Grammar.start" 725 273 1 398 399 .none (.ref 400) (.ref 401) (.ref 402) 729 730),
 (fF 404 "start" "Grammar.start" (jw p 44 1) m9),
 (406,⟨.type "dict",none,.dict #[dE P "__module__" 711 (.str "wright.grammars" 702),dE P "__firstlineno__" 715 (.int (263) 714),dR P "__init__" 724 397,dR P "start" 731 404,dR P "__static_attributes__" 737 405,dR P "__dict__" 739 408,dR P "__weakref__" 741 409,dE P "__doc__" 742 (.none)] 4,#[]⟩),
 (407,⟨.type "type",none,.cls ⟨"Grammar",[.type "object"],[.ref 407,.type "object"],406,"Grammar",true,[],[],false,none,false⟩,#[none,none,some (.str "Grammar" 704),some (.str "Grammar" 712),some (.builtin "object.__new__"),some (.bool true)]⟩),
 (408,⟨.type "getset_descriptor",none,.fields #[.str "__dict__" 738,.ref 407,.builtin "function.__dict__",.builtin "function.__dict__#set"],#[]⟩),
 (409,⟨.type "getset_descriptor",none,.fields #[.str "__weakref__" 740,.ref 407,.builtin "ExceptionGroup.__weakref__",.none],#[]⟩),
 (cF 417 "_law_cell_at" "_law_cell_at" 747 276 2 412 413 .none (.ref 414) (.ref 415) (.ref 416) 752 753),
 (fF 418 "_law_cell_at" "_law_cell_at" (top p 46) ki),
 (cF 422 "_law_names" "_law_names" 755 280 1 419 420 .none .none .none (.ref 421) 758 759),
 (fF 423 "_law_names" "_law_names" (top p 47) ki),
 (cF 429 "_law_words" "_law_words" 761 283 1 424 425 .none (.ref 426) (.ref 427) (.ref 428) 765 766),
 (fF 430 "_law_words" "_law_words" (top p 48) ki),
 (cF 436 "_law_digits" "_law_digits" 768 285 3 431 432 .none (.ref 433) (.ref 434) (.ref 435) 777 778),
 (fF 437 "_law_digits" "_law_digits" (top p 49) ki),
 (cF 443 "_law_skeleton" "_law_skeleton" 780 296 4 438 439 .none (.ref 440) (.ref 441) (.ref 442) 791 792),
 (fF 444 "_law_skeleton" "_law_skeleton" (top p 50) ki),
 (cF 450 "_law_more" "_law_more" 794 307 5 445 446 .none (.ref 447) (.ref 448) (.ref 449) 806 807),
 (fF 451 "_law_more" "_law_more" (top p 51) ki),
 (cF 455 "_law_ended" "_law_ended" 809 314 2 452 453 .none .none .none (.ref 454) 812 813),
 (fF 456 "_law_ended" "_law_ended" (top p 52) ki),
 (cF 460 "_law_good" "_law_good" 815 323 1 457 458 .none .none .none (.ref 459) 818 819),
 (fF 461 "_law_good" "_law_good" (top p 53) ki),
 (cF 467 "_law_grammar" "_law_grammar" 821 345 2 462 463 .none (.ref 464) (.ref 465) (.ref 466) 832 833),
 (fF 468 "_law_grammar" "_law_grammar" (top p 54) ki),
 (cF 472 "_law_least" "_law_least" 835 358 1 469 470 .none .none .none (.ref 471) 838 839),
 (fF 473 "_law_least" "_law_least" (top p 55) ki),
 (cF 479 "_law_tree" "_law_tree" 841 367 5 474 475 .none (.ref 476) (.ref 477) (.ref 478) 853 854),
 (fF 480 "_law_tree" "_law_tree" (top p 56) ki),
 (cF 486 "_law_deeds" "_law_deeds" 856 381 1 481 482 .none (.ref 483) (.ref 484) (.ref 485) 862 863),
 (fF 487 "_law_deeds" "_law_deeds" (top p 57) ki),
 (cF 491 "_law_drawn_tree" "_law_drawn_tree" 865 388 3 488 489 .none .none .none (.ref 490) 868 869),
 (fF 492 "_law_drawn_tree" "_law_drawn_tree" (top p 58) ki),
 (cF 498 "_law_whole" "_law_whole" 871 394 1 493 494 .none (.ref 495) (.ref 496) (.ref 497) 875 876),
 (fF 499 "_law_whole" "_law_whole" (top p 59) ki),
 (cF 505 "_law_piled" "_law_piled" 878 396 4 500 501 .none (.ref 502) (.ref 503) (.ref 504) 889 890),
 (fF 506 "_law_piled" "_law_piled" (top p 60) ki),
 (cF 510 "_law_due" "_law_due" 892 413 2 507 508 .none .none .none (.ref 509) 895 896),
 (fF 511 "_law_due" "_law_due" (top p 61) ki),
 (cF 517 "_law_spoiled" "_law_spoiled" 898 425 5 512 513 .none (.ref 514) (.ref 515) (.ref 516) 909 910),
 (fF 518 "_law_spoiled" "_law_spoiled" (top p 62) ki),
 (cF 524 "law" "law" 912 442 1 519 520 .none (.ref 521) (.ref 522) (.ref 523) 923 924),
 (fF 525 "law" "law" (top p 63) ki)]
def as:List Addr:=[2,3,20,21,25,26,30,31,35,36,42,43,49,50,54,55,61,62,68,69,75,76,82,83,87,88,94,95,106,107,113,114,120,121,127,128,134,135,141,142,144,145,146,147,158,159,160,171,172,187,188,190,191,206,207,209,210,225,226,228,229,244,245,247,248,263,264,266,267,273,274,278,279,285,286,290,291,297,298,302,303,307,308,314,315,319,320,324,325,329,330,334,335,346,347,353,354,360,361,367,368,374,375,377,378,379,380,390,396,397,403,404,406,407,408,409,417,418,422,423,429,430,436,437,443,444,450,451,455,456,460,461,467,468,472,473,479,480,486,487,491,492,498,499,505,506,510,511,517,518,524,525]
def q' (p:Program):Program:=view p [0,2,3,4,5,6,8,9,10,11,12,14,15,16,18,19,20,21,22,23,24,26,27,28,30,31,32,34,35,36,37,39,40,41,42,44,46,47,48,49,50,51,52,53,54,55,56,57,58,59,60,61,62,63]
abbrev loose:List Str:=[]
abbrev steps:Nat:=4026
abbrev bound:Nat:=9032
abbrev CZ:OpenLaw:=PySem.Challenge.rw_wright_k68_deeds_of_no_tree
noncomputable abbrev K (P:Params):Frag:=K' PySem.Challenge.pw_wright_k68_deeds_of_no_tree P
theorem RC (P:Params):as=(K P).map (·.1):=by kernel_rfl
noncomputable abbrev hook:Hook:=kmHook K as RC [322,293,288]
def pre (h:CZ.row.wellSaid=true->CZ.row.Holds):CZ.Holds:=by
 o_law
 exact h (by assumption)
abbrev Xt:Shared->Bool:=λs=>xlAt (q' PySem.Challenge.pw_wright_k68_deeds_of_no_tree) [] s && recOk (RowW.records (OpenRow.toRowW (OpenLaw.row PySem.Challenge.rw_wright_k68_deeds_of_no_tree))) s
def run (w:World)(os:OsState):(E_ (stepT (denote treeTable) PySem.Challenge.pw_wright_k68_deeds_of_no_tree w) (stepOk 11 (some (.ref 6))) steps ⟨B5 w.params,11,{},Array.mk [],boot_drawn,boot_toks,os⟩ (topStub PySem.Challenge.pw_wright_k68_deeds_of_no_tree)).map
  (ER (F6 PySem.Challenge.pw_wright_k68_deeds_of_no_tree (q' PySem.Challenge.pw_wright_k68_deeds_of_no_tree) loose Xt (Hook.obs hook) true (boot_heap w.params)))=some (true,openGood (q' PySem.Challenge.pw_wright_k68_deeds_of_no_tree) loose,Hook.val hook w):=by
 rw [PySem.W.Fast.te10156331382660048174,PySem.W.Fast.te11892475500146522536,PySem.W.Fast.te14364793385576792824,PySem.W.Fast.te6613529449190102663,PySem.W.Fast.te14784374684019163964]
 kernel_rfl
theorem size (w:World):((boot_heap w.params).isNs mainGlobals && (Array.mk []:Array GenState).size == 0,(boot_heap w.params).objs.size,(boot_heap w.params).nsMap mainGlobals "__annotations__")=(true,11,some (.ref 6)):=by kernel_rfl
def Fw:∀w:World,(fencedOpening treeTable PySem.Challenge.pw_wright_k68_deeds_of_no_tree w bound).map (λs=>(s.heap,s.gens,s.drawn,s.toks))=some (boot_heap w.params,Array.mk [],boot_drawn,boot_toks) :=
 boot_open (by kernel_rfl) (by decide +kernel) (λs=>by kernel_rfl)
def left:LeftO (OpenRow.toRowW CZ.row).prog (q' PySem.Challenge.pw_wright_k68_deeds_of_no_tree) loose Xt (Hook.obs hook) (Hook.val hook) bound:=Qc Fw size run (by decide +kernel)
def kX:DefRec:={ name := "law",params:=dI (top PySem.Challenge.pw_wright_k68_deeds_of_no_tree 63),body:=cA (top PySem.Challenge.pw_wright_k68_deeds_of_no_tree 63),scope:=av (top PySem.Challenge.pw_wright_k68_deeds_of_no_tree 63),pos:=posOf (top PySem.Challenge.pw_wright_k68_deeds_of_no_tree 63) }
def ok1:defOf (q' PySem.Challenge.pw_wright_k68_deeds_of_no_tree) CZ.row.name=some (kX,[]):=by kernel_rfl
def ok2:CZ.row.prog.theDef CZ.row.name=some (kX.params,kX.body,kX.scope):=by kernel_rfl
def ok3:kwWritten? kX.params.kwonlyargs kX.params.kw_defaults=some []:=by kernel_rfl
def ok4:(chainsOk (q' PySem.Challenge.pw_wright_k68_deeds_of_no_tree) && opensWell CZ.row.prog && (frees CZ.row.toRowW && CZ.row.within.isEmpty))=true:=by kernel_rfl
def ok5:kX.params.defaults=[]:=by kernel_rfl
def hold (h:WalkO (q' PySem.Challenge.pw_wright_k68_deeds_of_no_tree) loose (XL (q' PySem.Challenge.pw_wright_k68_deeds_of_no_tree) []) (Hook.says hook) CZ.row.toRowW kX [] λf vs=>PySem.call f vs)(hw:CZ.row.toRowW.promised):CZ.Holds :=
 pre λUi=>holds_open (q:=q' PySem.Challenge.pw_wright_k68_deeds_of_no_tree) (loose:=loose) (Xt:=Xt) (XP:=XL (q' PySem.Challenge.pw_wright_k68_deeds_of_no_tree) []) (Yf:=Hook.obs hook) (Ya:=Hook.val hook) (YP:=Hook.says hook) (N:=bound) left (Hook.of hook) (Hook.keeps hook) (λs e=>xl_of s (gE.mp e).1) XL.keeps ok1 ok2 ok3 (λs e=>recFacts_of (gE.mp e).2) rfl Ui ok4 ⟨rfl,rfl,rfl,rfl,rfl,by decide +kernel⟩ hw h
end HD
set_option maxHeartbeats 4000000
namespace L2
open PySem PySem.Spec PyProof.Rows
def yw {CX:zd}{P:Program}{w:World}{K:ba}{mg:Str->Option Value}{base:Heap}{N:List Str}{qual:Str}{scope:Scope}{f:Addr}{cd:Value}{A:Around}{outer:List Env}{s:Shared}{H:Hp}{E:XK}:(pI CX P w K mg base N qual scope f cd A outer s H E).CS.K=K:=rfl
def U7 {t:TS}{D:Ends}{σ:St}{H:Hp}(h:let E:=D;t E σ H):t D σ H:=h
def U5 {t u:TS}{D:Ends}{σ:St}{H:Hp}(h:let E:={ D with nx:=u D };t E σ H):LG t u D σ H:=h
def Qb {t u:TS}{D:Ends}{σ:St}{H:Hp}(h:let E:=D;let F:={ E with nx:=u E };t F σ H):LG t u D σ H:=h
def U6 {g:TG}{x:V}{σ:St}{H:Hp}{t:TS}{D:Ends}(h:let E:=D;g x σ H λσ2 H2=>t E σ2 H2):g x σ H λσ2 H2=>t D σ2 H2:=h
end L2
local macro_rules | `(tactic| nofun) => `(tactic| (dsimp only [L2.yw];refine L2.U5 ?_;intro _))
local macro_rules | `(tactic| ac_rfl) => `(tactic| (refine L2.Qb ?_;intro _ _))
local macro_rules | `(tactic| ac_nf0) => `(tactic| (refine L2.U6 ?_;intro _))
local macro_rules | `(tactic| ac_nf) => `(tactic| (refine L2.U7 ?_;intro _))
set_option maxHeartbeats 0
namespace L2
open PySem PySem.Spec PyProof.Rows
section
variable {κ:Type} [DecidableEq κ]
def bw (kvs:List (κ×V))(k:κ):Option V:=(kvs.find? λkv=>decide (kv.1=k)).map (·.2)
def bT (kvs:List (κ×V))(k:κ)(v:V):List (κ×V) :=
 if (kvs.any λkv=>decide (kv.1=k))=true then kvs.map (λkv=>if kv.1=k then (kv.1,v) else kv) else kvs++[(k,v)]
def Lh (kvs:List (κ×V))(k:κ):List (κ×V):=kvs.filter λkv=>decide (kv.1≠k)
def fI {p:κ×V}{r:List (κ×V)}{k:κ}(e:p.1=k):bw (p::r) k=some p.2:=by simp [bw,oP,e]
def fJ {p:κ×V}{r:List (κ×V)}{k:κ}(e:¬p.1=k):bw (p::r) k=bw r k:=by simp [bw,oP,e]
theorem jr (k:κ):∀kvs:List (κ×V),(kvs.any λkv=>decide (kv.1=k))=(bw kvs k).isSome
 | []=>rfl
 | p::r=>by
  rw [qQ];by_cases e:p.1=k
  .simp only [fI e,bh e,Bool.true_or,Option.isSome_some]
  rw [fJ e,b0 e,Bool.false_or];exact jr k r
theorem xq (k j:κ)(y:V):∀kvs:List (κ×V),bw (kvs.map λkv=>if kv.1=k then (kv.1,y) else kv) j=(bw kvs j).map λx=>if j=k then y else x
 | []=>rfl
 | p::r=>by
  have ih:=xq k j y r;rw [cO];by_cases h:p.1=k
  .rw [ax h];by_cases e:p.1=j
   .rw [fI (p:=(p.1,y)) e,fI e,qV,ax (e.symm.trans h)]
   rw [fJ (p:=(p.1,y)) e,fJ e,ih]
  rw [ay h];by_cases e:p.1=j
  .rw [fI (p:=p) e,fI e,qV,ay (λz=>h (e.trans z))]
  rw [fJ (p:=p) e,fJ e,ih]
theorem ub (k j:κ)(y:V):∀kvs:List (κ×V),bw kvs k=none->bw (kvs++[(k,y)]) j=if j=k then some y else bw kvs j
 | [],_=>by
  by_cases e:k=j
  .rw [ax e.symm];exact fI (p:=(k,y)) e
  rw [ay (λz=>e z.symm)];exact fJ (p:=(k,y)) e
 | p::r,hn=>by
  rw [List.cons_append];have hk:¬p.1=k:=λz=>by rw [fI z] at hn;cases hn
  rw [fJ hk] at hn;have ih:=ub k j y r hn;by_cases e:p.1=j
  .rw [fI e,fI e,ay (λz=>hk (e.trans z))]
  rw [fJ e,fJ e,ih]
def rA (kvs:List (κ×V))(k j:κ)(y:V):bw (bT kvs k y) j=if j=k then some y else bw kvs j:=by
 unfold bT;by_cases a:(kvs.any λkv=>decide (kv.1=k))=true
 .rw [ax a,xq];rw [jr] at a;by_cases e:j=k
  .obtain⟨x,hx⟩:=lX.mp a;rw [ax e,e,hx,qV,ax rfl]
  rw [ay e];cases bw kvs j with
  | none=>rfl
  | some x=>rw [qV,ay e]
 rw [ay a];refine ub k j y kvs ?_;rw [jr] at a;cases q:bw kvs k with
 | none=>rfl
 | some x=>rw [q] at a;exact(a rfl).elim
def gb (kvs:List (κ×V))(k:κ)(v:V):(bT kvs k v).length<=kvs.length+1:=by
 unfold bT
 split
 .rw [au];omega
 rw [a9,dY,jo];omega
def xM {kvs:List (κ×V)}{k:κ}(v:V)(h:bw kvs k=none):bT kvs k v=kvs++[(k,v)]:=by
 unfold bT;rw [jr,h];exact ay (by decide)
def j4.jx {o:Option V}{u:Option Value}(r:j4 o u):o.isSome=u.isSome:=by
 cases o with
 | none=>cases u with
  | none=>rfl
  | some _=>exact(show False from r).elim
 | some _=>cases u with
  | none=>exact(show False from r).elim
  | some _=>rfl
theorem j4.getD {o:Option V}{u:Option Value}{d:V}{d':Value}(r:j4 o u)(rd:RelV d d'):RelV (o.getD d) (u.getD d'):=by
 cases o with
 | none=>cases u with
  | none=>exact rd
  | some _=>exact(show False from r).elim
 | some _=>cases u with
  | none=>exact(show False from r).elim
  | some _=>exact r
def KV.val {kvs:List (κ×V)}{vs:List (κ×Value)}(r:KV kvs vs)(k:κ):j4 (bw kvs k) (valueAt vs k):=by
 unfold KV at r
 induction r with
 | nil=>exact True.intro
 | @cons p q ps qs h t ih =>
  obtain⟨h1,h2⟩:=h;by_cases e:p.1=k
  .have e':q.1=k:=h1.symm.trans e;have b:valueAt (q::qs) k=some q.2:=by simp [valueAt,oP,e']
   rw [fI e,b];exact h2
  have e':¬q.1=k:=λz=>e (h1.trans z);have b:valueAt (q::qs) k=valueAt qs k:=by simp [valueAt,oP,e']
  rw [fJ e,b];exact ih
theorem KV.any {kvs:List (κ×V)}{vs:List (κ×Value)}(r:KV kvs vs)(k:κ):(kvs.any λkv=>decide (kv.1=k))=vs.any λkv=>decide (kv.1=k):=by
 unfold KV at r
 induction r with
 | nil=>rfl
 | cons h t ih=>rw [qQ,qQ,ih,h.1]
def KV.Md {kvs:List (κ×V)}{vs:List (κ×Value)}(r:KV kvs vs)(k:κ){y:V}{u:Value}(ry:RelV y u) :
  KV (kvs.map λkv=>if kv.1=k then (kv.1,y) else kv) (vs.map λkv=>if kv.1=k then (kv.1,u) else kv):=by
 unfold KV at r ⊢
 induction r with
 | nil=>exact .nil
 | @cons p q ps qs h t ih =>
  rw [cO,cO];refine .cons ?_ ih;obtain⟨h1,h2⟩:=h;by_cases e:p.1=k
  .rw [ax e,ax (h1.symm.trans e)];exact⟨h1,ry⟩
  rw [ay e,ay (λz=>e (h1.trans z))];exact⟨h1,h2⟩
def KV.put {kvs:List (κ×V)}{vs:List (κ×Value)}(r:KV kvs vs)(k:κ){y:V}{u:Value}(ry:RelV y u):KV (bT kvs k y) (stored vs k u):=by
 unfold bT stored;rw [r.any k];by_cases e:(vs.any λkv=>decide (kv.1=k))=true
 .rw [ax e,ax e];exact r.Md k ry
 rw [ay e,ay e];exact hZ r ⟨rfl,ry⟩
def KV.drop {kvs:List (κ×V)}{vs:List (κ×Value)}(r:KV kvs vs)(k:κ):KV (Lh kvs k) (without vs k):=by
 unfold KV at r ⊢;unfold Lh without
 induction r with
 | nil=>exact .nil
 | @cons p q ps qs h t ih =>
  obtain⟨h1,h2⟩:=h;rw [u_,u_];by_cases e:p.1=k
  .have a:¬decide (p.1≠k)=true:=by simp [e]
   have b:¬decide (q.1≠k)=true:=by simp [h1.symm.trans e]
   rw [ay a,ay b];exact ih
  have e':¬q.1=k:=λz=>e (h1.trans z);have a:decide (p.1≠k)=true:=by simp [e]
  have b:decide (q.1≠k)=true:=by simp [e']
  rw [ax a,ax b];exact .cons ⟨h1,h2⟩ ih
def KV.keys {kvs:List (κ×V)}{vs:List (κ×Value)}(r:KV kvs vs):kvs.map (·.1)=vs.map (·.1):=by
 unfold KV at r
 induction r with
 | nil=>rfl
 | cons h t ih=>rw [cO,cO,ih,h.1]
theorem KV.length {kvs:List (κ×V)}{vs:List (κ×Value)}(r:KV kvs vs):kvs.length=vs.length:=aU r
end
def l7 {P:Program}{w:World}{k:aR}{u:Value}(r:RelV (kV k) u):(bA P w).is k u=true:=by
 cases k with
 | inl i=>obtain⟨t,e⟩:=(show ∃t,u=Value.int i t from r);subst e;exact yb P w i t
 | inr x=>obtain⟨t,e⟩:=(show ∃t,u=Value.str x t from r);subst e;exact ya P w x t
theorem uE {P:Program}{w:World}:∀{ks:List aR}{us:List Value},bf (ks.map kV) us->ItemsAre (bA P w) ks us
 | [],_,r=>by rw [mh] at r;cases r;exact .nil
 | k::ks,_,r=>by
  rw [cO] at r;cases r with
  | cons h t=>exact .cons (l7 h) (uE t)
abbrev KT (H:Hp):List (List aR×V)->List (List aR×Addr×Value)->Prop:=Paired λp q=>p.1=q.1/\H q.2.1=some (.tup (p.1.map kV))/\RelV p.2 q.2.2
def KT.val {H:Hp}{kvs:List (List aR×V)}{xs:List (List aR×Addr×Value)}(r:KT H kvs xs)(k:List aR):j4 (bw kvs k) ((atKey xs k).map (·.2)):=by
 induction r with
 | nil=>exact True.intro
 | @cons p q ps qs h t ih =>
  obtain⟨h1,_,h2⟩:=h;by_cases e:p.1=k
  .have e':q.1=k:=h1.symm.trans e;have b:atKey (q::qs) k=some q.2:=by simp [atKey,oP,e']
   rw [fI e,b];exact h2
  have e':¬q.1=k:=λz=>e (h1.trans z);have b:atKey (q::qs) k=atKey qs k:=by simp [atKey,oP,e']
  rw [fJ e,b];exact ih
def KT.Md {H:Hp}{kvs:List (List aR×V)}{xs:List (List aR×Addr×Value)}(r:KT H kvs xs)(k:List aR){y:V}{u:Value}(ry:RelV y u) :
  KT H (kvs.map λkv=>if kv.1=k then (kv.1,y) else kv) (xs.map (putAt k u)):=by
 induction r with
 | nil=>exact .nil
 | @cons p q ps qs h t ih =>
  rw [cO,cO];refine .cons ?_ ih;obtain⟨h1,h2,h3⟩:=h;unfold putAt;by_cases e:p.1=k
  .rw [ax e,ax (h1.symm.trans e)];exact⟨h1,h2,ry⟩
  rw [ay e,ay (λz=>e (h1.trans z))];exact⟨h1,h2,h3⟩
def KT.put {H:Hp}{kvs:List (List aR×V)}{xs:List (List aR×Addr×Value)}(r:KT H kvs xs)(k:List aR){b:Addr}{y:V}{u:Value}(hb:H b=some (.tup (k.map kV)))(ry:RelV y u) :
  KT H (bT kvs k y) (storedH xs k b u):=by
 have e:(kvs.any λkv=>decide (kv.1=k))=(atKey xs k).isSome:=by
  rw [jr,(r.val k).jx,oW]
 unfold bT storedH;rw [e];by_cases q:(atKey xs k).isSome=true
 .rw [ax q,ax q];exact r.Md k ry
 rw [ay q,ay q];exact hZ r ⟨rfl,hb,ry⟩
def KT.keeps {H H':Hp}{kvs:List (List aR×V)}{xs:List (List aR×Addr×Value)}(r:KT H kvs xs)(ht:∀b ys,H b=some (.tup ys)->H' b=some (.tup ys)):KT H' kvs xs :=
 Paired.e_ r λ_ _ z=>⟨z.1,ht _ _ z.2.1,z.2.2⟩
section
variable {P:Program}{w:World}{H:Hp}{h:Heap}{a:Addr}
def Kx {u:HO}(ok:md P w H h)(e:Rd H a u):cR P w H h a u:=e.ok ok
def ow {kvs:List (aR×V)}(ok:md P w H h)(e:Rd H a (.dK kvs)):kvs.length<=sizeLine/\(a == sysModules)=false/\∃vs,KV kvs vs/\h.DictOf (bA P w) a vs :=
 show cR P w H h a (.dK kvs) from Kx ok e
def yq {kvs:List (aR×V)}(ok:md P w H h)(e:H a=some (.dK kvs)):kvs.length<=sizeLine/\(a == sysModules)=false/\∃vs,KV kvs vs/\h.DictOf (bA P w) a vs:=ow ok (.inl e)
def mI {ks:List aR}(ok:md P w H h)(e:H a=some (.tup (ks.map kV))):(tupleKind (bA P w)).is h ks a:=by
 obtain⟨_,aT,r,o,h1,h2,n,h3⟩:=(show cR P w H h a (.tup (ks.map kV)) from ok a _ e);exact⟨o,aT.toArray,n,h1,h2,h3,by simpa using uE r⟩
def sR {kvs:List (List aR×V)}(ok:md P w H h)(e:Rd H a (.dT kvs)):kvs.length<=sizeLine/\(a == sysModules)=false /\
  ∃xs,KT H kvs xs/\h.DictOfH (tupleKind (bA P w)) a xs:=by
 obtain⟨z,y,xs,r,o,es,ep,h1,h2,h3,h4,h5⟩:=(show cR P w H h a (.dT kvs) from Kx ok e);refine⟨z,y,xs,r,o,es,ep,h1,h2,h3,h4,λx hx=>?_,h5⟩;have all:∀{l:List (List aR×V)}{m:List (List aR×Addr×Value)},KT H l m->∀x∈m,(tupleKind (bA P w)).is h x.1 x.2.1:=by
  intro l m q
  induction q with
  | nil=>intro x hx;exact nomatch hx
  | @cons p q ps qs hq t ih =>
   intro x hx;rcases bW.mp hx with e | hx
   .subst e;exact mI ok (by rw [<-hq.1];exact hq.2.1)
   exact ih x hx
 exact all r x hx
def Rr {kvs:List (List aR×V)}(ok:md P w H h)(e:H a=some (.dT kvs)):kvs.length<=sizeLine/\(a == sysModules)=false /\
  ∃xs,KT H kvs xs/\h.DictOfH (tupleKind (bA P w)) a xs:=sR ok (.inl e)
end
def cq (H:Hp)(a:Addr)(y:V)(r:Option V):Prop :=
 (∃kvs k,Rd H a (.dK kvs)/\y=kV k/\r=bw kvs k)\/∃kvs k b,Rd H a (.dT kvs)/\y=.ref b/\H b=some (.tup (k.map kV))/\r=bw kvs k
def pM (H:Hp)(a:Addr)(y v:V)(H':Hp):Prop :=
 (∃kvs k,H a=some (.dK kvs)/\y=kV k/\kvs.length < sizeLine/\H'=upd H a (.dK (bT kvs k v))) \/
 ∃kvs k b,H a=some (.dT kvs)/\y=.ref b/\H b=some (.tup (k.map kV))/\kvs.length < sizeLine/\H'=upd H a (.dT (bT kvs k v))
theorem cq.k {H:Hp}{a:Addr}{kvs:List (aR×V)}{k:aR}(e:H a=some (.dK kvs)):cq H a (kV k) (bw kvs k):=.inl ⟨kvs,k,.inl e,rfl,rfl⟩
def cq.t {H:Hp}{a b:Addr}{kvs:List (List aR×V)}{k:List aR}(e:H a=some (.dT kvs))(eb:H b=some (.tup (k.map kV))):cq H a (.ref b) (bw kvs k):=.inr ⟨kvs,k,b,.inl e,rfl,eb,rfl⟩
theorem pM.k {H:Hp}{a:Addr}{kvs:List (aR×V)}{k:aR}{v:V}(e:H a=some (.dK kvs))(hl:kvs.length < sizeLine):pM H a (kV k) v (upd H a (.dK (bT kvs k v))):=.inl ⟨kvs,k,e,rfl,hl,rfl⟩
def pM.t {H:Hp}{a b:Addr}{kvs:List (List aR×V)}{k:List aR}{v:V}(e:H a=some (.dT kvs))(eb:H b=some (.tup (k.map kV)))(hl:kvs.length < sizeLine) :
  pM H a (.ref b) v (upd H a (.dT (bT kvs k v))):=.inr ⟨kvs,k,b,e,rfl,eb,hl,rfl⟩
section
variable {X:Cx}{ah:List (Addr×Obj)}{σ:St}{H:Hp}{s:Shared}{a:Addr}{y v:V}{u r:Value}{o:Option V}{A:Around}{E:Value->Shared->Prop}
def Inv.big (I:Inv X ah σ H s):sysModules < s.heap.objs.size:=by
 have h:mainGlobals < s.heap.objs.size:=(I.mod.glob.keeps I.bk).lt;exact mi (by decide) h
def DC {Q:Value->Shared->Prop}(hu:A.units+1 < cLine)(I:Inv X ah σ H s)(g:cq H a y (some v))(ry:RelV y u)(h:∀w' s',Inv X ah σ H s'->RelV v w'->Q w' s') :
  wpAny (model X.prog X.w) A (getItem (.ref a) u) Q E s:=by
 rcases g with ⟨kvs,k,e,ey,l⟩ | ⟨kvs,k,b,e,ey,eb,l⟩
 .subst ey;obtain⟨z,hd,vs,rel,dd⟩:=ow I.cw e;obtain⟨w',hw,zT⟩:=j4.some_of (v:=v) (o:=valueAt vs k) (by rw [l];exact rel.val k);exact wpAny_getItem_of (l7 ry) dd.mapOf hw (h w' _ (I.tok _) zT)
 subst ey;cases (show u=Value.ref b from ry);obtain⟨z,hd,xs,rel,dd⟩:=sR I.cw e;obtain⟨w',hw,zT⟩:=j4.some_of (v:=v) (o:=(atKey xs k).map (·.2)) (by rw [l];exact rel.val k);obtain⟨p,hp,oE⟩:=cC.mp hw;refine wpAny_getItem_heap (oV hu) (mI I.cw eb) dd hp ?_;rw [oE];exact h w' _ (I.tok _) zT
def W6 {Q:Value->Shared->Prop}(hu:A.units+1 < cLine)(I:Inv X ah σ H s)(g:cq H a y o)(ry:RelV y u)(h:∀s',Inv X ah σ H s'->Q (.bool o.isSome) s') :
  wpAny (model X.prog X.w) A (compareOp .In u (.ref a)) Q E s:=by
 rcases g with ⟨kvs,k,e,ey,l⟩ | ⟨kvs,k,b,e,ey,eb,l⟩
 .subst ey;obtain⟨z,hd,vs,rel,dd⟩:=ow I.cw e;refine wpAny_in_of (l7 ry) hd dd.mapOf ?_;rw [<-(rel.val k).jx,<-l];exact h _ (I.tok _)
 subst ey;cases (show u=Value.ref b from ry);obtain⟨z,hd,xs,rel,dd⟩:=sR I.cw e;refine wpAny_in_heap (oV hu) (mI I.cw eb) hd dd ?_;have q:=(rel.val k).jx;rw [oW] at q;rw [<-q,<-l];exact h _ (I.tok _)
def JX {Q:Value->Shared->Prop}(hu:A.units+1 < cLine)(I:Inv X ah σ H s)(g:cq H a y o)(ry:RelV y u)(h:∀s',Inv X ah σ H s'->Q (.bool (!o.isSome)) s') :
  wpAny (model X.prog X.w) A (compareOp .NotIn u (.ref a)) Q E s:=by
 rcases g with ⟨kvs,k,e,ey,l⟩ | ⟨kvs,k,b,e,ey,eb,l⟩
 .subst ey;obtain⟨z,hd,vs,rel,dd⟩:=ow I.cw e;refine wpAny_notIn_of (l7 ry) hd dd.mapOf ?_;rw [<-(rel.val k).jx,<-l];exact h _ (I.tok _)
 subst ey;cases (show u=Value.ref b from ry);obtain⟨z,hd,xs,rel,dd⟩:=sR I.cw e;refine wpAny_notIn_heap (oV hu) (mI I.cw eb) hd dd ?_;have q:=(rel.val k).jx;rw [oW] at q;rw [<-q,<-l];exact h _ (I.tok _)
def qI {h':Heap}{t':Nat}{ob:HO}(I:Inv X ah σ H s)(mu:RI (H a))(hs:Heap.SameBut a s.heap h')(he:∃q,h'.get? a=some q)(new:cR X.prog X.w (upd H a ob) h' a ob) :
  Inv X ah σ (upd H a ob) { s with heap:=h',toks:=t' } :=
 I.write (x:=a) (e:=a) mu (.inl rfl) (λb q hb z=>(hs.2 b hb).trans z) he new
def sU {P:Program}{w:World}{H':Hp}{h':Heap}{kvs:List (aR×V)}{vs:List (aR×Value)}(z:kvs.length<=sizeLine)(hd:(a == sysModules)=false)(rel:KV kvs vs)(dd:h'.DictOf (bA P w) a vs) :
  cR P w H' h' a (.dK kvs):=⟨z,hd,vs,rel,dd⟩
def DA {H':Hp}{Q:Unit->Shared->Prop}(hu:A.units+1 < cLine)(I:Inv X ah σ H s)(g:pM H a y v H')(ry:RelV y u)(rv:RelV v r)(h:∀s',Inv X ah σ H' s'->Q () s') :
  wpAny (model X.prog X.w) A (setItem (.ref a) u r) Q E s:=by
 rcases g with ⟨kvs,k,e,ey,l,eH⟩ | ⟨kvs,k,b,e,ey,eb,l,eH⟩
 .subst ey eH;obtain⟨z,hd,vs,rel,dd⟩:=yq I.cw e;have hz:vs.length<=sizeLine:=by rw [<-rel.length];exact z
  have hl:(bT kvs k v).length<=sizeLine:=by have:=gb kvs k v;omega
  refine wpAny_setItem_pairs (hsz:=hz) (l7 ry) dd λh' Iu hs=>h _ ?_;have he:∃q,h'.get? a=some q:=let ⟨q,_,_,hq,_⟩:=Iu;⟨q,hq⟩;exact qI I (by rw [e];exact True.intro) hs he (sU hl hd (rel.put k rv) Iu)
 subst ey eH;cases (show u=Value.ref b from ry);obtain⟨z,hd,xs,rel,dd⟩:=Rr I.cw e;have hz:xs.length<=sizeLine:=by rw [<-aU rel];exact z
 have hl:(bT kvs k v).length<=sizeLine:=by have:=gb kvs k v;omega
 refine wpAny_setItem_heap (hsz:=hz) (oV hu) (mI I.cw eb) dd λh' Iu hs=>h _ ?_;obtain⟨q,es,ep,hq,h2,h3,h4,_,h5⟩:=Iu;refine qI I (by rw [e];exact True.intro) hs ⟨q,hq⟩ ⟨hl,hd,_,(rel.put k eb rv).keeps λc ys ec=>?_,q,es,ep,hq,h2,h3,h4,h5⟩;rw [aj (P1 ec e (λz=>nomatch z))];exact ec
end
section
variable {X:Cx}{ah:List (Addr×Obj)}{σ:St}{H:Hp}{s:Shared}{a:Addr}{kvs:List (aR×V)}{k:aR}{u:Value}{A:Around}{E:Value->Shared->Prop}
def Ru {Q:Value->Shared->Prop}(I:Inv X ah σ H s)(e:Rd H a (.dK kvs))(h:∀t s',Inv X ah σ H s'->Q (.int kvs.length t) s'):wpAny (model X.prog X.w) A (call (.builtin "len") [.ref a]) Q E s:=by
 obtain⟨z,hd,vs,rel,dd⟩:=ow I.cw e;refine call_len_dict hd dd (by rw [<-rel.length];rw [sizeLine_eq] at z;omega) ?_;rw [<-rel.length];exact h _ _ (I.tok _)
end
def RH (i:Expr):Prop:=∀ov iv,subscripted i false ov iv=operate [ov,iv] (getItem ov iv)
def A_ {prog:Program}{w:World}{A:Around}{E:Value->Shared->Prop}{s:Shared}{env:Env}{value slice:Expr}{pos:Pos}{T id:String}{Q:Value->Shared->Prop}
  (hl:typeLookup (.type T) "__getitem__"=pure (some (.builtin id)))(hs:RH slice)
  (h:wpAny (model prog w) A (eval value env) (λo s₁=>wpAny (model prog w) A (eval slice env) (λi s₂=>s₂.TypeIs o T/\wpAny (model prog w) A (getItem o i) Q E s₂) E s₁) E s) :
  wpAny (model prog w) A (eval (.Subscript value slice pos) env) Q E s:=by
 refine Subscript_ (dJ h (λo s₁ h₁=>dJ h₁ (λi s₂ h₂=>?_) λ_ _ x=>x) λ_ _ x=>x);obtain⟨hT,h₂⟩:=h₂;unfold subscriptTail;refine aE ?_;rw [getitemInPython_of_ne hT.not_modules];refine aE (wpAny_specialOf hT hl ?_);have fin:wpAny (model prog w) A (subscripted slice false o i) (λr s₃=>wpAny (model prog w) A (letTemporaryGo value o r >>= λ_=>pure r) Q E s₃) E s₂:=by
  rw [hs o i];exact wpAny_operating (dJ h₂ (λr s₃ h₃=>aE (wpAny_letTemporaryGo (aP h₃))) λ_ _ x=>x)
 first
  | exact aP (aE fin)
  | exact aE (aP (aE fin))
  | exact aE fin
def yt {X:Cx}{ah:List (Addr×Obj)}{σ:St}{H:Hp}{s:Shared}{a:Addr}{y:V}{o:Option V}(I:Inv X ah σ H s)(g:cq H a y o):s.TypeIs (.ref a) "dict" := by
 rcases g with ⟨kvs,k,e,_,_⟩ | ⟨kvs,k,b,e,_,_,_⟩
 .obtain⟨_,_,vs,_,dd⟩:=ow I.cw e;exact dd.typeIs
 obtain⟨_,_,xs,_,dd⟩:=sR I.cw e;exact dd.typeIs
def A7 (td ty:TE):TE:=λσ H Q=>td σ H λx H1=>ty σ H1 λy H2=>∃a v,x=.ref a/\cq H2 a y (some v)/\Q v H2
def Pf (ty td:TE):TE:=λσ H Q=>ty σ H λy H1=>td σ H1 λx H2=>∃a o,x=.ref a/\cq H2 a y o/\Q (.bl o.isSome) H2
def A6 (ty td:TE):TE:=λσ H Q=>ty σ H λy H1=>td σ H1 λx H2=>∃a o,x=.ref a/\cq H2 a y o/\Q (.bl (!o.isSome)) H2
def Pt (td ty tv:TE):TS:=λD σ H=>tv σ H λv H1=>td σ H1 λx H2=>ty σ H2 λy H3=>∃a H4,x=.ref a/\pM H3 a y v H4/\D.nx σ H4
section
variable {X:Cx}{o i e value:Expr}{pos pos' vG:Pos}{td ty tv:TE}
def fq (hu:X.A.units+1 < cLine)(ho:PE X o td)(hi:PE X i ty)(hs:RH i):PE X (.Subscript o i pos) (A7 td ty):=by
 intro ah s σ H Q I h;refine A_ PySem.F.slot_dict_getitem.lookup hs (cQ (ho ah s σ H _ I h) λu s1 ⟨x,H1,I1,rx,q1⟩=>cQ (hi ah s1 σ H1 _ I1 q1) λiv s2 ⟨y,H2,I2,ry,a,v,ex,g,q2⟩=>?_);subst ex;obtain rfl:u=Value.ref a:=rx;exact⟨yt I2 g,DC hu I2 g ry λw' s3 I3 zT=>⟨v,H2,I3,zT,q2⟩⟩
def jf (hu:X.A.units+1 < cLine)(hi:PE X i ty)(ho:PE X o td):PC X .In i o (Pf ty td):=by
 intro ah s σ H Q I h;refine cQ (hi ah s σ H _ I h) λiv s1 ⟨y,H1,I1,ry,q1⟩=>cQ (ho ah s1 σ H1 _ I1 q1) λu s2 ⟨x,H2,I2,rx,a,ov,ex,g,q2⟩=>?_;subst ex;obtain rfl:u=Value.ref a:=rx;exact W6 hu I2 g ry λs3 I3=>⟨.bl ov.isSome,H2,I3,rfl,q2⟩
def eK (hu:X.A.units+1 < cLine)(hi:PE X i ty)(ho:PE X o td):PC X .NotIn i o (A6 ty td):=by
 intro ah s σ H Q I h;refine cQ (hi ah s σ H _ I h) λiv s1 ⟨y,H1,I1,ry,q1⟩=>cQ (ho ah s1 σ H1 _ I1 q1) λu s2 ⟨x,H2,I2,rx,a,ov,ex,g,q2⟩=>?_;subst ex;obtain rfl:u=Value.ref a:=rx;exact JX hu I2 g ry λs3 I3=>⟨.bl (!ov.isSome),H2,I3,rfl,q2⟩
def iJ (hu:X.A.units+1 < cLine)(ho:PE X o td)(hi:PE X i ty)(hv:PE X value tv)(hs:swapsWith value (some (.Subscript o i pos')) pos.line X.env=pure false) :
  PS X (.Assign [.Subscript o i pos'] value pos) (Pt td ty tv):=by
 intro ah s σ H D I h;refine wpAny_Assign_Subscript (cQ (hv ah s σ H _ I h) λr s1 ⟨v,H1,I1,rv,q1⟩=>cQ (ho ah s1 σ H1 _ I1 q1) λu s2 ⟨x,H2,I2,rx,q2⟩=>cQ (hi ah s2 σ H2 _ I2 q2) λiv s3 ⟨y,H3,I3,ry,a,H4,ex,g,q3⟩=>?_) hs;subst ex;obtain rfl:u=Value.ref a:=rx;exact DA hu I3 g ry rv λs4 I4=>⟨σ,H4,I4,q3⟩
end
def yr {P:Program}{w:World}{H:Hp}(h:Heap)(hb:sysModules < h.objs.size):cR P w H (h.push { cls:=.type "dict",data:=.dict #[] }) h.objs.size (.dK []) :=
 ⟨dW _,kC.mpr (gB (cv hb)),[],.nil,Heap.DictOf.new h⟩
def Ew:TE:=λ_ H Q=>∀p,H p=none->Q (.ref p) (upd H p (.dK []))
section
variable {X:Cx}{pos:Pos}
def g8:PE X (.Dict [] [] pos) Ew:=λah s σ H Q I h =>
 wpAny_Dict_empty ⟨.ref s.heap.objs.size,_,I.laid (a:=s.heap.objs.size) (o:=.dK []) (t':=s.toks) (λ_ _ q=>cu _ q) (aF _) (yr s.heap I.big),rfl,h _ (I.cw.fresh (aF _))⟩
end
def zw:List (TE×TE)->St->Hp->(List (V×V)->Hp->Prop)->Prop
 | [],_,H,Q=>Q [] H
 | (tk,tv)::r,σ,H,Q=>tk σ H λx H1=>tv σ H1 λy H2=>zw r σ H2 λps H3=>Q ((x,y)::ps) H3
abbrev VV:List (V×V)->List (Value×Value)->Prop:=Paired λp q=>RelV p.1 q.1/\RelV p.2 q.2
def Tf (X:Cx)(pos:Pos)(keys:List (Option Expr))(values:List Expr)(IL:List (TE×TE)):Prop :=
 ∀(ah:List (Addr×Obj))(s:Shared)(σ:St)(H:Hp)(Q:List (V×V)->Hp->Prop),Inv X ah σ H s->zw IL σ H Q ->
  wpAny (model X.prog X.w) X.A (evalPairs (pairTrees keys values X.env pos)) (λvs s'=>∃ps H',Inv X ah σ H' s'/\VV ps vs/\Q ps H') X.xe s
def Jf {X:Cx}{pos:Pos}:Tf X pos [] [] []:=λah s σ H Q I h=>pairTrees_nil_walk ⟨[],H,I,.nil,h⟩
def Fl {X:Cx}{pos:Pos}{k v:Expr}{ks:List (Option Expr)}{vs:List Expr}{tk tv:TE}{IL:List (TE×TE)}(hk:PE X k tk)(hv:PE X v tv)(hr:Tf X pos ks vs IL) :
  Tf X pos (some k::ks) (v::vs) ((tk,tv)::IL):=λah s σ H Q I h =>
 pairTrees_cons_walk (cQ (hk ah s σ H _ I h) λu s1 ⟨x,H1,I1,rx,q1⟩=>cQ (hv ah s1 σ H1 _ I1 q1) λw2 s2 ⟨y,H2,I2,ry,q2⟩ =>
  cQ (hr ah s2 σ H2 _ I2 q2) λws s3 ⟨ps,H3,I3,rel,q3⟩=>⟨(x,y)::ps,H3,I3,.cons ⟨rx,ry⟩ rel,q3⟩)
def mD (kvs more:List (aR×V)):List (aR×V):=more.foldl (λbV kv=>bT bV kv.1 kv.2) kvs
def KV.merge:∀{more:List (aR×V)}{rs:List (aR×Value)}{kvs:List (aR×V)}{vs:List (aR×Value)},KV more rs->KV kvs vs->KV (mD kvs more) (merged vs rs):=by
 intro more rs kvs vs r;unfold KV at r
 induction r generalizing kvs vs with
 | nil=>intro q;exact q
 | @cons p q ps qs h t ih =>
  intro r0;have e:KV (bT kvs p.1 p.2) (stored vs q.1 q.2):=by
   have:=r0.put p.1 h.2;rw [<-h.1];exact this
  exact ih e
theorem lZ:∀(more kvs:List (aR×V)),(mD kvs more).length<=kvs.length+more.length
 | [],kvs=>by show kvs.length<=kvs.length+0;omega
 | p::r,kvs=>by
  have h1:=lZ r (bT kvs p.1 p.2);have h2:=gb kvs p.1 p.2;show (mD (bT kvs p.1 p.2) r).length<=_;rw [dY];omega
theorem tu {P:Program}{w:World}:∀{kvs:List (aR×V)}{ws:List (Value×Value)},VV (kvs.map λkv=>(kV kv.1,kv.2)) ws->∃rs,Carries (bA P w) ws rs/\KV kvs rs
 | [],_,r=>by rw [mh] at r;cases r;exact⟨[],True.intro,.nil⟩
 | p::kvs,_,r=>by
  rw [cO] at r;cases r with
  | @cons a b as bs h t =>
   obtain⟨rs,c,q⟩:=tu (P:=P) (w:=w) t;obtain⟨b1,b2⟩:=b;exact⟨(p.1,b2)::rs,⟨l7 h.1,rfl,c⟩,.cons ⟨rfl,h.2⟩ q⟩
def Pd (IL:List (TE×TE)):TE:=λσ H Q=>∀p,H p=none->zw IL σ (upd H p (.dK [])) λps H2=>H2 p=some (.dK [])/\∃kvs:List (aR×V),ps=kvs.map (λkv=>(kV kv.1,kv.2))/\kvs.length<=15/\Q (.ref p) (upd H2 p (.dK (mD [] kvs)))
def Jl {X:Cx}{pos:Pos}{keys:List (Option Expr)}{values:List Expr}{IL:List (TE×TE)}(h:Tf X pos keys values IL)(qo:keys.all (·.isSome)=true)(hl:keys.length=values.length)(h0:keys≠[])
  (Wn:keys.length<=15):PE X (.Dict keys values pos) (Pd IL):=by
 intro ah s σ H Q I q;have hn:=I.cw.fresh (aF s.heap.objs.size);have I1:=I.laid (a:=s.heap.objs.size) (o:=.dK []) (h':=s.heap.push { cls:=.type "dict",data:=.dict #[] }) (t':=s.toks) (λ_ _ q=>cu _ q) (aF _) (yr s.heap I.big);refine wpAny_Dict_walk (knd:=bA X.prog X.w) qo hl h0 Wn (cQ (h ah _ σ _ _ I1 (q _ hn)) λws s2 ⟨ps,H2,I2,rel,e,kvs,ep,lk,q2⟩=>?_);subst ep;obtain⟨rs,c,rk⟩:=tu (P:=X.prog) (w:=X.w) rel;obtain⟨z,hd,vs0,r0,dd⟩:=yq I2.cw e;cases r0;refine⟨rs,c,dd,λh' Iu hs=>⟨.ref s.heap.objs.size,_,?_,rfl,q2⟩⟩;have hz:(mD [] kvs).length<=sizeLine:=by
  have h1:=lZ kvs [];rw [jo] at h1;rw [sizeLine_eq];omega
 have he:∃q,h'.get? s.heap.objs.size=some q:=let ⟨q,_,_,hq,_⟩:=Iu;⟨q,hq⟩;exact qI I2 (by rw [e];exact True.intro) hs he (sU hz hd (rk.merge .nil) Iu)
structure M1 (X:Cx)(o:Expr)(m:Str)(apos:Pos)(e:Expr)(hV:Pos):Prop where
 base:attributeBase o m X.env (eval o X.env)=eval o X.env
 xg:((backTo hV (starEach [e] X.env)).all (λx=>!x.1) && (backToKw hV (keywordEach [] X.env)).all (λx=>x.1.isSome)
  && decide (([e]:List Expr).length+([]:List Keyword).length+(if ([]:List Keyword).isEmpty then 0 else 1) < 30))=true
 line:(apos.endLine == hV.line)=true
 trees:backTo hV (starEach [e] X.env)=[(false,eval e X.env)]
structure M2 (X:Cx)(o:Expr)(m:Str)(apos:Pos)(e f:Expr)(hV:Pos):Prop where
 base:attributeBase o m X.env (eval o X.env)=eval o X.env
 xg:((backTo hV (starEach [e,f] X.env)).all (λx=>!x.1) && (backToKw hV (keywordEach [] X.env)).all (λx=>x.1.isSome)
  && decide (([e,f]:List Expr).length+([]:List Keyword).length+(if ([]:List Keyword).isEmpty then 0 else 1) < 30))=true
 line:(apos.endLine == hV.line)=true
 trees:backTo hV (starEach [e,f] X.env)=[(false,eval e X.env),(false,eval f X.env)]
def Tg (H:Hp)(a:Addr):Prop:=(∃kvs,Rd H a (.dK kvs))\/∃kvs,Rd H a (.dT kvs)
def Ar {X:Cx}{ah:List (Addr×Obj)}{σ:St}{H:Hp}{s:Shared}{a:Addr}(I:Inv X ah σ H s)(d:Tg H a) :
  s.TypeIs (.ref a) "dict" /\ (∀b,Value.ref a=.ref b->∃ob,s.heap.get? b=some ob/\ob.dict=none)/\(a == sysModules)=false:=by
 rcases d with ⟨kvs,e⟩ | ⟨kvs,e⟩
 .obtain⟨_,hd,vs,_,dd⟩:=ow I.cw e;refine⟨dd.typeIs,λb q=>?_,hd⟩;cases q;obtain⟨ob,_,_,h1,h2,_⟩:=dd;exact⟨ob,h1,h2.2.1⟩
 obtain⟨_,hd,xs,_,dd⟩:=sR I.cw e;refine⟨dd.typeIs,λb q=>?_,hd⟩;cases q;obtain⟨ob,_,_,h1,h2,_⟩:=dd;exact⟨ob,h1,h2.2.1⟩
section
variable {X:Cx}{ah:List (Addr×Obj)}{σ:St}{H:Hp}{s:Shared}{a:Addr}{y d:V}{u r:Value}{o:Option V}{A:Around}{E:Value->Shared->Prop}
def NL {Q:Value->Shared->Prop}(hu:A.units+1 < cLine)(I:Inv X ah σ H s)(g:cq H a y o)(ry:RelV y u)(rd:RelV d r)(h:∀w' s',Inv X ah σ H s'->RelV (o.getD d) w'->Q w' s') :
  wpAny (model X.prog X.w) A (call (.builtin "dict.get") [.ref a,u,r]) Q E s:=by
 rcases g with ⟨kvs,k,e,ey,l⟩ | ⟨kvs,k,b,e,ey,eb,l⟩
 .subst ey;obtain⟨z,hd,vs,rel,dd⟩:=ow I.cw e;refine call_meetsIn PySem.F.slot_dict_get dd.typeIs PySem.F.entry_dict_get (PySem.F.args_dict_get_3 _ _ _) (meets_dict_get_default (bA X.prog X.w) a (l7 ry) hd r) ⟨_,dd.mapOf,h _ _ (I.tok _) ?_⟩;rw [l];exact(rel.val k).getD rd
 subst ey;cases (show u=Value.ref b from ry);obtain⟨z,hd,xs,rel,dd⟩:=sR I.cw e;refine call_meetsIn PySem.F.slot_dict_get dd.typeIs PySem.F.entry_dict_get (PySem.F.args_dict_get_3 _ _ _) (meetsH_dict_get_default (tupleKind (bA X.prog X.w)) a b hd r) ⟨oV hu,k,xs,mI I.cw eb,dd,h _ _ (I.tok _) ?_⟩;rw [l];exact(rel.val k).getD rd
end
def Ex (td ty tx:TE):TE:=λσ H Q=>td σ H λx H1=>∃a,x=.ref a/\Tg H1 a/\ty σ H1 λy H2=>tx σ H2 λz H3=>∃o,cq H3 a y o/\Q (o.getD z) H3
section
variable {X:Cx}{o e f:Expr}{apos hV:Pos}{td ty tx:TE}
def xQ (hu:X.A.units+1 < cLine)(ho:PE X o td)(he:PE X e ty)(hf:PE X f tx)(m:M2 X o "get" apos e f hV):PE X (.Call (.Attribute o "get" apos) [e,f] [] hV) (Ex td ty tx):=by
 intro ah s σ H Q I h;refine wpAny_Call_method m.base m.xg m.line zj PySem.F.slot_dict_get PySem.F.type_dict_get (cQ (ho ah s σ H _ I h) λu s1 ⟨x,H1,I1,rx,a,ex,d,q1⟩=>?_);subst ex;obtain rfl:u=Value.ref a:=rx;obtain⟨t1,t2,_⟩:=Ar I1 d;refine⟨t1,t2,?_⟩;rw [m.trees];refine ro rfl (vi (oU (cQ (he ah s1 σ H1 _ I1 q1) λiv s2 ⟨y,H2,I2,ry,q2⟩ =>
  oU (cQ (hf ah s2 σ H2 _ I2 q2) λfv s3 ⟨z,H3,I3,rz,ov,g,q3⟩=>Calls.spliced_nil ?_))))
 exact NL hu I3 g ry rz λw' s4 I4 zT=>⟨_,H3,I4,zT,q3⟩
end
section
variable {X:Cx}{ah:List (Addr×Obj)}{σ:St}{H:Hp}{s:Shared}{a:Addr}{kvs:List (aR×V)}{A:Around}{E:Value->Shared->Prop}
end
section
variable {X:Cx}{ah:List (Addr×Obj)}{σ:St}{H:Hp}{s:Shared}{a:Addr}{y:V}{u:Value}{A:Around}{E:Value->Shared->Prop}
end
end L2
set_option maxHeartbeats 4000000
namespace L2
open PySem
def wt:typeLookup (.type "list") "keys"=pure none:=by rw [typeLookup_type,builtinLookup_eq_fast];kernel_rfl
def wu:typeLookup (.type "list") "__getattr__"=pure none:=by rw [typeLookup_type,builtinLookup_eq_fast];kernel_rfl
section
variable {prog:Program}{w:World}{A:Around}{E:Value->Shared->Prop}{h:Heap}{g:Array GenState}{d:Drawn}{t:Nat}{os:OsState}{a:Addr}{o:Obj}
def ED:isSubtype (.type "AttributeError") (.type "AttributeError")=pure true:=by rw [isSubtype_type];kernel_rfl
def Ml {m:Str}{tk:Tok}:ownMembersOf (.type "AttributeError") [.str m tk]=#[unsetMember,unsetMember]:=by kernel_rfl
def G3 {m:Str}{tk:Tok}:firstArgMember (.type "AttributeError") [.str m tk]=pure .none:=by kernel_rfl
def zU {α:Type}{self:Value}{name msg:Str}{Q:α->Shared->Prop}(hm:msg.length<=sizeLine)(hh:A.handled=none)
  (hq:∀h' t' e oe,(∀b o,h.get? b=some o->h'.get? b=some o)->h'.get? e=some oe->oe.cls=.type "AttributeError" -> E (.ref e) ⟨h',g,d,t',os⟩) :
  wpAny (model prog w) A (raiseAttrError self name msg) Q E ⟨h,g,d,t,os⟩:=by
 have f1:=ED;unfold raiseAttrError newExc;refine aE (wpAny_mkStr ?_ hm);have fe:=G3 (m:=msg) (tk:=t);rw [Ml]
 repeat (any_goals (first | assumption | wp_step))
 unfold raiseNew;refine aE (wpAny_handled ?_);rw [hh];refine aE (aP ?_);refine wpAny_throw ?_;refine hq _ _ _ _ (λb o q=>?_) (Heap.get?_update_self _ (dZ _ rfl) rfl) rfl;have lt:=bN q;rw [Heap.get?_update_other _ _ (by rw [oJ];exact lU (vh lt))];exact cu _ (cu _ q)
def Ap {tk:Tok}{aT:Array Value}{n:Nat}{Q:Fin->Shared->Prop}(hx:h.get? a=some { cls:=.type "list",data:=.seq aT n })(hh:A.handled=none)
  (hq:∀h' t' e oe,(∀b o,h.get? b=some o->h'.get? b=some o)->h'.get? e=some oe->oe.cls=.type "AttributeError" -> E (.ref e) ⟨h',g,d,t',os⟩) :
  wpAny (model prog w) A (Builtin.«object.__getattribute__» ⟨[.ref a,.str "keys" tk],[]⟩) Q E ⟨h,g,d,t,os⟩:=by
 have hT:(⟨h,g,d,t,os⟩:Shared).TypeIs (.ref a) "list" := ⟨_,hx,rfl⟩;have f4:=wt
 repeat (any_goals (first | assumption | wp_step))
 exact zU (by decide +kernel) hh hq
def px {aT:Array Value}{n:Nat}{Q:Option Value->Shared->Prop}(hx:h.get? a=some { cls:=.type "list",data:=.seq aT n })(hh:A.handled=none)
  (hq:∀h' t',(∀b o,h.get? b=some o->h'.get? b=some o)->Q none ⟨h',g,d,t',os⟩):wpAny (model prog w) A (getAttr? (.ref a) "keys") Q E ⟨h,g,d,t,os⟩:=by
 have hT:∀t',(⟨h,g,d,t',os⟩:Shared).TypeIs (.ref a) "list" := λt'=>⟨_,hx,rfl⟩;have f1:=ED;have f2:=vy.lookup;have f3:=vy.bind (.ref a);have f4:=wu;unfold getAttr? getAttrBy? getAttrBy;refine aE (wpAny_mkText (aE (wpAny_attempt (jM (aE (lS (hT _) ?_))))));rw [f2];refine aE (aP ?_);show wpAny _ _ (getAttrByItsOwn _ _ _ _ _ _) _ _ _;unfold getAttrByItsOwn;refine aE (aP (a:=none) (aE (wpAny_attempt (jM ?_))));show wpAny _ _ (boundAndCalled _ _ _) _ _ _;unfold boundAndCalled;rw [f3];refine aE (aP (wpAny_call (codeAny_call_builtin vy.plain F.entry_list_ga (vy.check _ _ _ _ _ _ _ _ (hT _) (F.args_list_getattribute_2 _ _) (Ap hx hh λh' t' e oe k ee ec=>?_)))));have te:(⟨h',g,d,t',os⟩:Shared).TypeIs (.ref e) "AttributeError" := ⟨oe,ee,ec⟩;show wpAny _ _ (getattributeRaised _ _ _ _ _ _ _) _ _ _;unfold getattributeRaised;refine aE (wpAny_isInstance te f1 ?_);rw [ax rfl];show wpAny _ _ (typeLookup _ _ >>= _) _ _ _;rw [f4];refine aE (aP ?_);show wpAny _ _ (throw _) _ _ _;refine wpAny_throw ?_;refine aE (wpAny_isInstance te f1 ?_);rw [ax rfl];exact aP (hq h' t' k)
end
def gr:plainId "dict.update.loop"=true:=by decide +kernel
def lH:entryFor table "dict.update.loop"=some Builtin.«dict.update.loop»:=entryFor_of_tree (by kernel_rfl)
section
variable {prog:Program}{w:World}{K:Type} [DecidableEq K] {knd:KeyKind prog w K}{A:Around}{E:Value->Shared->Prop}
def mN (knd:KeyKind prog w K)(h:Heap)(u:Value)(kv:K×Value):Prop :=
 ∃t key n o,u=.ref t/\knd.is kv.1 key=true/\h.get? t=some o/\o.cls=.type "tuple" /\ o.data=.seq #[key,kv.2] n
def mN.keep {h h':Heap}{u:Value}{kv:K×Value}(p:mN knd h u kv)(k:∀b o,o.cls=.type "tuple" -> h.get? b=some o->h'.get? b=some o):mN knd h' u kv :=
 let ⟨t,key,n,o,a,b,c,d,e⟩:=p;⟨t,key,n,o,a,b,k t o d c,d,e⟩
def Hf {R:Result->Shared->Prop}{d it l:Addr}{items:Array Value}(hh:A.handled=none):∀(more:List (K×Value)) (i:Nat)(s:Shared)(kvs:List (K×Value)) (j:Int)(tk:Tok),items.size=i+more.length ->
  s.heap.DictOf knd d kvs->s.heap.IsListIter it l i->s.heap.IsList l items->(∀m kv,more[m]?=some kv->∃u,items[i+m]?=some u/\mN knd s.heap u kv)->kvs.length+more.length<=sizeLine ->
  (∀h' t',h'.DictOf knd d (more.foldl (λa p=>stored a p.1 p.2) kvs)->(∀b o,b≠d->b≠it->s.heap.get? b=some o->h'.get? b=some o)->R (.ok (.ret .none)) { s with heap:=h',toks:=t' }) ->
  codeAny (model prog w) A (.builtin "dict.update.loop" ⟨[.ref d,.ref it,.int j tk,.none],[]⟩) R s:=by
 intro more
 induction more with
 | nil =>
  intro i s kvs j tk hi hd hit hl hp hz hR;refine qS lH ?_;rw [rf gr _];unfold Builtin.«dict.update.loop»;have hs:items[i]?=none:=Array.getElem?_eq_none (by rw [hi];exact aF _);refine aE (vq hh hit hl hs λh1 eb=>?_);have nd:d≠it:=λz=>by
   obtain⟨o,_,_,q,_,c,_⟩:=hd;obtain⟨o',q',_,c'⟩:=hit;rw [z,q'] at q;cases q;rw [c'] at c;cases c
  show wpAny _ _ (Builtin.Dict.addKeywords d [] >>= _) _ _ _;exact aE (aP (aP (hR h1 s.toks (hd.extBut eb nd) λb o n1 n2 q=>eb b o n2 q)))
 | cons kv more ih =>
  intro i s kvs j tk hi hd hit hl hp hz hR;refine qS lH ?_;rw [rf gr _];unfold Builtin.«dict.update.loop»;obtain⟨u,hu,t,key,n,o,rfl,hk,ho,hc,BP⟩:=hp 0 kv rfl;refine aE (wpAny_pyNext_list_item hit hl hu λh1 Vi sb=>?_);have nd:d≠it:=λz=>by
   obtain⟨o,_,_,q,_,c,_⟩:=hd;obtain⟨o',q',_,c'⟩:=hit;rw [z,q'] at q;cases q;rw [c'] at c;cases c
  have n2:∀b o,(o.cls=.type "tuple" \/ o.cls=.type "list")->s.heap.get? b=some o->b≠d/\b≠it:=by
   intro b o c q;constructor
   .intro z;obtain⟨o',q',c'⟩:=hd.typeIs;rw [z,q'] at q;cases q;rw [c'] at c;rcases c with c | c <;> exact absurd c (by decide)
   intro z;obtain⟨o',q',c',_⟩:=hit;rw [z,q'] at q;cases q;rw [c'] at c;rcases c with c | c <;> exact absurd c (by decide)
  have nt:∀b o,o.cls=.type "tuple" -> s.heap.get? b=some o->b≠d/\b≠it:=λb o c q=>n2 b o (.inl c) q;have nl:l≠d/\l≠it:=by
   obtain⟨o,q,c,_⟩:=hl;exact n2 l o (.inr c) q
  have QK:h1.get? t=some o:=(sb.2 t (nt t o hc ho).2).trans ho;have wI:h1.DictOf knd d kvs:=hd.sameBut sb nd;refine aE (jM (aE (wpAny_tryCatch ?_)));unfold Builtin.Dict.pairItems;refine aE (lS (T := "tuple") ⟨o,QK,hc⟩ ?_);rw [ax (by decide)];refine aE (qP QK BP (aP ?_));show wpAny _ _ (holding [key,kv.2] (dictSet d key kv.2)) _ _ _;rw [dY] at hz hi;refine jM (wpAny_dictSet_pairs (s:={ s with heap:=h1 }) hk wI (λh2 hd2 Pr=>?_) ∅);have kk:∀b o,b≠d->b≠it->s.heap.get? b=some o->h2.get? b=some o:=λb o n1 n2 q=>(Pr.2 b n1).trans ((sb.2 b n2).trans q);have ln:(stored kvs kv.1 kv.2).length<=kvs.length+1:=by
   unfold stored
   split
   .simp
   simp
  refine aP ⟨oH gr _,ih (i+1) _ _ _ _ ∅ hd2 (Vi.at λo q=>(Pr.2 it (gB nd)).trans q) (hl.at λo q=>kk l o nl.1 nl.2 q) (λm Vb e=>?_) ∅ λh3 t3 ji k3=>?_⟩
  .obtain⟨u',e1,e2⟩:=hp (m+1) Vb e;exact⟨u',by rw [<-e1];congr 1;omega,e2.keep λb o c q=>kk b o (nt b o c q).1 (nt b o c q).2 q⟩
  exact hR h3 t3 ji λb o n1 n2 q=>k3 b o n1 n2 (kk b o n1 n2 q)
def zx:(Value.type "list" != Value.type "dict")=true:=by decide
def tD {s:Shared}{l:Addr}{items:Array Value}{n:Nat}{more:List (K×Value)}{Q:Value->Shared->Prop}(knd:KeyKind prog w K)(hh:A.handled=none)(hx:s.heap.get? l=some { cls:=.type "list",data:=.seq items n })
  (hi:items.size=more.length)(hp:∀(m:Nat) kv,more[m]?=some kv->∃u,items[m]?=some u/\mN knd s.heap u kv)(hz:more.length<=sizeLine)
  (h:∀h' t',h'.DictOf knd s.heap.objs.size (more.foldl (λa p=>stored a p.1 p.2) [])->(∀b o,s.heap.get? b=some o->h'.get? b=some o)->Q (.ref s.heap.objs.size) { s with heap:=h',toks:=t' }) :
  wpAny (model prog w) A (call (.type "dict") [.ref l]) Q E s:=by
 refine callType_codes (Q₁:=λobj s₁=>obj=.ref s.heap.objs.size/\s₁={ s with heap:=s.heap.push { cls:=.type "dict",data:=.dict #[] } }) F.kt_called_dict (F.kt_typeCall_dict_1 _) F.entry_dict_init (kt_code_dict_new _ ⟨rfl,rfl⟩) ?_;rintro obj s₁ ⟨rfl,rfl⟩;have Ag:(s.heap.push { cls:=.type "dict",data:=.dict #[] }).DictOf knd s.heap.objs.size []:=Heap.DictOf.new s.heap;have l0:=cu { cls:=.type "dict",data:=.dict #[] } hx;refine⟨Ag.typeIs,F.args_dict_init_2 _ _,?_⟩;unfold Builtin.«dict.__init__» Builtin.Dict.selfAndRest;refine aE (aE (wpAny_notOrdered_dict Ag.typeIs (aP ?_)));show wpAny _ _ (Builtin.Dict.updateFrom "dict.__init__" s.heap.objs.size (.ref l) [] .none) _ _ _;unfold Builtin.Dict.updateFrom;refine aE (lS (T := "list") ⟨_,l0,rfl⟩ ?_);rw [ax zx];refine aE (px l0 hh λh1 t1 k1=>?_);refine aE (wpAny_rule ?_);have l1:=k1 _ _ l0;refine aE (oQ ⟨_,l1,rfl,_,rfl⟩ ?_);have k2:∀b o,s.heap.get? b=some o->(h1.push { cls:=.type "list_iterator",data:=.fields #[.ref l,.int 0 0] }).get? b=some o:=λb o q=>cu _ (k1 _ _ (cu _ q));refine aP ⟨oH gr _,Hf (knd:=knd) (A:=A.in1) (l:=l) (items:=items) (show A.in1.handled=none from hh) more 0 _ [] _ _ (by rw [hi,oI]) ?_ ⟨_,dZ _ rfl,rfl,rfl⟩ ⟨_,k2 _ _ hx,rfl,n,rfl⟩ (λm kv e=>?_) (by simpa using hz) λh' t' hd k3=>?_⟩
 .obtain⟨o,es,ep,q,r⟩:=Ag;exact⟨o,es,ep,cu _ (k1 _ _ q),r⟩
 .obtain⟨u,e1,e2⟩:=hp m kv e;exact⟨u,by rw [oI];exact e1,e2.keep λb o _ q=>k2 b o q⟩
 refine⟨rfl,h h' t' hd λb o q=>k3 b o (cv (bN q)) ?_ (k2 b o q)⟩;have:=bN (k1 _ _ (cu { cls:=.type "dict",data:=.dict #[] } q));exact cv this
end
open PySem PySem.Spec PyProof.Rows
def DV (X:Cx)(ifs:List Expr)(t:TT):Prop :=
 ∀(ah:List (Addr×Obj))(s:Shared)(σ:St)(H:Hp)(Q:Bool->Hp->Prop),Inv X ah σ H s->t σ H Q ->
  wpAny (model X.prog X.w) X.A (forIn ifs true λc r=>if r=true then do let ok <-isTrue c X.env (eval c X.env);pure (ForInStep.yield ok) else pure (ForInStep.yield r)) (TP X ah σ Q) X.xe s
def iu:TT:=λ_ H Q=>Q true H
def b8 {X:Cx}:DV X [] iu:=λ_ _ _ H _ I h=>wpAny_tests_nil ⟨H,I,h⟩
def ip {X:Cx}{c:Expr}{t:TT}(h:PT X c t):DV X [c] t:=λah s σ H Q I hw=>wpAny_tests_one (h ah s σ H Q I hw)
def qc {prog:Program}{w:World}{A:Around}{R:Result->Shared->Prop}{s:Shared}{elt target iter:Expr}{ifs:List Expr}{scope:Scope}{pos:Pos}{it bV:Value}{env:Env}(I:Nat->Shared->Prop)
  (turn:∀n s,I n s->wpAny (model prog w) A (pyNext it) (λr s₁=>match r with
   | none=>R (.ok .next) s₁
   | some v=>wpAny (model prog w) A (letOwnedTupleGo target it v) (λ_ s₁=>wpAny (model prog w) A (assign target env v) (λ_ s₂ =>
     wpAny (model prog w) A (forIn ifs true λc r=>if r=true then do let ok <-isTrue c env (eval c env);pure (ForInStep.yield ok) else pure (ForInStep.yield r)) (λok s₃ =>
      if ok=true then wpAny (model prog w) A (eval elt env) (λx s₄ =>
       wpAny (model prog w) A (call (.builtin "list.append") [bV,x]) (λ_ s₅=>∃m,m < n/\I m s₅) (λ_ _=>False) s₄) (λ_ _=>False) s₃
      else ∃m,m < n/\I m s₃) (λ_ _=>False) s₂) (λ_ _=>False) s₁) (λ_ _=>False) s₁) (λ_ _=>False) s)
  (n:Nat)(h:I n s) :
  codeAny (model prog w) A (.compLoop (.ListComp elt [⟨target,iter,ifs,0⟩] scope pos) 0 it bV env) R s:=by
 refine codeAny_loop rfl I (λn s hI=>?_) n h;show wpAny _ A ((compTurn (.ListComp elt [⟨target,iter,ifs,0⟩] scope pos) 0 it bV env).onRaise (λx=>do noteFrame x env;theTreesLotGoes x)) _ _ s;refine wpAny_noted ?_;rw [compTurn_list];refine aE (wpAny_standAt (aE (dJ (turn n s hI) (λr s₁ h₁=>?_) λ_ _ h'=>h'.elim)));cases r with
 | none=>exact aP h₁
 | some v =>
  refine aE (dJ h₁ (λ_ s₂ h₂=>?_) λ_ _ h'=>h'.elim);refine aE (dJ h₂ (λ_ s₂ h₂=>aE (dJ h₂ (λok s₃ h₃=>?_) λ_ _ h'=>h'.elim)) λ_ _ h'=>h'.elim);cases ok with
  | false=>exact aP ⟨rfl,h₃⟩
  | true =>
   exact aE (aE (dJ h₃ (λx s₄ h₄=>aE (dJ h₄ (λ_ s₅ h₅=>aP (aP ⟨rfl,h₅⟩)) λ_ _ h'=>h'.elim)) λ_ _ h'=>h'.elim))
inductive yO (K:ba)(H:Hp):V->String->Prop where
 | bl (x:Bool):yO K H (.bl x) "bool"
 | int (i:Int):yO K H (.int i) "int"
 | str (x:Str):yO K H (.str x) "str"
 | tup {a:Addr}{xs:List V}(e:aS K H a xs):yO K H (.ref a) "tuple"
def di {X:Cx}:iC X (.builtin "isinstance") (λxs H Q=>∃x T n b,xs=[x,.ty n]/\yO X.K H x T/\PySem.W.kitOne X.K (.type T) (.type n)=some b/\Q (.bl b) H):=by
 intro ah s σ H xs us Q I r h;obtain⟨x,T,n,b,rfl,ty,e,q⟩:=h;obtain⟨u,w',rfl,rx,rn⟩:=vals2 r;cases (show w'=Value.type n from rn);have fin:∀tk,EP X ah σ Q (.bool b) { s with toks:=tk }:=λtk=>⟨.bl b,H,I.tok _,rfl,q⟩;cases ty with
 | bl y=>cases (show u=Value.bool y from rx);exact PySem.W.kia_one PySem.W.kitx_bool I.wC True.intro e (λz=>nomatch z) fin
 | int i=>obtain⟨t,z⟩:=(show ∃t,u=Value.int i t from rx);cases z;exact PySem.W.kia_one PySem.W.kitx_int I.wC True.intro e (λz=>nomatch z) fin
 | str y=>obtain⟨t,z⟩:=(show ∃t,u=Value.str y t from rx);cases z;exact PySem.W.kia_one PySem.W.kitx_str I.wC True.intro e (λz=>nomatch z) fin
 | @tup a ys hq =>
  cases (show u=Value.ref a from rx);obtain⟨aT,_,⟨o,h1,h2,_⟩,_⟩:=I.tuple hq;exact PySem.W.kia_one PySem.W.kitx_tuple I.wC ⟨o,h1,h2⟩ e (λz=>nomatch z) fin
def Cz {X:Cx}{a:Expr}{ta:TE}(K:ba)(ha:PE X a ta)(he:∀whole,isTrue a X.env whole=(do let v <-whole;standAt a.pos;holding [v] (truthy v)))(hK:X.K=K:=by rfl) :
  PT X a (λσ H Q=>ta σ H λx H'=>∃k,HG K x H' k/\Q k H'):=by
 subst hK;exact iV ha he
def CD {X:Cx}(hu:X.A.units < cLine):jG X (compareOp .Eq) (λx y H Q=>∃a b xs,x=.ref a/\y=.ref b/\aH X.K H a xs/\aH X.K H b []/\Q (.bl (xs.isEmpty)) H):=by
 intro ah s σ H x y v u Q I rx ry h;obtain⟨a,b,xs,rfl,rfl,ha,hb,q⟩:=h;cases rx;cases ry;obtain⟨aT,r,pl,hz⟩:=I.list ha;obtain⟨dF,r2,uw,Qu⟩:=I.list hb;have e2:dF=[]:=bf.zero r2;subst e2;have bE:=r.length;cases xs with
 | nil =>
  have e:aT=[]:=bf.zero r;subst e;refine SeqAt.eq_listAt (e:=λ_=>true) pl.isList uw.isList rfl hu (λj h1 _=>absurd h1 (by simp)) ⟨.bl true,H,I,rfl,q⟩
 | cons y ys =>
  refine SeqAt.eq_list_lengthsAt pl.isList uw.isList ?_ hu ⟨.bl false,H,I,rfl,q⟩;rw [bX,bX,<-bE];simp
structure Ke (env:Env)(scope:Scope)(cl:List (Str×Addr)):Prop where
 eq:closureFor scope env=pure cl
 sub:∀y c,cl.lookup y=some c->env.cells.lookup y=some c
 all:∀y,(y,NameKind.free)∈scope.names->∃c,cl.lookup y=some c
def jU {y n:Str}{c:Addr}{l:List (Str×Addr)}:((n,c)::l).lookup y=if y=n then some c else l.lookup y:=by
 by_cases h:y=n
 .rw [ax h];simp [List.lookup,h]
 rw [ay h];simp [List.lookup,kC.mpr h]
def wR {env:Env}{scope:Scope}(h:∀y,(y,NameKind.free)∈scope.names->∃c,env.cells.lookup y=some c):∃cl,Ke env scope cl:=by
 have go:∀(names:List (Str×NameKind))(bV:List (Str×Addr)),(∀y,(y,NameKind.free)∈names->∃c,env.cells.lookup y=some c)->(∀y c,bV.lookup y=some c->env.cells.lookup y=some c) ->
   ∃cl,(forIn names bV λ(x:Str×NameKind)(cs:List (Str×Addr))=>(if x.2 == .free then do let c <-cellOf env x.1;pure (ForInStep.yield ((x.1,c)::cs)) else pure (ForInStep.yield cs):Sem (ForInStep (List (Str×Addr)))))=pure cl /\
    (∀y c,cl.lookup y=some c->env.cells.lookup y=some c)/\(∀y,(y,NameKind.free)∈names->∃c,cl.lookup y=some c)/\∀y c,bV.lookup y=some c->∃c',cl.lookup y=some c':=by
  intro names
  induction names with
  | nil=>intro bV _ hs;exact⟨bV,rfl,hs,λy hy=>absurd hy (by simp),λy c e=>⟨c,e⟩⟩
  | cons x r ih =>
   intro bV hf hs;obtain⟨n,k⟩:=x;rw [List.forIn_cons];by_cases hk:k=.free
   .subst hk;obtain⟨c0,e0⟩:=hf n cH;obtain⟨cl,e1,e2,e3,e4⟩:=ih ((n,c0)::bV) (λy hy=>hf y (dA _ hy)) (λy c e=>by
     rw [jU] at e;by_cases z:y=n
     .rw [ax z] at e;cases e;rw [z];exact e0
     rw [ay z] at e;exact hs y c e)
    refine⟨cl,?_,e2,λy hy=>?_,λy c e=>?_⟩
    .rw [<-e1];have:cellOf env n=pure c0:=by unfold cellOf;rw [e0]
     simp only [this];rfl
    .rcases bW.mp hy with z | z
     .cases z;exact e4 n c0 (by rw [jU,ax rfl])
     exact e3 y z
    by_cases z:y=n
    .exact e4 y c0 (by rw [jU,ax z])
    exact e4 y c (by rw [jU,ay z];exact e)
   obtain⟨cl,e1,e2,e3,e4⟩:=ih bV (λy hy=>hf y (dA _ hy)) hs;refine⟨cl,?_,e2,λy hy=>?_,e4⟩
   .rw [<-e1];have:(k == NameKind.free)=false:=by simpa using hk
    simp only [this];rfl
   rcases bW.mp hy with z | z
   .cases z;exact absurd rfl hk
   exact e3 y z
 obtain⟨cl,e1,e2,e3,_⟩:=go scope.names [] h (λy c e=>by simp at e);refine⟨cl,?_,e2,e3⟩;unfold closureFor;exact Eq.trans (congrArg (λt:Sem (List (Str×Addr))=>t >>= λcs=>pure cs) e1) rfl
def wg {scope:Scope}{env:Env}{y:Str}(hk:env.scope.kind=.function)(hy:scope.names.lookup y=some .free)(he:env.kindOf y=some .cell):(relabel scope env).names.lookup y=some .cell:=by
 have go:∀l:List (Str×NameKind),l.lookup y=some .free->(l.map λ(x:Str×NameKind)=>if (x.2 == NameKind.free && env.scope.kind == .function && env.kindOf x.1 == some .cell) then (x.1,NameKind.cell) else (x.1,x.2)).lookup y=some .cell:=by
  intro l
  induction l with
  | nil=>intro z;cases z
  | cons x r ih =>
   obtain⟨n,k⟩:=x;intro hy;rw [cO];by_cases z:y=n
   .subst z;simp [List.lookup] at hy;subst hy;simp [List.lookup,hk,he]
   have zb:(y == n)=false:=kC.mpr z;simp only [List.lookup,zb] at hy;have:=ih hy;dsimp only
   split <;> simp only [List.lookup,zb] <;> exact this
 exact go _ hy
theorem wq {α:Type}{y:Str}{v:α}:∀{l:List (Str×α)},l.lookup y=some v->(y,v)∈l
 | [],h=>by cases h
 | (n,u)::r,h=>by
  by_cases z:y=n
  .subst z;simp [List.lookup] at h;subst h;exact cH
  have zb:(y == n)=false:=kC.mpr z;simp only [List.lookup,zb] at h;exact dA _ (wq h)
def nO {scope:Scope}{env:Env}{y:Str}{k:NameKind}(h:(relabel scope env).names.lookup y=some k)(hk:k=.cell\/k=.free)(hc:∀z∈scope.names,z.2≠.cell):(y,NameKind.free)∈scope.names:=by
 have m:=wq h;unfold relabel at m;obtain⟨⟨n,k'⟩,m1,m2⟩:=cX.mp m;dsimp only at m2
 split at m2
 .rename_i q
  cases m2;simp at q;obtain⟨⟨q,_⟩,_⟩:=q;subst q;exact m1
 cases m2;rcases hk with hk | hk
 .exact absurd hk (hc _ m1)
 rw [<-hk];exact m1
def sW (X:Cx)(scope:Scope)(cl:List (Str×Addr))(C:Addr)(s1:Shared)(H1:Hp) (N:List Str)(fp:List Addr):Cx :=
 { X with N:=N,s₀:=s1,H₀:=H1,env:=compEnvC scope cl C X.env,outer:=X.stack,stack:=X.stack,ex:=fp,fn:=λ_=>false,pn:=[],xe:=λ_ _=>False }
structure Kf (X:Cx)(scope:Scope)(js:List (Nat×Str)):Prop where
 at_:∀p∈js,X.N[p.1]?=some p.2/\X.env.scope.names.lookup p.2=some .cell/\scope.names.lookup p.2=some .free
 all:∀y,(y,NameKind.free)∈scope.names->X.env.scope.names.lookup y=some .cell
def eU (ts:List Str)(js:List (Nat×Str))(σ:St):St:=ts.map (λ_=>none)++js.map λp=>(σ[p.1]?).join
def uG {X:Cx}{ah:List (Addr×Obj)}{σ:St}{H:Hp}{s1 s4:Shared}{scope:Scope}{ts:List Str}{js:List (Nat×Str)}{cl:List (Str×Addr)}{fp:List Addr}{C:Addr}{m:Str->Option Value}
  (I:Inv X ah σ H s1)(hf:∀b∈fp,w5 X ah H b)(Gy:∀b∈fp,b < s1.heap.objs.size)(jy:scope.kind=.function)(jz:∀y∈scope.names,y.2≠.cell)(cp:Kf X scope js)(pC:Ke X.env scope cl)
  (hC:s1.heap.objs.size < C)(ho:s4.os=s1.os)(hg:s4.gens=s1.gens)(old:∀b o,s1.heap.get? b=some o->s4.heap.get? b=some o)(hn:s4.heap.Ns C m)
  (hD:s4.heap.get? s1.heap.objs.size=some { cls:=.type "list",data:=.seq ([]:List Value).toArray 0 }) :
  Inv (sW X scope cl C s1 H (ts++js.map (·.2)) fp) [] (eU ts js σ) (upd H s1.heap.objs.size (.lst [])) s4:=by
 have xk:X.env.scope.kind=.function:=I.ok.kind;have has:∀y,((relabel scope X.env).names.lookup y=some .cell\/(relabel scope X.env).names.lookup y=some .free)->∃c,cl.lookup y=some c:=λy hy=>pC.all y (by
  rcases hy with hy | hy
  .exact nO hy (.inl rfl) jz
  exact nO hy (.inr rfl) jz)
 have lt:∀y c,cl.lookup y=some c->c < s1.heap.objs.size:=λy c e=>by
  obtain⟨v,o,ho,_⟩:=I.cell y c (pC.sub y c e);exact bN ho
 refine⟨⟨I.ok.mod,jy,I.ok.glob,I.ok.blt,kI hC,λy z c h1 h2=>I.ok.inj y z c (pC.sub _ _ h1) (pC.sub _ _ h2),has,λy c h _=>absurd (show false=true from h) eF,I.ok.hd,I.ok.frames,.inl rfl,
   λb hb=>⟨cv (mi (Gy b hb) hC),λy c h=>(hf b hb).2.2.2.2.1 y c (pC.sub _ _ h)⟩,I.bs,dX I.ok.Iy I.sz,λb o e hb=>?_,λb hb=>?_,I.stack,I.Bb⟩,
  ho,?_,Un.laid old (aF _) I.fresh,⟨m,hn,λi y v e1 e2 _=>?_⟩,λy c h=>?_,?_,λy c h=>?_,λp hp=>absurd (show p∈([]:List (Addr×Obj)) from hp) (by simp),I.cw.laid old (aF _) ?_,?_⟩
 .obtain⟨_,_,_,h4,_⟩:=hf b hb;rcases h4 with h4 | h4
  .exact I.ok.FZ b o e h4
  exact absurd (gL (bN (I.ok.bs b o e).1) h4) (kK _)
 .intro Ik;obtain⟨_,h2,h3,_⟩:=hf b hb;rcases bW.mp (I.zy b Ik) with z | z
  .exact h2 z
  exact h3 z
 .rw [hg];exact I.bare
 .have JU:(ts++js.map (·.2))[i]?=some y:=e1;have Dz:(ts.map (λ_=>(none:Option V))++js.map λp=>(σ[p.1]?).join)[i]?=some (some v):=e2;by_cases hi:i < ts.length
  .rw [pS (by simpa using hi)] at Dz;simp [hi] at Dz
  rw [mY ∅] at JU;rw [mY (by simpa using Nat.le_of_not_lt hi)] at Dz;rw [au] at Dz;rw [bz] at JU Dz;cases hj:js[i - ts.length]? with
  | none=>rw [hj] at JU;cases JU
  | some p =>
   rw [hj] at JU Dz;simp only [qV,Option.some.injEq] at JU Dz;obtain⟨a1,a2,a3⟩:=cp.at_ p (b9 hj);subst JU;have es:σ[p.1]?=some (some v):=by
    cases q:σ[p.1]? with
    | none=>rw [q] at Dz;cases Dz
    | some z=>rw [q] at Dz;exact congrArg some Dz
   obtain⟨m0,Sx,lk⟩:=I.loc;obtain⟨u,ru,l⟩:=lk p.1 p.2 v a1 es (.inr (.inl a2));rcases l with l | ⟨_,c,ec,o,hc,hd⟩
   .have l1:X.env.scope.names.lookup p.2=some .local:=l.1;rw [a2] at l1;cases l1
   obtain⟨c',ZR⟩:=pC.all p.2 (wq a3);have e3:=pC.sub _ _ ZR;rw [ec] at e3;cases e3;exact⟨u,ru,.inr ⟨.inl (wg xk a3 a2),c,ZR,o,old _ _ hc,hd⟩⟩
 .obtain⟨v,o,h1,h2⟩:=I.cell y c (pC.sub y c h);exact⟨v,o,old _ _ h1,h2⟩
 .show upd H s1.heap.objs.size (.lst []) C=none;rw [aj (lU hC)];exact I.cw.fresh (kI hC)
 .show upd H s1.heap.objs.size (.lst []) c=none;rw [aj (cv (lt y c h))];exact I.l8 y c (pC.sub y c h)
 .exact⟨by show 0<=sizeLine;decide,[],0,.nil,hD⟩
 show (eU ts js σ).length=(ts++js.map (·.2)).length;simp [eU]
def Ey (wi:TI) (ts:List Str)(js:List (Nat×Str))(g:TG)(tif:TT)(te:TE):TE:=λσ H Q=>wi σ H λJ H1=>∀D,H1 D=none->∃W:Nat->Nat->List V->St->Hp->Prop,(∃m,W 0 m [] (eU ts js σ) (upd H1 D (.lst []))) /\
 ∀i m ys σ' H,W i m ys σ' H->(J.stop i H/\Q (.ref D) H)\/(J.go i H/\∃m',m' < m/\∀x H',J.mP i H x H'->g x σ' H' λσ2 H2=>tif σ2 H2 λb H3 =>
  if b=true then te σ2 H3 λy H4=>H4 D=some (.lst ys)/\ys.length < sizeLine/\W (i+1) m' (ys++[y]) σ2 (upd H4 D (.lst (ys++[y]))) else W (i+1) m' ys σ2 H3)
def bD {X:Cx}{elt iter tg:Expr}{ifs:List Expr}{scope:Scope}{pos:Pos}{wi:TI}{g:TG}{tif:TT}{te:TE}(ts:List Str)(js:List (Nat×Str))(hc:X.calm=true)(hi:PI X tg iter wi)
  (cp:Kf X scope js)(jz:∀y∈scope.names,y.2≠.cell)(jy:scope.kind=.function)
  (Au:∀y∈scope.names,y.2=.local->scope.names.lookup y.1=some .local)
  (hg:∀cl C s1 H1 fp,PG (sW X scope cl C s1 H1 (ts++js.map (·.2)) fp) tg g)
  (VS:∀cl C s1 H1 fp,DV (sW X scope cl C s1 H1 (ts++js.map (·.2)) fp) ifs tif)(he:∀cl C s1 H1 fp,PE (sW X scope cl C s1 H1 (ts++js.map (·.2)) fp) elt te)
  (hs:∀x,foldedSetIterable iter X.env x=pure x:=by intro _;rfl) :
  PE X (.ListComp elt [⟨tg,iter,ifs,0⟩] scope pos) (Ey wi ts js g tif te):=by
 intro ah s σ H Q I h;rw [eval_ListComp];obtain⟨cl,pC⟩:=wR (env:=X.env) (scope:=scope) λy hy=>I.ok.has y (.inl (cp.all y hy));refine wpAny_comprehension_free (use:=none) rfl hs pC.eq jy Au (cQ (hi ah s σ H _ I h) λv s1 h1=>cQ h1 λSq s2 h2=>?_);obtain⟨it,fp,tn,J,H2,e,I2,T,HY,f2,h2⟩:=h2;subst e;obtain⟨W,⟨m0,w0⟩,turn⟩:=h2 s2.heap.objs.size I2.fresh;have Gy:∀b∈fp,b < s2.heap.objs.size:=λb hb=>by obtain⟨o,e,_⟩:=T.obj _ _ HY b hb;exact bN e
 refine jq (wpAny_newFunctionEnv jz (by intro y hy;simp at hy) (λh₁ As wG=>?_) jy);dsimp only at As wG ⊢;generalize Nf:s2.heap.push { cls:=.type "list",dict:=none,data:=.seq ([]:List Value).toArray }=G2 at As wG ⊢;have JO:G2.objs.size=s2.heap.objs.size+1:=by rw [<-Nf,oJ]
 have Wc:s2.heap.objs.size≠G2.objs.size:=by rw [JO];exact cv (pQ _)
 have old:∀b o,s2.heap.get? b=some o->h₁.get? b=some o:=λb o e =>
  wG.extBut b o (by rw [JO];exact cv (vh (bN e))) (cu _ (Nf ▸ cu _ e))
 have Di:h₁.get? s2.heap.objs.size=some { cls:=.type "list",data:=.seq ([]:List Value).toArray 0 }:=wG.extBut _ _ Wc (cu _ (Nf ▸ dZ _ rfl));generalize og:sW X scope cl G2.objs.size s2 H2 (ts++js.map (·.2)) fp=X2;have I4:Inv X2 [] (eU ts js σ) (upd H2 s2.heap.objs.size (.lst [])) { s2 with heap:=h₁,toks:=s2.toks+([]:List (Str×Value)).length }:=by
  rw [<-og];exact uG I2 f2 Gy jy jz cp pC (by rw [JO];exact pQ _) rfl rfl old As Di
 have x1:X2.prog=X.prog:=by rw [<-og];rfl
 have x2:X2.w=X.w:=by rw [<-og];rfl
 have x3:X2.K=X.K:=by rw [<-og];rfl
 have x4:X2.calm=true:=by rw [<-og];exact hc
 have x5:X2.A=X.A:=by rw [<-og];rfl
 have x6:X2.env=compEnvC scope cl G2.objs.size X.env:=by rw [<-og];rfl
 have x7:X2.xe=λ_ _=>False:=by rw [<-og];rfl
 have VU:PG X2 tg g:=by rw [<-og];exact hg _ _ _ _ _
 have MZ:DV X2 ifs tif:=by rw [<-og];exact VS _ _ _ _ _
 have Aw:PE X2 elt te:=by rw [<-og];exact he _ _ _ _ _
 have Pk:tn 0 h₁:=T.keep _ _ _ HY λb _ o e=>old b o e;have rD:∀{H':Hp}{j_:List (Addr×Obj)},(∀b∈fp,H' b=none)->(∀p∈j_,p.1∉fp)->∀b∈fp,w5 X2 j_ H' b:=λ{H' j_} hn hp b hb=>by
  have o4:=I4.ok;subst og;exact⟨hn b hb,(o4.OB b hb).1,o4.Dr b hb,.inl hb,(o4.OB b hb).2,λp nZ=>by
   have oE:p∈([]:List (Addr×Obj))++j_:=nZ;rw [pO] at oE;intro z;exact hp p oE (by rw [z];exact hb)⟩
 have fin:∀{s':Shared}{σ':St}{H':Hp},Inv X2 [] σ' H' s'->Q (.ref s2.heap.objs.size) H' ->
   compPost (model X.prog X.w) X.A X.xe none (EP X ah σ Q) (.ref s2.heap.objs.size) G2.objs.size (.ok .next) s':=λ{s' σ' H'} J' q=>by
  subst og;obtain⟨m',JJ,_⟩:=J'.loc;refine⟨m',JJ,λh' Oj=>?_⟩;have u:Un (Dm X.stack) fp H2 H' s2.heap s'.heap:=J'.base;have nC:∀b o,s2.heap.get? b=some o->b≠G2.objs.size:=λb o e=>by rw [JO];exact cv (vh (bN e))
  have u':Un (Dm X.stack) fp H2 H' s2.heap h':=⟨λb o e n hb hx=>(Oj.2 b (nC b o e)).trans (u.keep b o e n hb hx),λb o e n hb hx=>by
    obtain⟨sl,z⟩:=u.slot b o e n hb hx;exact⟨sl,(Oj.2 b (nC b o e)).trans z⟩,u.free,λb o e hx=>by
    obtain⟨o',z⟩:=u.there b o e hx;exact⟨o',(Oj.2 b (nC b o e)).trans z⟩,u.oZ,u.mK,u.nj⟩
  have cw:md X.prog X.w H' h':=λb ob e=>by
   refine(J'.cw b ob e).kO (λc w' lQ q'=>(Oj.2 c ?_).trans q') (λ_ q=>q) λ_ _ q=>q;intro z;have fr:H' G2.objs.size=none:=J'.free;rcases lQ with z' | z'
   .rw [<-z'] at e;rw [z,fr] at e;cases e
   rw [z,fr] at z';cases z'
  have I5:Inv X ah σ H' { s' with heap:=h' }:=I2.Ll (s':={ s' with heap:=h' }) J'.os u' cw J'.bare λb hb=>by
   obtain⟨_,f1,_,f3,f4,f5⟩:=f2 b hb;exact⟨f3,f1,f4,f5⟩
  exact⟨.ref s2.heap.objs.size,H',I5,rfl,q⟩
 have loop:∀s₃:Shared,s₃={ s2 with heap:=h₁,toks:=s2.toks+([]:List (Str×Value)).length } ->
   codeAny (model X.prog X.w) X.A (.compLoop (.ListComp elt [⟨tg,iter,ifs,0⟩] scope pos) 0 (.ref it) (.ref s2.heap.objs.size) (compEnvC scope cl G2.objs.size X.env))
    (compPost (model X.prog X.w) X.A X.xe none (EP X ah σ Q) (.ref s2.heap.objs.size) G2.objs.size) s₃:=by
  rintro s₃ rfl;subst og;refine qc (λn s'=>∃i ys σ' H',Inv (sW X scope cl G2.objs.size s2 H2 (ts++js.map (·.2)) fp) [] σ' H' s'/\tn i s'.heap/\(∀b∈fp,H' b=none)/\W i n ys σ' H') ?_ m0
   ⟨0,[],_,_,I4,Pk,λb hb=>by rw [aj (cv (Gy b hb))];exact(f2 b hb).1,w0⟩
  rintro n s' ⟨i,ys,σ0,H',J',xc,Q6,w'⟩;rcases turn i n ys σ0 H' w' with ⟨stop,q⟩ | ⟨go,m',hm,step⟩
  .refine dJ (T.done (sW X scope cl G2.objs.size s2 H2 (ts++js.map (·.2)) fp) rfl rfl rfl hc i [] s' _ H' (λ_ _=>False) J' (rD Q6 (by simp)) xc stop) (λr s4 ⟨hr,J4⟩=>?_) λ_ _ z=>z;subst hr;exact fin J4 q
  refine dJ (T.item (sW X scope cl G2.objs.size s2 H2 (ts++js.map (·.2)) fp) rfl rfl rfl hc i [] s' _ H' (λ_ _=>False) J' (rD Q6 (by simp)) xc go) (λr s4 ⟨u,hr,h4⟩=>?_) λ_ _ z=>z;subst hr;refine dJ h4 (λ_ s5 ⟨xv,H5,J5,r5,y5,Cr,Q5⟩=>?_) λ_ _ z=>z;have XF:=J5.pinned (rD Q5 (by simp)) (T.obj _ _ Cr);have back:∀{s7:Shared}{σ7:St}{H7:Hp},Inv (sW X scope cl G2.objs.size s2 H2 (ts++js.map (·.2)) fp) ([]++ph fp s5.heap) σ7 H7 s7->Inv (sW X scope cl G2.objs.size s2 H2 (ts++js.map (·.2)) fp) [] σ7 H7 s7/\tn (i+1) s7.heap/\∀b∈fp,H7 b=none:=λ{s7 σ7 H7} J7=>by
   refine⟨J7.kM,T.keep _ _ _ Cr λb hb o e=>(J7.pin (b,o) (fQ _ (fQ _ (ij hb e)))).1,λb hb=>?_⟩;obtain⟨o,e,d⟩:=T.obj _ _ Cr b hb;exact(J7.pin (b,o) (fQ _ (fQ _ (ij hb e)))).2.1
  show wpAny _ _ (assign tg (sW X scope cl G2.objs.size s2 H2 (ts++js.map (·.2)) fp).env u) _ _ s5;refine dJ (VU _ s5 _ H5 xv u _ XF r5 (step xv H5 y5)) (λ_ s6 ⟨σ6,H6,J6,q6⟩=>?_) λ_ _ z=>z;refine dJ (MZ _ s6 _ H6 _ J6 q6) (λb s7 ⟨H7,J7,q7⟩=>?_) λ_ _ z=>z;cases b with
  | false =>
   rw [ay eF] at q7 ⊢;obtain⟨J8,Ua,Wq⟩:=back J7;exact⟨m',hm,i+1,ys,σ6,H7,J8,Ua,Wq,q7⟩
  | true =>
   rw [ax rfl] at q7 ⊢;refine dJ (Aw _ s7 _ H7 _ J7 q7) (λyv s8 ⟨y,H8,J8,r8,We,Vl,w8⟩=>?_) λ_ _ z=>z;refine dJ (bU (X:=sW X scope cl G2.objs.size s2 H2 (ts++js.map (·.2)) fp) _ s8 _ H8 (.ref s2.heap.objs.size) [y] (.ref s2.heap.objs.size) [yv] (λv H'=>W (i+1) m' (ys++[y]) σ6 H') J8 rfl (.cons r8 .nil) ⟨s2.heap.objs.size,ys,y,rfl,rfl,We,Vl,w8⟩)
    (λ_ s9 ⟨_,H9,J9,_,w9⟩=>?_) λ_ _ z=>z
   obtain⟨XG,LM,Nn⟩:=back J9;exact⟨m',hm,i+1,ys++[y],σ6,H9,XG,LM,Nn,w9⟩
 exact codeAny_compStart_list (loop _ rfl) (T.self _ _ _ _ _ Pk (loop _ rfl))
def RJ (K:ba)(a:Addr):It :=
 ⟨λi H=>∃xs x,aH K H a xs/\xs[i]?=some x,λi H x H'=>∃t y,x=.ref t/\H t=none/\H'=upd H t (.tup [.int (i:Int),y])/\∀xs,aH K H a xs->xs[i]?=some y,λi H=>∃xs,aH K H a xs/\xs.length<=i⟩
def Cn {P:Program}{w:World}{K:ba}{elts:List Expr}{k:Nat}{vG:Pos}(a e it:Addr)(QT:e≠it) :
  Turn P w K (.Tuple elts k vG) (RJ K a) [e,it] e (λi h=>(∃old,IsEnum h e it i old)/\h.IsListIter it a i) where
 mem:=by simp
 obj:=λi h st b hb=>by
  obtain⟨⟨old,he⟩,o,e1,c,d⟩:=st;rcases bW.mp hb with rfl | hb
  .exact⟨_,he,λv z=>by cases z⟩
  obtain rfl:b=it:=by simpa using hb
  exact⟨o,e1,λv z=>by rw [d] at z;cases z⟩
 keep:=λi h h' st k=>⟨⟨st.1.choose,k e (by simp) _ st.1.choose_spec⟩,st.2.at λo q=>k it (by simp) o q⟩
 item:=by
  intro X hP hw hK hc i ah s σ H E I hf st hg;subst hP hw hK;obtain⟨xs,x,hq,hx⟩:=hg;obtain⟨aT,rv,p,hz⟩:=I.list hq;obtain⟨u,hu,ru⟩:=rv.get hx;obtain⟨⟨old,he⟩,hit⟩:=st;refine wpAny_pyNext_enum_item he hit p.isList (x:=u) (by simpa using hu) QT λh1 ho MY hT hsz hk=>?_;refine⟨_,rfl,wpAny_letOwnedTupleGo_enum ho λh2 V0 sb=>?_⟩;have ne:s.heap.objs.size≠e:=lU (bN he);have kk:∀b o,b≠e->b≠it->s.heap.get? b=some o->h2.get? b=some o:=λb o n1 n2 q=>(sb.2 b n1).trans (hk b o n1 n2 q);have T2:h2.get? s.heap.objs.size=some { cls:=.type "tuple",data:=.seq #[.int i s.toks,u] }:=(sb.2 _ ne).trans hT;have fe:=hf e (by simp);have fi:=hf it (by simp);have fT:H s.heap.objs.size=none:=I.cw.fresh (aF _);have tr:∀b v,H b=some v->b≠e/\b≠it:=λb v q=>⟨λz=>(by rw [z,fe.1] at q;cases q),λz=>(by rw [z,fi.1] at q;cases q)⟩;have nc:∀b,b∉[e,it]->b≠e/\b≠it:=λb z=>⟨λq=>z (by simp [q]),λq=>z (by simp [q])⟩;have lt:∀b o,s.heap.get? b=some o->b≠s.heap.objs.size:=λb o q=>cv (bN q);have I2:Inv X ah σ (upd H s.heap.objs.size (.tup [.int (i:Int),x])) { s with heap:=h2,toks:=s.toks+1 }:=by
   refine I.call (g':=s.gens) (t':=s.toks+1) (d':=s.drawn) (ch:=[e,it]) ⟨λb o q _ _ c=>kk b o (nc b c).1 (nc b c).2 q,λb o q _ _ c=>⟨o.slots,kk b o (nc b c).1 (nc b c).2 q⟩,
    λb o q n _=>by rw [aj (lt b o q)];exact n,λb o q c=>⟨o,kk b o (nc b c).1 (nc b c).2 q⟩,λb ys q=>by rw [aj (aw q fT)];exact q,λb o v q=>by rw [aj (aw q fT)];exact q,
    λb ps q=>⟨#[],by rw [aj (aw q fT),q];simp⟩⟩ (λb v q=>?_) I.bare (λb hb=>?_)
   .by_cases hb:b=s.heap.objs.size
    .subst hb;rw [ae] at q;cases q;exact⟨by show 2<=sizeLine;decide,[.int i s.toks,u],.cons ⟨_,rfl⟩ (.cons ru .nil),_,T2,rfl,_,rfl⟩
    rw [aj hb] at q;refine(I.cw b v q).kO (λc o lQ z=>?_) (λc q'=>by rw [aj (aw q' fT)];exact q') λc ys q'=>by rw [aj (aw q' fT)];exact q'
    rcases lQ with rfl | lQ
    .exact kk c o (tr c _ q).1 (tr c _ q).2 z
    exact kk c o (tr c _ lQ).1 (tr c _ lQ).2 z
   rcases bW.mp hb with rfl | hb
   .exact⟨fe.2.2.2.1,fe.2.1,fe.2.2.2.2.1,fe.2.2.2.2.2⟩
   obtain rfl:b=it:=by simpa using hb
   exact⟨fi.2.2.2.1,fi.2.1,fi.2.2.2.2.1,fi.2.2.2.2.2⟩
  refine⟨.ref s.heap.objs.size,_,I2,rfl,⟨_,x,rfl,fT,rfl,λys hy=>by rw [I.rY hy hq];exact hx⟩,⟨⟨_,V0⟩,MY.at λo q=>(sb.2 it QT.symm).trans q⟩,λb hb=>?_⟩;have Ik:H b=none/\∃o,s.heap.get? b=some o:=by
   rcases bW.mp hb with rfl | hb
   .exact⟨fe.1,_,he⟩
   obtain rfl:b=it:=by simpa using hb
   obtain⟨o,q,_⟩:=hit;exact⟨fi.1,o,q⟩
  obtain⟨n,o,q⟩:=Ik;rw [aj (lt b o q)];exact n
 done:=by
  intro X hP hw hK hc i ah s σ H E I hf st hg;subst hP hw hK;obtain⟨xs,hq,hx⟩:=hg;obtain⟨aT,rv,p,hz⟩:=I.list hq;obtain⟨⟨old,he⟩,hit⟩:=st;obtain⟨f0,f1,f2,f3,f4,f5⟩:=hf it (by simp);have hl:=rv.length;exact wpAny_pyNext_enum_end (I.ok.hd hc) he hit p.isList (by simp;omega) λh' eb=>⟨rfl,I.turned (t':=s.toks) (λb o hb e=>eb b o hb e) f0 f1 f3 f4 f5⟩
 self:=λ_ _ _ _ _ st h=>wpAny_pyIter_enum st.1.choose_spec h
def uU:bootBuiltins "enumerate"=some (.type "enumerate"):=by decide +kernel
def Qq (K:ba)(ta:TA):TI:=λσ H R=>ta σ H λvs H1=>∃a xs,vs=[.ref a]/\aH K H1 a xs/\R (RJ K a) H1
def nQ {X:Cx}{elts:List Expr}{k:Nat}{vG:Pos}{l:Expr}{ta:TA}{p pos:Pos}(hg:Gl X "enumerate")(hm:X.mg "enumerate"=none)(ha:PA X [l] ta)(hs:starEach [l] X.env=[(false,eval l X.env)]:=by rfl) :
  PI X (.Tuple elts k vG) (.Call (.Name "enumerate" p) [l] [] pos) (Qq X.K ta):=by
 intro ah s σ H R I h;refine Call_ (jV I hg hm uU (vC (cQ (ha pos ah s σ H _ I h) λus s1 ⟨vs,H1,I1,r1,q1⟩=>?_) hs rfl));obtain⟨a,xs,e,hq,q⟩:=q1;subst e;obtain⟨u,rfl,rx⟩:=r1.one;cases rx;obtain⟨aT,rv,pl,hz⟩:=I1.list hq;refine call_enumerate_list pl.isList λh1 he hit hsz hk=>wpAny_pyIter_enum he ?_;refine⟨s1.heap.objs.size+1,[s1.heap.objs.size+1,s1.heap.objs.size],_,_,H1,rfl,I1.kept (t':=s1.toks) λb o e=>hk b o e,Cn a _ _ (lU (pQ _)),⟨⟨_,he⟩,hit⟩,λb hb=>?_,q⟩;rcases bW.mp hb with rfl | hb
 .exact I1.wK (me _) (I1.cw.fresh (me _))
 obtain rfl:b=s1.heap.objs.size:=by simpa using hb
 exact I1.wK (aF _) (I1.cw.fresh (aF _))
def df (kvs bV:List (aR×V)):List (aR×V):=kvs.foldl (λa p=>bT a p.1 p.2) bV
theorem sM:∀{kvs:List (aR×V)}{vs:List (aR×Value)}{bV:List (aR×V)}{Hv:List (aR×Value)},KV kvs vs->KV bV Hv->KV (df kvs bV) (vs.foldl (λa p=>stored a p.1 p.2) Hv)
 | _,_,_,_,.nil,h=>h
 | _,_,_,_,.cons (a:=p) (b:=q) r t,h=>by
  obtain⟨e,rv⟩:=r;show KV (df _ (bT _ p.1 p.2)) (List.foldl _ (stored _ q.1 q.2) _);rw [<-e];exact sM t (h.put p.1 rv)
theorem sN:∀(kvs bV:List (aR×V)),(df kvs bV).length<=bV.length+kvs.length
 | [],bV=>by simp [df]
 | p::r,bV=>by
  have:=sN r (bT bV p.1 p.2);have:=gb bV p.1 p.2;show (df r (bT bV p.1 p.2)).length<=_;rw [dY];omega
section
variable {X:Cx}{ah:List (Addr×Obj)}{σ:St}{H:Hp}{s:Shared}
theorem pairs_at (I:Inv X ah σ H s):∀{ts:List Addr}{kvs:List (aR×V)}{aT:List Value},Paired (λt kv=>aS X.K H t [kV kv.1,kv.2]) ts kvs->bf (ts.map V.ref) aT ->
  ∃vs:List (aR×Value),KV kvs vs/\Paired (λu kv=>mN (bA X.prog X.w) s.heap u kv) aT vs
 | [],_,_,.nil,r=>by
  rw [mh] at r;cases r;exact⟨[],.nil,.nil⟩
 | t::ts,kv::kvs,_,.cons h p,r=>by
  rw [cO] at r;cases r with
  | cons r1 r2 =>
   obtain⟨vs,e1,e2⟩:=pairs_at I p r2;obtain⟨aT,rv,⟨o,h1,h2,n,h3⟩,_⟩:=I.tuple h;obtain⟨u1,u2,rfl,q1,q2⟩:=vals2 rv;exact⟨(kv.1,u2)::vs,.cons ⟨rfl,q2⟩ e1,.cons ⟨t,u1,n,o,r1,l7 q1,h1,h2,h3⟩ e2⟩
theorem Paired.at_ {α β:Type}{F:α->β->Prop}:∀{xs:List α}{ys:List β},Paired F xs ys->∀(m:Nat)(y:β),ys[m]?=some y->∃x,xs[m]?=some x/\F x y
 | _,_,.nil,m,y,e=>by cases m <;> cases e
 | _,_,.cons h t,0,y,e=>by cases e;exact⟨_,rfl,h⟩
 | _,_,.cons h t,m+1,y,e=>Paired.at_ t m y e
def dS (hc:X.calm=true):iC X (.type "dict") (λxs H Q=>∃a ts kvs,xs=[.ref a]/\H a=some (.lst (ts.map V.ref))/\Paired (λt kv=>aS X.K H t [kV kv.1,kv.2]) ts kvs/\∀d,H d=none->Q (.ref d) (upd H d (.dK (df kvs [])))):=by
 intro ah s σ H xs us Q I r h;obtain⟨a,ts,kvs,rfl,e,p,q⟩:=h;obtain⟨u,rfl,rx⟩:=vals1 r;cases (show u=Value.ref a from rx);obtain⟨z,aT,n,rv,ho⟩:=(show cR X.prog X.w H s.heap a (.lst _) from I.cw a _ e);obtain⟨vs,r1,r2⟩:=pairs_at I p rv;have l1:=aU r2;have l2:=r1.length;have l3:=aU p;rw [au] at z;refine tD (bA X.prog X.w) (I.ok.hd hc) ho (by simpa using l1) (λm kv em=>?_) ∅ λh' t' hd kk=>?_
 .obtain⟨u,e1,e2⟩:=Paired.at_ r2 m kv em;exact⟨u,by simpa using e1,e2⟩
 have new:cR X.prog X.w (upd H s.heap.objs.size (.dK (df kvs []))) h' s.heap.objs.size (.dK (df kvs [])):=by
  refine sU ?_ ?_ (sM r1 .nil) hd
  .have:=sN kvs [];simp at this;omega
  have:=I.big;exact kC.mpr (lU this)
 exact⟨.ref s.heap.objs.size,_,I.laid (t':=t') kk (aF _) new,rfl,q _ (I.cw.fresh (aF _))⟩
theorem uz {α β:Type}{F:α->β->Prop}:∀{xs:List α}{ys:List β},xs.length=ys.length->(∀(j:Nat) x y,xs[j]?=some x->ys[j]?=some y->F x y)->Paired F xs ys
 | [],[],_,_=>.nil
 | [],_::_,e,_=>by cases e
 | _::_,[],e,_=>by cases e
 | x::xs,y::ys,e,h=>.cons (h 0 x y rfl rfl) (uz (Nat.succ.inj e) λj a b e1 e2=>h (j+1) a b e1 e2)
def KW {P:Program}{w:World}{k:aR}{u:Value}(h:(bA P w).is k u=true):RelV (kV k) u:=by
 rcases dD (show rZ k u=true from h) with ⟨i,t,rfl,rfl⟩ | ⟨x,t,rfl,rfl⟩
 .exact⟨t,rfl⟩
 exact⟨t,rfl⟩
def mM (hc:X.calm=true):iC X (.type "list") (λxs H Q=>∃a kvs,xs=[.ref a]/\H a=some (.dK kvs)/\∀D,H D=none->Q (.ref D) (upd H D (.lst (kvs.map λp=>kV p.1)))):=by
 intro ah s σ H xs us Q I r h;obtain⟨a,kvs,rfl,e,q⟩:=h;obtain⟨u,rfl,rx⟩:=vals1 r;cases (show u=Value.ref a from rx);obtain⟨z,hs,vs,rel,dd⟩:=yq I.cw e;obtain⟨o,es,ep,d1,d2,d3,d4⟩:=dd;have l1:=rel.length;refine PySem.W.kdl_call (PySem.W.kdl_dict (knd:=bA X.prog X.w) (kvs:=vs) (ep:=ep) hs) (I.ok.hd hc) ⟨o,es,d1,d2,d3,d4⟩ ∅ λh' tk bV c kk hD Di=>?_;have keys:=rel.keys;have vals:bf (kvs.map λp=>kV p.1) bV.toList:=by
  refine uz (by have h1:=Di.1;simp only [au,rg];omega) λj x y e1 e2=>?_;rw [Array.getElem?_toList] at e2;obtain⟨k,v,e3,e4⟩:=Di.2 j y e2;rw [bz] at e1;obtain⟨p,e5,rfl⟩:=cC.mp e1;have e6:(kvs.map (·.1))[j]?=some p.1:=by rw [bz,e5];rfl
  rw [keys,bz,e3] at e6;cases e6;exact KW e4
 have new:cR X.prog X.w (upd H s.heap.objs.size (.lst (kvs.map λp=>kV p.1))) h' s.heap.objs.size (.lst (kvs.map λp=>kV p.1)):=⟨by rw [au];exact z,bV.toList,c,vals,by simpa using hD⟩;exact⟨.ref s.heap.objs.size,_,I.laid (t':=tk) kk (aF _) new,rfl,q _ (I.cw.fresh (aF _))⟩
end
def wY (v:V):Prop:=ib v=true\/∃r,v=.ref r
def G7 {x:V}(h:ib x=true):uL x x=true:=by
 cases x with
 | fg=>rfl
 | bl b=>exact oT b
 | int i=>exact oT i
 | str z=>exact oT z
 | _=>cases h
def sQ {A:Around}{s:Shared}{x:V}{u v:Value}(h:wY x)(ru:RelV x u)(rv:RelV x v):SeqAt.EqAt A s u v true:=by
 rcases h with h | ⟨r,rfl⟩
 .have q:=AJ (A:=A) (s:=s) ru rv h h;rw [G7 h] at q;exact q
 cases (show u=Value.ref r from ru);cases (show v=Value.ref r from rv);exact .same _
section
variable {K:ba}{a D:Addr}{xs:List V}{ts:List Str}{js:List (Nat×Str)}{g:TG}{tif:TT}{te:TE}{R:Hp->Prop}{σ:St}{H:Hp}
def cM (Pv:Nat->List V->St->Hp->Prop)(h0:Pv 0 [] (eU ts js σ) (upd H D (.lst [])))(hl:∀i ys σ H,i<=xs.length->Pv i ys σ H->aH K H a xs)
  (hs:∀i x ys σ H,xs[i]?=some x->Pv i ys σ H->g x σ H λσ2 H2=>tif σ2 H2 λb H3=>if b=true then te σ2 H3 λy H4=>H4 D=some (.lst ys)/\ys.length < sizeLine/\Pv (i+1) (ys++[y]) σ2 (upd H4 D (.lst (ys++[y]))) else Pv (i+1) ys σ2 H3)
  (hd:∀ys σ H,Pv xs.length ys σ H->R H) :
  ∃W:Nat->Nat->List V->St->Hp->Prop,(∃m,W 0 m [] (eU ts js σ) (upd H D (.lst []))) /\
 ∀i m ys σ' H,W i m ys σ' H->((ke K a).stop i H/\R H)\/((ke K a).go i H/\∃m',m' < m/\∀x H',(ke K a).mP i H x H'->g x σ' H' λσ2 H2=>tif σ2 H2 λb H3 =>
  if b=true then te σ2 H3 λy H4=>H4 D=some (.lst ys)/\ys.length < sizeLine/\W (i+1) m' (ys++[y]) σ2 (upd H4 D (.lst (ys++[y]))) else W (i+1) m' ys σ2 H3):=by
 refine⟨λi m ys σ H=>m=xs.length - i/\i<=xs.length/\Pv i ys σ H,⟨xs.length,by simp,dW _,h0⟩,?_⟩;rintro i m ys σ' H ⟨rfl,hi,p⟩;have q:=hl i ys σ' H hi p;by_cases kj:i < xs.length
 .refine .inr ⟨⟨xs,xs[i],q,by simp [kj]⟩,xs.length - (i+1),∅,λx H' y=>?_⟩;obtain⟨e,y⟩:=y;subst e;have z:=hs i x ys σ' _ (y xs q) p;have h1:(i+1<=xs.length)=True:=eq_true kj;simp only [h1,true_and];exact z
 have e:i=xs.length:=by omega
 subst e;exact .inl ⟨⟨xs,q,aF _⟩,hd ys σ' H p⟩
end
def eQ {K:ba}{t:Value}:PySem.W.kitOne K t t=some true:=by unfold PySem.W.kitOne;rw [ax (oT t)]
def Pg (t:TS):TS:=λD σ H=>∃R:St->Hp->Prop,t { D with nx:=R } σ H/\∀σ' H',R σ' H'->D.nx σ' H'
def iK {X:Cx}{st:Stmt}{t:TS}(h:PS X st t):PS X st (Pg t):=by
 intro ah s σ H D I ⟨R,q,m⟩;refine cQ (h ah s σ H _ I q) λf s1 z=>?_;cases f with
 | next=>obtain⟨σ',H',I',r⟩:=z;exact⟨σ',H',I',m _ _ r⟩
 | ret v=>exact z
 | brk=>exact z
 | cont=>exact z
def aC (P:Program)(w:World)(K:ba)(mg:Str->Option Value)(base:Heap) (k:Nat)(x:Str) (ps:List Str)(sp:Sp):Prop :=
 ∃f fd,bR P w K mg base gk k f fd ps sp/\Binds K fd ps []/\PySem.W.keepIn K (.ref f)=true/\mg x=some (.ref f)
theorem aC.mono {P:Program}{w:World}{K:ba}{mg:Str->Option Value}{base:Heap}{j k:Nat}{x:Str}{ps:List Str}{sp:Sp}(c:aC P w K mg base j x ps sp)(h:j<=k):aC P w K mg base k x ps sp :=
 let ⟨f,fd,a,b⟩:=c;⟨f,fd,a.mono h,b⟩
def bp {X:Cx}{k:Nat}{x:Str}{ps:List Str}{sp:Sp}{e:Expr}{es:List Expr}{t:TA}{p pos:Pos}(c:aC X.prog X.w X.K X.mg X.base k x ps sp)(hr:fX k X.A)(hg:Gl X x)(ha:PA X (e::es) t)
  (Df:(x == ("__debug__":Str))=false:=by decide)(he:starEach (e::es) X.env=(false,eval e X.env)::starEach es X.env:=by rfl)(BO:(backTo pos (starEach es X.env)).any (·.1)=false:=by rfl) :
  PE X (.Call (.Name x p) (e::es) [] pos) (Kk sp [] E0 t):=by
 obtain⟨f,fd,G,b,kp,m⟩:=c;exact Jm G hr hg m kp b .nil ux ha Df he BO
def fits {n:Nat}(h:n<=1000000):n<=sizeLine:=dX h (by decide)
def bM {n:Nat}(h:n<=1000000):n < sizeLine:=q_ h (by decide)
def af {H:Hp}{p:Addr}(h:H p=none)(o:HO):aA H (upd H p o):=λb u q=>by rw [aj (aw q h)];exact q
def aA.tup {K:ba}{H H':Hp}{a:Addr}{xs:List V}(e:aA H H')(h:aS K H a xs):aS K H' a xs:=by
 rcases h with (h | ⟨o,h⟩) | h
 .exact .inl (.inl (e _ _ h))
 .exact .inl (.inr ⟨o,e _ _ h⟩)
 exact .inr h
def il {X:Cx}(hc:X.calm=true):iC X (.builtin "all") (λxs H Q=>∃(a:Addr)(bs:List Bool),xs=[.ref a]/\aH X.K H a (bs.map V.bl)/\Q (.bl (bs.all id)) H):=by
 intro ah s σ H xs us Q I r h;obtain⟨a,bs,rfl,hq,q⟩:=h;obtain⟨u,rfl,rx⟩:=vals1 r;cases (show u=Value.ref a from rx);obtain⟨aT,rv,pl,hz⟩:=I.list hq;obtain⟨o,h1,h2,m,h3⟩:=id pl.isList;have la:a < s.heap.objs.size:=bN h1;have ln:=rv.length;rw [au] at ln;have isB:∀(i:Nat) v,aT.toArray[i]?=some v->v=.bool (bs.getD i true):=λi v e=>by
  have e':aT[i]?=some v:=by simpa using e
  obtain⟨x,e2,e3⟩:=Paired.at_ rv i v e';rw [bz] at e2;obtain⟨b,e4,rfl⟩:=cC.mp e2;rw [xo,e4];exact e3
 refine call_all_walk (oQ pl.isList ?_);refine⟨s.heap.objs.size,_,_,_,_,_,λi=>bs.getD i true,rfl,Walks.list (A:=X.A.in1) (show X.A.in1.handled=none from I.ok.hd hc) s.heap.objs.size a (cv la) aT.toArray,⟨⟨_,dZ _ rfl,rfl,rfl⟩,⟨o,cu _ h1,h2,m,h3⟩⟩,?_,λh' tk kk=>?_⟩
 .intro i v s1 Q1 E1 hP hQ1;rw [isB i v hP];exact ku hQ1
 have e:((List.range aT.toArray.size).all λi=>bs.getD i true)=bs.all id:=by
  rw [bX,<-ln,mS,gK,gK];constructor
  .intro h b hb;obtain⟨i,hi,e⟩:=qN.mp hb;have:=h i (pN.mpr hi);rw [xo,dG hi,e] at this;exact this
  intro h i hi;have Zh:=pN.mp hi;rw [xo,dG Zh];exact h _ (qW Zh)
 rw [e];exact⟨.bl _,H,I.kept (t':=tk) λb o' e'=>kk b o' (by simp;exact cv (bN e')) (cu _ e'),rfl,q⟩
section
variable {prog:Program}{w:World}{A:Around}{E:Value->Shared->Prop}{s:Shared}
def Af {it l:Addr}{i:Nat}{items:Array Value}{x:Value}{Q:Value->Shared->Prop}(hit:s.heap.IsTupleIter it l i)(hl:s.heap.IsTuple l items)(hx:items[i]?=some x)
  (hQ:∀h',h'.IsTupleIter it l (i+1)->Heap.SameBut it s.heap h'->Q x { s with heap:=h' }):wpAny (model prog w) A (Builtin.SmallTypes.nextOf (.ref it)) Q E s:=by
 obtain⟨o,ho,hc,hd⟩:=id hit;obtain⟨ol,VG,_,nl,QV⟩:=hl;unfold Builtin.SmallTypes.nextOf;refine aE (qO (name:=Str.ofString "__next__") hit.typeIs vB (mr vB hit.typeIs F.entry_tuple_iterator_next ?_ (F.args_tuple_iterator_next_1 _)));show wpAny _ _ (field (.ref it) 0 >>= λv=>_) _ _ s;refine aE (iF ho hd (x:=.ref l) (by rfl) ?_);show wpAny _ _ (if (Value.ref l == .none)=true then _ else _) _ _ s;rw [ay (by exact eF)];show wpAny _ _ (field (.ref it) 1 >>= λv=>_) _ _ s;refine aE (iF ho hd (x:=.int i 0) (by rfl) ?_);show wpAny _ _ (seqItems? (.ref l) >>= λv=>_) _ _ s;refine aE (qP VG QV (by
  simp only [kx,hx];refine aE (wpAny_setField ho hd (by simp) (aP ⟨x,rfl,aP (hQ _ ⟨_,Heap.get?_update_self _ ho (Obj.isFreed_of_fields (Obj.data_mapFields hd _)),(Obj.cls_mapFields ..).trans hc,?_⟩ (Heap.SameBut.update ..))⟩));rw [Obj.data_mapFields hd];simp [rawInt]))
def AK {e it l:Addr}{i:Nat}{items:Array Value}{x old:Value}{Q:Option Value->Shared->Prop}(he:IsEnum s.heap e it i old)(hit:s.heap.IsTupleIter it l i)(hl:s.heap.IsTuple l items)(hx:items[i]?=some x)(qF:e≠it)
  (hQ:∀h',IsEnumOut h' e it ((i:Int)+1) x s.heap.objs.size->h'.IsTupleIter it l (i+1)->h'.get? s.heap.objs.size=some { cls:=.type "tuple",data:=.seq #[.int i s.toks,x] } ->
   (∀b o,b≠e->b≠it->s.heap.get? b=some o->h'.get? b=some o)->Q (some (.ref s.heap.objs.size)) { s with heap:=h',toks:=s.toks+1 }) :
  wpAny (model prog w) A (pyNext (.ref e)) Q E s:=by
 have hT:s.TypeIs (.ref e) "enumerate" := ⟨_,he,rfl⟩;unfold pyNext;refine aE (wpAny_attempt (qO (name:=Str.ofString "__next__") hT vp (mr vp hT F.entry_enumerate_next ?_ (F.args_enumerate_next_1 _))));obtain⟨hp,g,d,tk,os⟩:=s;show wpAny _ _ (field (.ref e) 2 >>= λv=>_) _ _ _;refine aE (iF he rfl (x:=.ref it) (by rfl) (aE (Af hit hl hx λh₁ VR QB=>?_)));replace QB:Heap.SameBut it hp h₁:=QB;have VZ:IsEnum h₁ e it i old:=(QB.2 e qF).trans he;show wpAny _ _ (field (.ref e) 3 >>= λv=>_) _ _ ⟨h₁,g,d,tk,os⟩;refine aE (iF VZ rfl (x:=rawInt i) (by rfl) ?_);show wpAny _ _ (field (.ref e) 4 >>= λv=>_) _ _ ⟨h₁,g,d,tk,os⟩;refine aE (iF VZ rfl (x:=.none) (by rfl) ?_);show wpAny _ _ (mkInt i >>= λv=>_) _ _ ⟨h₁,g,d,tk,os⟩;refine aE (wpAny_mkInt ?_);show wpAny _ _ (setField (.ref e) 3 (rawInt ((i:Int)+1)) >>= λv=>_) _ _ ⟨h₁,g,d,tk+1,os⟩;refine aE (qZ VZ (by simp) λh₂ f₂ hs₂=>?_);have he₂:IsEnum h₂ e it ((i:Int)+1) old:=f₂;have k₂:Heap.SameBut e h₁ h₂:=hs₂;show wpAny _ _ (setField (.ref e) 4 .none >>= λv=>_) _ _ ⟨h₂,g,d,tk+1,os⟩;refine aE (qZ he₂ (by simp) λh₃ f₃ hs₃=>?_);have he₃:IsEnum h₃ e it ((i:Int)+1) old:=f₃;have k₃:Heap.SameBut e h₂ h₃:=hs₃;show wpAny _ _ (newTuple [.int i tk,x] >>= λv=>_) _ _ ⟨h₃,g,d,tk+1,os⟩;refine aE (wpAny_newTuple ?_);have SE:IsEnum (h₃.push { cls:=.type "tuple",data:=.seq #[.int i tk,x] }) e it ((i:Int)+1) old:=cu _ he₃;have hsz:h₃.objs.size=hp.objs.size:=by rw [k₃.1,k₂.1,QB.1]
 have QS:e < hp.objs.size:=bN he;have Y6:(h₃.push { cls:=.type "tuple",data:=.seq #[.int i tk,x] }).get? hp.objs.size=some { cls:=.type "tuple",data:=.seq #[.int i tk,x] }:=by rw [<-hsz];exact dZ _ rfl
 have Zd:∀b o,b≠e->b≠it->hp.get? b=some o->(h₃.push { cls:=.type "tuple",data:=.seq #[.int i tk,x] }).get? b=some o:=λb o n1 n2 hb=>cu _ (k₃.extBut b o n1 (k₂.extBut b o n1 (QB.extBut b o n2 hb)));have QO:(h₃.push { cls:=.type "tuple",data:=.seq #[.int i tk,x] }).IsTupleIter it l (i+1):=VR.at λo q=>cu _ (k₃.extBut it o (gB qF) (k₂.extBut it o (gB qF) q));generalize h₃.push { cls:=.type "tuple",data:=.seq #[.int i tk,x] }=h₄ at SE Y6 Zd QO ⊢;rw [hsz];show wpAny _ _ (Builtin.SmallTypes.ownedTupleIsFree (.ref e) >>= λv=>_) _ _ ⟨h₄,g,d,tk+1,os⟩;refine aE (by
  unfold Builtin.SmallTypes.ownedTupleIsFree;refine aE (iF SE rfl (x:=.none) (by rfl) (aP (by
   simp only [if_true];refine aE (wpAny_rule (aE (iF SE rfl (x:=old) (by rfl) (aE (qZ SE (by simp) λh₅ f₅ hs₅=>?_)))));have he₅:IsEnum h₅ e it ((i:Int)+1) x:=f₅;have k₅:Heap.SameBut e h₄ h₅:=hs₅;show wpAny _ _ (Builtin.SmallTypes.ownedTupleHandOut (.ref e) (.ref hp.objs.size) >>= λv=>_) _ _ ⟨h₅,g,d,tk+1,os⟩;refine aE (by
    unfold Builtin.SmallTypes.ownedTupleHandOut;refine aE (qZ he₅ (by simp) λh₆ f₆ hs₆=>?_);have he₆:IsEnumOut h₆ e it ((i:Int)+1) x hp.objs.size:=f₆;have k₆:Heap.SameBut e h₅ h₆:=hs₆;refine qZ he₆ (by simp) λh₇ f₇ hs₇=>?_;have he₇:IsEnumOut h₇ e it ((i:Int)+1) x hp.objs.size:=f₇;have k₇:Heap.SameBut e h₆ h₇:=hs₇;have up:∀b o,b≠e->h₄.get? b=some o->h₇.get? b=some o:=λb o n q=>k₇.extBut b o n (k₆.extBut b o n (k₅.extBut b o n q));exact aE (wpAny_letGo (aP ⟨_,rfl,aP (hQ h₇ he₇ (QO.at λo q=>up it o (gB qF) q) (up _ _ (lU QS) Y6) λb o n1 n2 q=>up b o n1 (Zd b o n1 n2 q))⟩)))))))
def rW {it l:Addr}{i:Nat}{items:Array Value}{Q:Value->Shared->Prop}(hh:A.handled=none)(hit:s.heap.IsTupleIter it l i)(hl:s.heap.IsTuple l items)(hx:items[i]?=none)
  (hE:∀h' e,Heap.ExtBut it s.heap h'->(∃o,h'.get? e=some o/\o.cls=.type "StopIteration")->E (.ref e) { s with heap:=h' }):wpAny (model prog w) A (Builtin.SmallTypes.nextOf (.ref it)) Q E s:=by
 obtain⟨o,ho,hc,hd⟩:=id hit;obtain⟨ol,VG,_,nl,QV⟩:=hl;unfold Builtin.SmallTypes.nextOf;refine aE (qO (name:=Str.ofString "__next__") hit.typeIs vB (mr vB hit.typeIs F.entry_tuple_iterator_next ?_ (F.args_tuple_iterator_next_1 _)));show wpAny _ _ (field (.ref it) 0 >>= λv=>_) _ _ s;refine aE (iF ho hd (x:=.ref l) (by rfl) ?_);show wpAny _ _ (if (Value.ref l == .none)=true then _ else _) _ _ s;rw [ay (by exact eF)];show wpAny _ _ (field (.ref it) 1 >>= λv=>_) _ _ s;refine aE (iF ho hd (x:=.int i 0) (by rfl) ?_);show wpAny _ _ (seqItems? (.ref l) >>= λv=>_) _ _ s;refine aE (qP VG QV ?_);simp only [kx,hx];refine aE (wpAny_rule (aE (wpAny_setField ho hd (by simp) (aE ?_))));simp only [newExc,newTuple];refine aE (jq ?_ (by size_fits));refine aE (m:=firstArgMember _ _) (wpAny_of_eq (a:=Value.none) (by first | rfl | (simp only [firstArgMember];rfl)) ?_)
 refine jq ?_ (by size_fits);simp only [raiseNew];refine aE (wpAny_handled ?_)
 first | rw [show A.in1.handled=none from hh] | rw [hh]
 refine aE (aP (wpAny_throw (hE _ _ (((Heap.SameBut.update ..).extBut.push _).push _) ⟨_,dZ _ rfl,rfl⟩)))
def Dt {e it l:Addr}{i:Nat}{items:Array Value}{old:Value}{Q:Option Value->Shared->Prop}(hh:A.handled=none)(he:IsEnum s.heap e it i old)(hit:s.heap.IsTupleIter it l i)(hl:s.heap.IsTuple l items)(hx:items[i]?=none)
  (hQ:∀h',Heap.ExtBut it s.heap h'->Q none { s with heap:=h' }):wpAny (model prog w) A (pyNext (.ref e)) Q E s:=by
 have hT:s.TypeIs (.ref e) "enumerate" := ⟨_,he,rfl⟩;unfold pyNext;refine aE (wpAny_attempt (qO (name:=Str.ofString "__next__") hT vp (mr vp hT F.entry_enumerate_next ?_ (F.args_enumerate_next_1 _))));show wpAny _ _ (field (.ref e) 2 >>= λv=>_) _ _ _;refine aE (iF he rfl (x:=.ref it) (by rfl) (aE (rW hh hit hl hx λh' x Aw Vo=>?_)));obtain⟨o,ho,hc⟩:=Vo;exact aE (wpAny_isInstance (T := "StopIteration") (b:=true) ⟨o,ho,hc⟩ isSubtype_stop (aP (hQ _ Aw)))
end
def yc (l:Addr)(items:Array Value) (n:Nat)(AN:Option Addr)(sl:Array (Option Value)) :
  Meets (Builtin.«enumerate.__new__» ⟨[.type "enumerate",.ref l],[]⟩) (λ_ R s=>s.heap.get? l=some { cls:=.type "tuple",dict:=AN,data:=.seq items n,slots:=sl } /\
   R (.ok (.ret (.ref (s.heap.push { cls:=.type "tuple_iterator",data:=.fields #[.ref l,.int 0 0] }).objs.size)))
    { s with heap:=(s.heap.push { cls:=.type "tuple_iterator",data:=.fields #[.ref l,.int 0 0] }).push { cls:=.type "enumerate",data:=.fields #[.none,.bool false,.ref s.heap.objs.size,rawInt 0,.none,.none] } }) :=
 .of_wp λprog w A R s h=>by
  obtain⟨hp,g,d,tk,os⟩:=s;obtain⟨hl,h⟩:=h;have aal:=sub_enumerate;have hT:Heap.IsTuple (Shared.heap ⟨hp,g,d,tk,os⟩) l items:=⟨_,hl,rfl,n,rfl⟩
  wp_walk using vx hl
  refine wpAny_stack_any λst=>aP ?_;split
  .rename_i c _ _ _ _ _
   cases (c == Value.type "enumerate")
   .wp_walk using vx hl,vc hT;exact⟨_,rfl,h⟩
   wp_walk using vx hl,vc hT;exact⟨_,rfl,h⟩
  wp_walk using vx hl,vc hT;exact⟨_,rfl,h⟩
section
variable {prog:Program}{w:World}{A:Around}{E:Value->Shared->Prop}{s:Shared}
def AQ {l:Addr}{items:Array Value}{Q:Value->Shared->Prop}(hL:s.heap.IsTuple l items)
  (h:∀h',IsEnum h' (s.heap.objs.size+1) s.heap.objs.size 0 .none->h'.IsTupleIter s.heap.objs.size l 0->(∀b o,s.heap.get? b=some o->h'.get? b=some o)->Q (.ref (s.heap.objs.size+1)) { s with heap:=h' }) :
  wpAny (model prog w) A (call (.type "enumerate") [.ref l]) Q E s:=by
 obtain⟨⟨c,AN,dt,sl⟩,hl,hc,n,hd⟩:=hL;replace hc:c=.type "tuple" := hc;replace hd:dt=.seq items n:=hd;subst hc hd;refine callType_new F.called_enumerate (by decide) (F.typeCall_enumerate_1 _) (F.newCall_enumerate_1 _) (λobj=>F.args_object_init_2 obj _) F.entry_enumerate_new (yc l items n AN sl) ⟨hl,?_⟩;have hz:(s.heap.push { cls:=.type "tuple_iterator",data:=.fields #[.ref l,.int 0 0] }).objs.size=s.heap.objs.size+1:=oJ ..;show _/\_;rw [hz];have he:IsEnum ((s.heap.push { cls:=.type "tuple_iterator",data:=.fields #[.ref l,.int 0 0] }).push { cls:=.type "enumerate",data:=.fields #[.none,.bool false,.ref s.heap.objs.size,rawInt 0,.none,.none] }) (s.heap.objs.size+1) s.heap.objs.size 0 .none:=by
  have:=dZ (s.heap.push { cls:=.type "tuple_iterator",data:=.fields #[.ref l,.int 0 0] }) (o:={ cls:=.type "enumerate",data:=.fields #[.none,.bool false,.ref s.heap.objs.size,rawInt 0,.none,.none] }) rfl;rw [hz] at this;exact this
 exact⟨⟨_,he,rfl⟩,h _ he ⟨_,cu _ (dZ _ rfl),rfl,rfl⟩ λb o x=>cu _ (cu _ x)⟩
end
def tI (K:ba)(a:Addr):It :=
 ⟨λi H=>∃xs x,aS K H a xs/\xs[i]?=some x,λi H x H'=>∃t y,x=.ref t/\H t=none/\H'=upd H t (.tup [.int (i:Int),y])/\∀xs,aS K H a xs->xs[i]?=some y,λi H=>∃xs,aS K H a xs/\xs.length<=i⟩
def zu {P:Program}{w:World}{K:ba}{elts:List Expr}{k:Nat}{vG:Pos}(a e it:Addr)(QT:e≠it) :
  Turn P w K (.Tuple elts k vG) (tI K a) [e,it] e (λi h=>(∃old,IsEnum h e it i old)/\h.IsTupleIter it a i) where
 mem:=by simp
 obj:=λi h st b hb=>by
  obtain⟨⟨old,he⟩,o,e1,c,d⟩:=st;rcases bW.mp hb with rfl | hb
  .exact⟨_,he,λv z=>by cases z⟩
  obtain rfl:b=it:=by simpa using hb
  exact⟨o,e1,λv z=>by rw [d] at z;cases z⟩
 keep:=λi h h' st k=>⟨⟨st.1.choose,k e (by simp) _ st.1.choose_spec⟩,st.2.at λo q=>k it (by simp) o q⟩
 item:=by
  intro X hP hw hK hc i ah s σ H E I hf st hg;subst hP hw hK;obtain⟨xs,x,hq,hx⟩:=hg;obtain⟨aT,rv,p,hz⟩:=I.tuple hq;obtain⟨u,hu,ru⟩:=rv.get hx;obtain⟨⟨old,he⟩,hit⟩:=st;refine AK he hit (show s.heap.IsTuple a aT.toArray from p) (x:=u) (by simpa using hu) QT λh1 ho MY hT hk=>?_;refine⟨_,rfl,wpAny_letOwnedTupleGo_enum ho λh2 V0 sb=>?_⟩;have ne:s.heap.objs.size≠e:=lU (bN he);have kk:∀b o,b≠e->b≠it->s.heap.get? b=some o->h2.get? b=some o:=λb o n1 n2 q=>(sb.2 b n1).trans (hk b o n1 n2 q);have T2:h2.get? s.heap.objs.size=some { cls:=.type "tuple",data:=.seq #[.int i s.toks,u] }:=(sb.2 _ ne).trans hT;have fe:=hf e (by simp);have fi:=hf it (by simp);have fT:H s.heap.objs.size=none:=I.cw.fresh (aF _);have tr:∀b v,H b=some v->b≠e/\b≠it:=λb v q=>⟨λz=>(by rw [z,fe.1] at q;cases q),λz=>(by rw [z,fi.1] at q;cases q)⟩;have nc:∀b,b∉[e,it]->b≠e/\b≠it:=λb z=>⟨λq=>z (by simp [q]),λq=>z (by simp [q])⟩;have lt:∀b o,s.heap.get? b=some o->b≠s.heap.objs.size:=λb o q=>cv (bN q);have I2:Inv X ah σ (upd H s.heap.objs.size (.tup [.int (i:Int),x])) { s with heap:=h2,toks:=s.toks+1 }:=by
   refine I.call (g':=s.gens) (t':=s.toks+1) (d':=s.drawn) (ch:=[e,it]) ⟨λb o q _ _ c=>kk b o (nc b c).1 (nc b c).2 q,λb o q _ _ c=>⟨o.slots,kk b o (nc b c).1 (nc b c).2 q⟩,
    λb o q n _=>by rw [aj (lt b o q)];exact n,λb o q c=>⟨o,kk b o (nc b c).1 (nc b c).2 q⟩,λb ys q=>by rw [aj (aw q fT)];exact q,λb o v q=>by rw [aj (aw q fT)];exact q,
    λb ps q=>⟨#[],by rw [aj (aw q fT),q];simp⟩⟩ (λb v q=>?_) I.bare (λb hb=>?_)
   .by_cases hb:b=s.heap.objs.size
    .subst hb;rw [ae] at q;cases q;exact⟨by show 2<=sizeLine;decide,[.int i s.toks,u],.cons ⟨_,rfl⟩ (.cons ru .nil),_,T2,rfl,_,rfl⟩
    rw [aj hb] at q;refine(I.cw b v q).kO (λc o lQ z=>?_) (λc q'=>by rw [aj (aw q' fT)];exact q') λc ys q'=>by rw [aj (aw q' fT)];exact q'
    rcases lQ with rfl | lQ
    .exact kk c o (tr c _ q).1 (tr c _ q).2 z
    exact kk c o (tr c _ lQ).1 (tr c _ lQ).2 z
   rcases bW.mp hb with rfl | hb
   .exact⟨fe.2.2.2.1,fe.2.1,fe.2.2.2.2.1,fe.2.2.2.2.2⟩
   obtain rfl:b=it:=by simpa using hb
   exact⟨fi.2.2.2.1,fi.2.1,fi.2.2.2.2.1,fi.2.2.2.2.2⟩
  refine⟨.ref s.heap.objs.size,_,I2,rfl,⟨_,x,rfl,fT,rfl,λys hy=>by rw [I.ue hy hq];exact hx⟩,⟨⟨_,V0⟩,MY.at λo q=>(sb.2 it QT.symm).trans q⟩,λb hb=>?_⟩;have Ik:H b=none/\∃o,s.heap.get? b=some o:=by
   rcases bW.mp hb with rfl | hb
   .exact⟨fe.1,_,he⟩
   obtain rfl:b=it:=by simpa using hb
   obtain⟨o,q,_⟩:=hit;exact⟨fi.1,o,q⟩
  obtain⟨n,o,q⟩:=Ik;rw [aj (lt b o q)];exact n
 done:=by
  intro X hP hw hK hc i ah s σ H E I hf st hg;subst hP hw hK;obtain⟨xs,hq,hx⟩:=hg;obtain⟨aT,rv,p,hz⟩:=I.tuple hq;obtain⟨⟨old,he⟩,hit⟩:=st;obtain⟨f0,f1,f2,f3,f4,f5⟩:=hf it (by simp);have hl:=rv.length;exact Dt (I.ok.hd hc) he hit (show s.heap.IsTuple a aT.toArray from p) (by simp;omega) λh' eb=>⟨rfl,I.turned (t':=s.toks) (λb o hb e=>eb b o hb e) f0 f1 f3 f4 f5⟩
 self:=λ_ _ _ _ _ st h=>wpAny_pyIter_enum st.1.choose_spec h
def MP (K:ba)(ta:TA):TI:=λσ H R=>ta σ H λvs H1=>∃a xs,vs=[.ref a]/\aS K H1 a xs/\R (tI K a) H1
def nP {X:Cx}{elts:List Expr}{k:Nat}{vG:Pos}{l:Expr}{ta:TA}{p pos:Pos}(hg:Gl X "enumerate")(hm:X.mg "enumerate"=none)(ha:PA X [l] ta)(hs:starEach [l] X.env=[(false,eval l X.env)]:=by rfl) :
  PI X (.Tuple elts k vG) (.Call (.Name "enumerate" p) [l] [] pos) (MP X.K ta):=by
 intro ah s σ H R I h;refine Call_ (jV I hg hm uU (vC (cQ (ha pos ah s σ H _ I h) λus s1 ⟨vs,H1,I1,r1,q1⟩=>?_) hs rfl));obtain⟨a,xs,e,hq,q⟩:=q1;subst e;obtain⟨u,rfl,rx⟩:=r1.one;cases rx;obtain⟨aT,rv,pl,hz⟩:=I1.tuple hq;refine AQ (show s1.heap.IsTuple a aT.toArray from pl) λh1 he hit hk=>wpAny_pyIter_enum he ?_;refine⟨s1.heap.objs.size+1,[s1.heap.objs.size+1,s1.heap.objs.size],_,_,H1,rfl,I1.kept (t':=s1.toks) λb o e=>hk b o e,zu a _ _ (lU (pQ _)),⟨⟨_,he⟩,hit⟩,λb hb=>?_,q⟩;rcases bW.mp hb with rfl | hb
 .exact I1.wK (me _) (I1.cw.fresh (me _))
 obtain rfl:b=s1.heap.objs.size:=by simpa using hb
 exact I1.wK (aF _) (I1.cw.fresh (aF _))
open PySem PySem.Spec PyProof.Rows PySem.W
def kc (c':Addr)(qual:Str):HO:=.ext λh=>h.CodeRec (.ref c') qual
def pj (f:Addr)(o:Obj):HO:=.ext λh=>h.get? f=some o
def yC {P:Program}{w:World}{H:Hp}{h:Heap}{c':Addr}{qual:Str}(hr:h.CodeRec (.ref c') qual):cR P w H h c' (kc c' qual):=by
 obtain⟨c2,oc,vs,t,e,yW,hd,hv⟩:=id hr;cases e;exact⟨hr,⟨oc,yW⟩,λh1 h2 ⟨c3,oc3,vs3,t3,e3,VI,ji,Oi⟩ k=>by cases e3;exact⟨_,oc3,vs3,t3,rfl,k _ VI,ji,Oi⟩⟩
def qD {P:Program}{w:World}{H:Hp}{h:Heap}{f:Addr}{o:Obj}(e:h.get? f=some o):cR P w H h f (pj f o):=⟨e,⟨o,e⟩,λ_ _ q k=>k _ q⟩
def Tab (T:Addr)(pos:Pos)(qual:Str)(H:Hp):Prop :=
 ∃ps,H T=some (.tL ps)/\TriplesOk ps.toList/\(codeAmong pos ps.toList=none\/∃c',codeAmong pos ps.toList=some (.ref c')/\H c'=some (kc c' qual))
def cW (T:Addr)(H H':Hp):Prop:=∀b o,b≠T->H b=some o->H' b=some o
def tJ (mg:Str->Option Value)(base:Heap):Prop :=
 ∃bm o,mg "__builtins__"=some (.ref bm)/\bm≠builtinsNs/\bm≠mainGlobals/\base.get? bm=some o/\o.cls=.type "module" /\ o.dict=some builtinsNs/\o.data=.plain
theorem jN {a b:Int}{ta tb:Tok}{c:Value}:∀l:List Value,TriplesOk l->TriplesOk (l++[.int a ta,.int b tb,c])
 | [],_=>trivial
 | [x],h=>by cases x <;> exact h.elim
 | [x,y],h=>by cases x <;> cases y <;> exact h.elim
 | x::y::z::r,h=>by
  cases x with
  | int i ti =>
   cases y with
   | int j tj=>exact jN r h
   | _=>exact h.elim
  | _=>exact h.elim
section
variable {X:Cx}{params:Arguments}{body:Expr}{scope:Scope}{pos:Pos}{c T:Addr}
abbrev mE (X:Cx)(params:Arguments)(body:Expr)(scope:Scope)(c':Addr)(gU:Value):Obj:=kla_obj "<lambda>" (X.env.qual ++ "<lambda>") params body scope [] ((X.mg "__name__").getD .none) c' gU
def TY (X:Cx)(params:Arguments)(body:Expr)(scope:Scope)(pos:Pos)(T:Addr):TE:=λσ H Q=>Tab T pos (X.env.qual ++ "<lambda>") H /\
 ∀f c' gU H',cW T H H'->Tab T pos (X.env.qual ++ "<lambda>") H'->H f=none->H' f=some (pj f (mE X params body scope c' gU))->H' c'=some (kc c' (X.env.qual ++ "<lambda>"))->Q (.ref f) H'
def Fp (sj:X.env.code=.ref c)(hC:codeHdIn X.K c T=true)(hB:tJ X.mg X.base)(n6:∀y∈scope.names,y.2≠.free)(Gz:defaultsOf params X.env=([],[]):=by rfl):PE X (.Lambda params body scope pos) (TY X params body scope pos T):=by
 intro ah s σ H Q I h;obtain⟨⟨ps,hT,ht,GI⟩,q⟩:=h;refine kla_eval Gz ?_;have Nc:s.heap.get? T=some (tabObj ps):=(show cR X.prog X.w H s.heap T (.tL ps) from I.cw T _ hT);have hg:=I.mod.glob.keeps I.bk;have C:=codeHd_of_K I.wC hC;obtain⟨bm,ob,b1,b2,b3,b4,b5,b6,b7⟩:=hB;have Xn:=I.bk _ _ b4;have US:bm≠T:=λz=>by
  have:=(I.bs _ _ b4).2;rw [z,hT] at this;cases this
 have UP:mainGlobals≠T:=λz=>by
  obtain⟨o,es,ep,e,d,_⟩:=hg;rw [z,Nc] at e;cases e;cases d
 have Q4:s.heap.BuiltinsAt X.mg T:=⟨bm,ob,b1,b2,b3,US,Xn,b5,b6,b7⟩;have HX:∀b v,H b=some v->b < s.heap.objs.size:=λb v e=>I.cw.lt e;rcases GI with QL | ⟨c',hf,lQ⟩
 .refine kla_makeFunction (closureFor_none n6) I.ok.glob hg sj C Nc ht QL UP Q4 λc' gU h' tk hx M4 kj Gq Qx=>?_;have hcr:∃oc,h'.get? c'=some oc:=by
   obtain⟨c2,oc,vs,t,e,yW,_⟩:=Gq;cases e;exact⟨oc,yW⟩
  have sf:h'.objs.size > s.heap.objs.size:=q_ M4 kj;have keep:∀b o,b≠T->s.heap.get? b=some o->(h'.push (mE X params body scope c' gU)).get? b=some o:=λb o n e=>cu _ (hx b o n e)
  let H':Hp:=upd (upd (upd H T (.tL (ps++#[rawInt pos.line,rawInt pos.col,.ref c']))) c' (kc c' (X.env.qual ++ "<lambda>"))) h'.objs.size (pj h'.objs.size (mE X params body scope c' gU))
  have Aj:∀b v,H b=some v->b≠c'/\b≠h'.objs.size:=λb v e=>⟨cv (gL (HX b v e) M4),cv (mi (HX b v e) sf)⟩;have UR:c'≠h'.objs.size:=cv kj;have P4:=Aj T _ hT;have eT:H' T=some (.tL (ps++#[rawInt pos.line,rawInt pos.col,.ref c'])):=by
   show upd (upd (upd H T _) c' _) h'.objs.size _ T=_;rw [aj P4.2,aj P4.1,ae]
  have ec:H' c'=some (kc c' (X.env.qual ++ "<lambda>")):=by
   show upd (upd (upd H T _) c' _) h'.objs.size _ c'=_;rw [aj UR,ae]
  have ef:H' h'.objs.size=some (pj h'.objs.size (mE X params body scope c' gU)):=ae;have eo:∀b,b≠T->b≠c'->b≠h'.objs.size->H' b=H b:=λb n1 n2 n3=>by
   show upd (upd (upd H T _) c' _) h'.objs.size _ b=_;rw [aj n3,aj n2,aj n1]
  have sT:cW T H H':=λb o n e=>by rw [eo b n (Aj b o e).1 (Aj b o e).2];exact e
  have I2:Inv X ah σ H' { s with heap:=h'.push (mE X params body scope c' gU),toks:=tk }:=by
   refine I.call (g':=s.gens) (t':=tk) (d':=s.drawn) (ch:=[]) ⟨λb o e n _ _=>keep b o (λz=>by rw [z,hT] at n;cases n) e,λb o e n _ _=>⟨o.slots,keep b o (λz=>by rw [z,hT] at n;cases n) e⟩,λb o e n _=>?_,λb o e _=>?_,λb xs e=>?_,λb o u e=>?_,λb Bz e=>?_⟩ (λb v e=>?_) I.bare (λb hb=>nomatch hb)
   .have lb:=bN e;rw [eo b (λz=>by rw [z,hT] at n;cases n) (cv (gL lb M4)) (cv (mi lb sf))];exact n
   .by_cases z:b=T
    .exact⟨_,by rw [z];exact cu _ Qx⟩
    exact⟨o,keep b o z e⟩
   .exact sT b _ (λz=>by rw [z,hT] at e;cases e) e
   .exact sT b _ (λz=>by rw [z,hT] at e;cases e) e
   .by_cases z:b=T
    .subst z;rw [hT] at e;cases e;exact⟨_,eT⟩
    exact⟨#[],by rw [Array.append_empty];exact sT b _ z e⟩
   by_cases z1:b=h'.objs.size
   .subst z1;rw [ef] at e;cases e;exact qD (dZ _ rfl)
   by_cases z2:b=c'
   .subst z2;rw [ec] at e;cases e;refine yC ?_;obtain⟨c2,oc,vs,t,e',yW,hd,hv⟩:=Gq;cases e';exact⟨_,oc,vs,t,rfl,cu _ yW,hd,hv⟩
   by_cases z3:b=T
   .subst z3;rw [eT] at e;cases e;exact cu _ Qx
   rw [eo b z3 z2 z1] at e;refine(I.cw b v e).kO (λd o Dg e'=>?_) (λd e'=>sT d _ (λz=>by rw [z,hT] at e';cases e') e') λd ys e'=>sT d _ (λz=>by rw [z,hT] at e';cases e') e';rcases Dg with rfl | Dg
   .exact keep d o z3 e'
   exact keep d o (λz=>by rw [z,hT] at Dg;cases Dg) e'
  have fresh:H h'.objs.size=none:=I.cw.fresh (kI sf);exact⟨.ref h'.objs.size,H',I2,rfl,q _ c' gU H' sT ⟨_,eT,by rw [vm];exact jN _ ht,.inr ⟨c',by rw [vm];exact codeAmong_snoc _ ht QL,ec⟩⟩ fresh ef ec⟩
 refine kla_makeFunctionHit (closureFor_none n6) I.ok.glob hg sj C Nc ht hf Q4 λgU h' tk hk hsz=>?_;have keep:∀b o,s.heap.get? b=some o->(h'.push (mE X params body scope c' gU)).get? b=some o:=λb o e=>cu _ (hk b o e);have fresh:H h'.objs.size=none:=I.cw.fresh hsz;refine⟨.ref h'.objs.size,_,I.laid (a:=h'.objs.size) (o:=pj h'.objs.size (mE X params body scope c' gU)) (t':=tk) keep hsz (qD (dZ _ rfl)),rfl,?_⟩;refine q _ c' gU _ (λb o _ e=>by rw [aj (aw e fresh)];exact e) ⟨ps,by rw [aj (aw hT fresh)];exact hT,ht,.inr ⟨c',hf,by rw [aj (aw lQ fresh)];exact lQ⟩⟩ fresh ae (by rw [aj (aw lQ fresh)];exact lQ)
end
section
variable {P:Program}{w:World}{K:Frag}{mg:Str->Option Value}{base:Heap}{f c':Addr}{q:Str}{params:Arguments}{body:Expr}{scope:Scope}{pm gU:Value}{N ps:List Str}{k:Nat}{te:TE}
def JE (S:aK N ps scope)(n_:∀us:List Value,us.length=ps.length->bindArgs (kla_fn "<lambda>" q params body scope [] pm (.ref c') gU) ⟨us,[]⟩=pure (ps.zip us))
  (jA:∀(A:Around)(outer:List Env)(s:Shared)(H:Hp),PE (pI gk P w K mg base N q scope f (.ref c') A outer s H λ_ _ _=>False) body te)
  (A:Around)(outer:List Env)(s:Shared)(H:Hp)(us:List Value)(vs:List V)(Q:VK)(hr:fX (k+1) A)(e0:qt P w K mg base A outer s H)(hf:H f=some (pj f (kla_obj "<lambda>" q params body scope [] pm c' gU)))
  (hc:H c'=some (kc c' q))(rv:bf vs us)(hl:vs.length=ps.length)(h:te (start N vs) H Q):codeAny (model P w) A (.call (.ref f) ⟨us,[]⟩) (CR gk outer P w H s Q λ_ _ _=>False) s:=by
 obtain⟨ef,_⟩:=e0.cw f _ hf;obtain⟨ec,_⟩:=e0.cw c' _ hc;have lu:us.length=ps.length:=by rw [<-rv.length];exact hl
 have lim:s.heap.NoLimit:=e0.mod.nolimit.keeps λb o e=>(e0.bs b o e).1;have jy:∀y∈ps.zip us,scope.names.lookup y.1=some .local\/(scope.names.lookup y.1=some .cell/\((cellsFrom (s.heap.objs.size+1) scope.names []).lookup y.1).isSome=true):=λ⟨n,v⟩ hy=>by
  rcases S.par n (List.of_mem_zip hy).1 with z | z
  .exact .inl z
  exact .inr ⟨z,cellsFrom_some _ _ _ (.inl z)⟩
 refine kla_callFunE hr.depth ef rfl S.co S.gen rfl ec ?_;rw [n_ us lu];refine aP (wpAny_newFunctionEnv_cells S.kind jy λenv he s1 x=>?_);subst he;refine⟨lim.keeps x.toInCall.keep,kla_codeExpr ?_⟩;have I:Inv (pI gk P w K mg base N q scope f (.ref c') A outer s H λ_ _ _=>False) [] (start N vs) H s1:=uF S hr.hd e0 hl rv x;refine dJ (jA A outer s H [] s1 (start N vs) H _ I h) (λv s' ⟨y,H',J,r,z⟩=>?_) λe s' z=>z;exact⟨y,H',J.os,J.bare,J.base,J.cw,r,z⟩
end
section
variable {X:Cx}{i:Nat}{x:Str}{e:Expr}{es:List Expr}{t:TA}{p pos:Pos}{q:Str}{params:Arguments}{body:Expr}{scope:Scope}{N ps:List Str}{k:Nat}{te:TE}
def Eu (i:Nat)(q:Str)(params:Arguments)(body:Expr)(scope:Scope) (N ps:List Str)(t:TA)(te:TE):TE:=λσ H Q=>∃f pm c' gU,σ[i]?=some (some (.ref f)) /\
 t σ H λvs H1=>H1 f=some (pj f (kla_obj "<lambda>" q params body scope [] pm c' gU))/\H1 c'=some (kc c' q)/\vs.length=ps.length/\te (start N vs) H1 Q
def z6 (hN:X.N[i]?=some x)(hx:X.env.scope.names.lookup x=some .local)(S:aK N ps scope)(hr:fX (k+1) X.A)
  (n_:∀(pm gU:Value)(c':Addr)(us:List Value),us.length=ps.length->bindArgs (kla_fn "<lambda>" q params body scope [] pm (.ref c') gU) ⟨us,[]⟩=pure (ps.zip us))
  (jA:∀(f c':Addr)(A:Around)(outer:List Env)(s:Shared)(H:Hp),PE (pI gk X.prog X.w X.K X.mg X.base N q scope f (.ref c') A outer s H λ_ _ _=>False) body te)(ha:PA X (e::es) t)
  (Df:(x == ("__debug__":Str))=false:=by decide)(he:starEach (e::es) X.env=(false,eval e X.env)::starEach es X.env:=by rfl)(BO:(backTo pos (starEach es X.env)).any (·.1)=false:=by rfl) :
  PE X (.Call (.Name x p) (e::es) [] pos) (Eu i q params body scope N ps t te):=by
 intro ah s σ H Q I h;obtain⟨f,pm,c',gU,hσ,h⟩:=h;obtain⟨m,hn,hl⟩:=I.loc;obtain⟨u,ru,lk⟩:=hl i x (.ref f) hN hσ (.inl hx);cases (show u=Value.ref f from ru);have hm:m x=some (.ref f):=by
  rcases lk with l | ⟨l,_⟩
  .exact l.2
  have l':X.env.scope.names.lookup x=some .cell\/X.env.scope.names.lookup x=some .free:=l;rw [hx] at l';rcases l' with l' | l' <;> cases l'
 refine qL (wpAny_Name (vk I.ok.kind hx hn hm ?_) Df);refine callWith_def (o:=kla_obj "<lambda>" q params body scope [] pm c' gU) rfl (cQ (ha pos ah s σ H _ I h) λus s1 ⟨vs,H1,I1,r,z1,z2,z3,z4⟩=>?_) he;obtain⟨ef,_⟩:=I1.cw f _ z1;refine⟨ef,wpAny_call (oF (JE (k:=k) S (λus hl=>n_ pm gU c' us hl) (jA f c') X.A X.stack s1 H1 us vs Q hr I1.Nw z1 z2 r z3 z4) λr' s' z=>?_)⟩;cases r' with
 | error e=>exact z.elim
 | ok fl =>
  cases fl with
  | ret u=>exact I1.after z
  | next=>exact z.elim
  | brk=>exact z.elim
  | cont=>exact z.elim
end
def HL (ts:List Addr)(H:Hp):Prop:=∀b,H b=none\/(∃o xs,H b=some (.kn o (.lst xs)))\/(b∈ts/\H b=some (.tL #[]))
def CY {P:Program}{w:World}{K:Frag}{mg mb:Str->Option Value}{CX:zd}{k:Nat}{fa a:Addr}{fd:FuncData}{x:Str}{sp:Sp}{s₁:Shared}{vs:List Value}{ns:List Int}{ts:List Addr}
  (KX:K.In s₁.heap)(xf:s₁.heap.Ns mainGlobals mg)(hb:s₁.heap.Ns builtinsNs mb)(Nb:∀x:Str,x ≠ "__name__" -> mb x=bootBuiltins x)(MX:s₁.heap.NoLimit)
  (hbm:∃bm ob,mg "__builtins__"=some (.ref bm)/\bm≠builtinsNs/\s₁.heap.get? bm=some ob/\ob.cls=.type "module" /\ ob.dict=some builtinsNs/\ob.data=.plain)(hg:s₁.gens=#[])
  (MQ:∀T∈ts,s₁.heap.get? T=some (tabObj #[])/\K.lookup T=none/\∃c,codeHdIn K c T=true)
  (ha:s₁.heap.get? a=some { cls:=.type "list",data:=.seq vs.toArray })(hi:IntsAre vs ns)(hl:ns.length<=sizeLine)(hr:fX k callerA)
  (F:∀base:Heap,K.In base->base.Ns mainGlobals mg->tJ mg base->bR P w K mg base CX k fa fd [x] sp)(n_:∀(s:Shared)(u:Value),BindsTo s fd ⟨[u],[]⟩ [(x,u)])
  (yV:∀H:Hp,HL ts H->(∀T∈ts,H T=some (.tL #[]))->aH K H a (ns.map V.int)->sp [.ref a] H (λv _=>v=.bl true) λ_ _ _=>False)
  (Nh:∀H e s',CX [] H s₁ (λ_ _ _=>False) e s'->False) :
  codeAny (model P w) callerA (.call (.ref fa) ⟨[.ref a],[]⟩) (λr s'=>r=.ok (.ret (.bool true))/\OldK s₁.heap s'.heap/\s'.os=s₁.os/\AllBare s'.gens) s₁:=by
 have rv:=oY hi;have MD:=hi.length;have core:∀H:Hp,HL ts H->(∀T∈ts,H T=some (.tL #[]))->aH K H a (ns.map V.int)->md P w H s₁.heap->(∀b,H b≠none->b=a\/b∈ts)->(H a≠none->K.lookup a=none) ->
   codeAny (model P w) callerA (.call (.ref fa) ⟨[.ref a],[]⟩) (λr s'=>r=.ok (.ret (.bool true))/\OldK s₁.heap s'.heap/\s'.os=s₁.os/\AllBare s'.gens) s₁:=by
  intro H hO hT hS cw hA hK;have lJ:∀{b:Addr}{o:Obj},s₁.heap.get? b=some o->H b=none->(mJ s₁.heap H).get? b=some o:=λe n=>yi e n;have off:∀{b:Addr}{o:Obj},s₁.heap.get? b=some o->(∀aT n,o.data≠.seq aT n)->(∀fs,o.data≠.fields fs)->H b=none:=λ{b o} e d1 d2=>by
   cases q:H b with
   | none=>rfl
   | some u =>
    rcases hA b (by rw [q];simp) with e' | e'
    .subst e';rw [ha] at e;cases e;exact(d1 _ _ rfl).elim
    rw [(MQ b e').1] at e;cases e;exact(d2 _ rfl).elim
  have Jx:∀{b:Addr}{m:Str->Option Value},s₁.heap.Ns b m->(mJ s₁.heap H).Ns b m:=λ{b m} ⟨o,es,ep,e,d,r⟩=>⟨o,es,ep,lJ e (off e (λ_ _ z=>by rw [d] at z;cases z) λ_ z=>by rw [d] at z;cases z),d,r⟩;have Q2:K.In (mJ s₁.heap H):=λb o e=>lJ (KX b o e) (by
   cases q:H b with
   | none=>rfl
   | some u =>
    rcases hA b (by rw [q];simp) with e' | e'
    .subst e';rw [hK (by rw [q];simp)] at e;cases e
    rw [(MQ b e').2.1] at e;cases e)
  have hM:Mod K mg (mJ s₁.heap H):=⟨Q2,Jx xf,⟨mb,Jx hb,Nb⟩,let ⟨mc,h1,h2⟩:=MX;⟨mc,Jx h1,h2⟩⟩;have Q3:tJ mg (mJ s₁.heap H):=by
   obtain⟨bm,ob,b1,b2,b3,b4,b5,b6⟩:=hbm;refine⟨bm,ob,b1,b2,λz=>?_,lJ b3 (off b3 (λ_ _ z=>by rw [b6] at z;cases z) λ_ z=>by rw [b6] at z;cases z),b4,b5,b6⟩;obtain⟨o,es,ep,e,d,_⟩:=xf;rw [<-z,b3] at e;cases e;rw [b6] at d;cases d
  have e0:qt P w K mg (mJ s₁.heap H) callerA [] s₁ H:=⟨rfl,hM,λb o e=>BH e,Nat.le_of_eq (uH _ _),trivial,λb hb=>absurd (show b∈([]:List Addr) from hb) (by simp),cw,.of_eq hg⟩;refine oF ((F _ Q2 (Jx xf) Q3).run callerA [] s₁ H ⟨[.ref a],[]⟩ [.ref a] [.ref a] _ _ hr e0 (n_ s₁ (.ref a)) (.cons rfl .nil) (yV H hO hT hS)) λr s' h=>?_;cases r with
  | error e=>exact(Nh H e s' h).elim
  | ok fl =>
   cases fl with
   | next=>exact False.elim h
   | brk=>exact False.elim h
   | cont=>exact False.elim h
   | ret u =>
    obtain⟨v,H',os,bare,un,JI,r',q⟩:=h;have q':v=.bl true:=q;subst q';obtain rfl:u=Value.bool true:=r';have each:∀b o,s₁.heap.get? b=some o->asItWas s₁.heap s'.heap b o/\∃o',s'.heap.get? b=some o':=λb o e=>by
     cases q:H b with
     | none =>
      have z:=un.keep b o e q (by intro z;exact absurd (show b∈([]:List Addr) from z) (by simp)) (by simp);exact⟨.inl z,o,z⟩
     | some u =>
      rcases hO b with z | ⟨ob,xs,z⟩ | ⟨Ik,z⟩
      .rw [q] at z;cases z
      .have z2:=un.mK b ob _ z;obtain⟨e1,_⟩:=cw b _ z;obtain⟨e2,_⟩:=JI b _ z2;rw [e] at e1;cases e1;exact⟨.inl e2,_,e2⟩
      obtain⟨more,z2⟩:=un.nj b _ z;have e2:s'.heap.get? b=some (tabObj (#[]++more)):=JI b _ z2;rw [(MQ b Ik).1] at e;cases e;obtain⟨c,hc⟩:=(MQ b Ik).2.2;obtain⟨oc,zq,file,tf,flags,tg,inF,text,tt,d1,d2,d3,d4,_⟩:=codeHd_of_K KX hc;exact⟨.inr (.inl ⟨⟨c,oc,zq,d1,d2,d3,d4⟩,rfl,#[],more,rfl,e2⟩),_,e2⟩
    exact⟨rfl,⟨λb o e=>(each b o e).1,λb o e=>(each b o e).2⟩,os,bare⟩
 have na:a∉ts:=λz=>by
  have:=(MQ a z).1;rw [ha] at this;cases this
 cases hk:K.lookup a with
 | some o =>
  have e:=KX a o hk;rw [ha] at e;cases e;refine core (λb=>if b∈ts then some (.tL #[]) else none) (λb=>?_) (λT h=>ax h) (.inr ⟨_,vs.toArray,_,hk,rfl,rfl,rfl,by rw [bX,MD];exact hl,by simpa using rv⟩) (λb u z=>?_) (λb z=>?_) λz=>absurd (ay na) z
  .by_cases h:b∈ts
   .exact .inr (.inr ⟨h,ax h⟩)
   exact .inl (ay h)
  .by_cases h:b∈ts
   .have z':=(ax h).symm.trans z;cases z';exact(MQ b h).1
   have z':=(ay h).symm.trans z;cases z'
  by_cases h:b∈ts
  .exact .inr h
  exact absurd (ay h) z
 | none =>
  refine core (λb=>if b=a then some (.kn { cls:=.type "list",data:=.seq vs.toArray } (.lst (ns.map V.int))) else if b∈ts then some (.tL #[]) else none) (λb=>?_) (λT h=>?_) (.inl (.inr ⟨{ cls:=.type "list",data:=.seq vs.toArray },ax rfl⟩)) (λb u z=>?_) (λb z=>?_) λ_=>hk
  .by_cases hb:b=a
   .exact .inr (.inl ⟨_,_,ax hb⟩)
   by_cases h:b∈ts
   .exact .inr (.inr ⟨h,(ay hb).trans (ax h)⟩)
   exact .inl ((ay hb).trans (ay h))
  .exact(ay (λz:T=a=>na (z ▸ h))).trans (ax h)
  .by_cases hb:b=a
   .have z':=(ax hb).symm.trans z;cases z';subst hb;exact⟨ha,by rw [au];exact hl,vs,_,rv,ha⟩
   by_cases h:b∈ts
   .have z':=((ay hb).trans (ax h)).symm.trans z;cases z';exact(MQ b h).1
   have z':=((ay hb).trans (ay h)).symm.trans z;cases z'
  by_cases hb:b=a
  .exact .inl hb
  by_cases h:b∈ts
  .exact .inr h
  exact absurd ((ay hb).trans (ay h)) z
def Er {l:OpenLaw}{n k:Nat}{q:Program}{loose:List Str}{XP:(Str->Option Value)->Heap->Prop}{YP:World->Heap->Prop}{d:DefRec}{K:Params->Frag}{CX:World->zd}{sp:World->Sp}{x:Str}{ts:List Addr}
  (hn:l.most=some n)(Gv:n<=sizeLine)(M8:d.params.defaults=[])(hr:fX k callerA)
  (hY:∀(w:World)(h:Heap),YP w h->(K w.params).In h/\∀T∈ts,h.get? T=some (tabObj #[]))
  (hK:∀w:World,∀T∈ts,(K w.params).lookup T=none/\∃c,codeHdIn (K w.params) c T=true)
  (F:∀(w:World)(mg:Str->Option Value)(fa:Addr)(h:Heap),(K w.params).In h->h.Ns mainGlobals mg->mg d.name=some (.ref fa) ->
   ∃fd:FuncData,(∀(s:Shared)(u:Value),BindsTo s fd ⟨[u],[]⟩ [(x,u)]) /\
    ∀base:Heap,(K w.params).In base->base.Ns mainGlobals mg->tJ mg base->bR l.prog w (K w.params) mg base (CX w) k fa fd [x] (sp w))
  (yV:∀(w:World)(H:Hp)(a:Addr)(ns:List Int),ns.length<=n->HL ts H->(∀T∈ts,H T=some (.tL #[]))->aH (K w.params) H a (ns.map V.int)->sp w [.ref a] H (λv _=>v=.bl true) λ_ _ _=>False)
  (Nh:∀(w:World)(H:Hp)(s:Shared)(e:Value)(s':Shared),CX w [] H s (λ_ _ _=>False) e s'->False) :
  WalkO q loose XP YP l.row.toRowW d [] (λf vs=>PySem.call f vs):=by
 refine IC.qd hn M8 λw s₀ s₁ mg mb fa o pm cd doc a vs ns G Y ho hd wJ MV Gs hints bE hg=>?_;obtain⟨KX,TX⟩:=hY w _ Y;obtain⟨fd,hb,hF⟩:=F w mg fa _ KX G.T.g MV;exact CY KX G.T.g G.T.b G.T.builtins G.T.nolimit G.T.bmain hg (λT hT=>⟨TX T hT,hK w T hT⟩) Gs hints (dX bE Gv) hr hF hb (λH hO hT hS=>yV w H a ns bE hO hT hS) λH e s'=>Nh w H s₁ e s'
def br {X:Cx}{scope:Scope}{js:List (Nat×Str)}(h:(js.all λp=>X.N[p.1]? == some p.2 && X.env.scope.names.lookup p.2 == some .cell && scope.names.lookup p.2 == some .free)=true)
  (h2:(scope.names.all λy=>y.2 != .free || X.env.scope.names.lookup y.1 == some .cell)=true):Kf X scope js:=by
 refine⟨λp hp=>?_,λy hy=>?_⟩
 .have:=gK.mp h p hp;simp only [pP,beq_iff_eq] at this;exact⟨this.1.1,this.1.2,this.2⟩
 have:=gK.mp h2 _ hy;simpa using this
def yl {σ:St}{H:Hp}{A B:Hp->Prop}(h:A H):iu σ H λb H3=>if b=true then A H3 else B H3:=by
 show if true=true then A H else B H;exact d0 h
def goN {i:Nat}{v:V}{σ:St}{H:Hp}{Q:St->Hp->Prop}(h:Q (σ.set i (some v)) H):dN i v σ H Q:=h
def Gj {X:Cx}(K:ba)(hK:X.K=K:=by rfl):Kd X (PB K):=by
 subst hK;exact bB
def wD {X:Cx}(K:ba)(hK:X.K=K:=by rfl):Kd X (Pz K):=by
 subst hK;exact aZ
def fR {X:Cx}{es:List Expr}{k:Nat}{t:Lq}{n:Nat}{pos:Pos}(K:ba)(hc:X.calm=true)(h:RG X es t)(hK:X.K=K:=by rfl)
  (hn:(assignEach es X.env).length=n:=by rfl)(yU:(assignEach es X.env).findIdx? (·.1)=none:=by rfl):PG X (.Tuple es k pos) (AA K n t):=by
 subst hK;exact g7 hc h hn yU
end L2
section
variable {P:PySem.Program}{w:PySem.World}{K:ba}{mg:PySem.Str->Option PySem.Value}{base:PySem.Heap}{f:PySem.Addr}{fd:PySem.FuncData}
namespace hU
open PySem L2
def top (i:Nat):Stmt:=PySem.Challenge.pw_wright_k68_deeds_of_no_tree.main.body.getD i (.Pass ⟨0,0,0,0⟩)
abbrev zM:Stmt:=top 2
abbrev zD:Stmt:=top 3
abbrev rR:Stmt:=top 14
abbrev vV:Stmt:=top 15
abbrev zP:Stmt:=top 16
abbrev EY:Stmt:=top 26
abbrev zH:Stmt:=top 27
abbrev LR:Stmt:=top 28
abbrev rO:Stmt:=top 30
abbrev vX:Stmt:=top 31
abbrev nK:Stmt:=top 32
abbrev vU:Stmt:=top 35
abbrev zF:Stmt:=top 36
abbrev LU:Stmt:=top 37
abbrev EZ:Stmt:=top 44
abbrev EW:Stmt:=top 4
abbrev LS:Stmt:=top 5
abbrev nN:Stmt:=top 39
abbrev o8:Stmt:=top 40
abbrev rQ:Stmt:=top 41
abbrev sLT:Stmt:=top 42
structure Txt (mg:Str->Option Value):Prop where
 len:mg "len"=none
 Cw:mg "range"=none
 Gn:mg "isinstance"=none
 tup:mg "tuple"=none
 lst:mg "list"=none
 AN:mg "dict"=none
 all:mg "all"=none
 any:mg "any"=none
 str:mg "str"=none
 int:mg "int"=none
 boo:mg "bool"=none
 JS:mg "enumerate"=none
 sum:mg "sum"=none
 max:mg "max"=none
 min:mg "min"=none
section
def boot_all:bootBuiltins "all"=some (.builtin "all"):=by decide +kernel
def gH:bootBuiltins "list"=some (.type "list"):=by decide +kernel
def lh:bootBuiltins "str"=some (.type "str"):=by decide +kernel
def gi:bootBuiltins "dict"=some (.type "dict"):=by decide +kernel
def Ao:PySem.W.kitOne K (.type "int") (.type "bool")=some false:=by kernel_rfl
end
end hU
namespace L2
open PySem
def a7 {K:ba}{H:Hp}{D a:Addr}{xs ys:List V}{o:HO}(hD:H D=some (.lst ys))(h:aS K H a xs):aS K (upd H D o) a xs:=by
 rcases h with (h | ⟨u,h⟩) | h
 .exact .inl (.inl (by rw [aj (λz=>by rw [z,hD] at h;cases h)];exact h))
 .exact .inl (.inr ⟨u,by rw [aj (λz=>by rw [z,hD] at h;cases h)];exact h⟩)
 exact .inr h
def wV (kvs:List (aR×V))(k:aR):(kvs.any λkv=>decide (kv.1=k))=true↔k∈kvs.map (·.1):=by
 rw [List.any_eq_true,cX];constructor
 .rintro⟨x,h1,h2⟩;exact⟨x,h1,cZ h2⟩
 rintro⟨x,h1,h2⟩;exact⟨x,h1,bh h2⟩
def zV {kvs:List (aR×V)}{k:aR}{v:V}(h:k∈kvs.map (·.1)):(bT kvs k v).map (·.1)=kvs.map (·.1):=by
 unfold bT;rw [ax ((wV kvs k).mpr h),jm];refine List.map_congr_left λx hx=>?_;show (if x.1=k then (x.1,v) else x).1=x.1
 split <;> rfl
def iI {kvs:List (aR×V)}{k:aR}{v:V}(h:¬k∈kvs.map (·.1)):(bT kvs k v).map (·.1)=kvs.map (·.1)++[k]:=by
 unfold bT;rw [ay (λz=>h ((wV kvs k).mp z)),bG];rfl
def d_ (kvs:List (aR×V))(k:aR):(bw kvs k).isSome=true↔k∈kvs.map (·.1):=by
 rw [<-jr];exact wV kvs k
theorem cx {α β γ:Type}{F:α->β->Prop}{G:α->γ->Prop}{φ:β->γ}:∀{xs:List α}{ys:List β},Paired F xs ys->(∀a b,F a b->G a (φ b))->Paired G xs (ys.map φ)
 | _,_,.nil,_=>.nil
 | _,_,.cons h t,k=>.cons (k _ _ h) (cx t k)
def cN {z:Str}{l:List Str}:(Sum.inr z:aR)∈l.map Sum.inr↔z∈l:=by
 rw [cX];constructor
 .rintro⟨x,h1,h2⟩;rw [<-mf h2];exact h1
 intro h;exact⟨z,h,rfl⟩
end L2
namespace M11
abbrev ar:=PySem.Str×List PySem.Str
def iA (a:List PySem.Str)(h:PySem.Str):List PySem.Str:=if h∈a then a else a++[h]
def wQ (bV hs:List PySem.Str):List PySem.Str:=hs.foldl iA bV
def addW (bj a:List PySem.Str)(p:PySem.Str):List PySem.Str:=if p∈bj then a else iA a p
def tK (bj bV ps:List PySem.Str):List PySem.Str:=ps.foldl (addW bj) bV
def Oh (aa:List ar)(name:PySem.Str) (k:Nat):Bool:=decide ((aa[k]?.map (·.1))=some name)
def nums (aa:List ar)(name:PySem.Str) (i:Nat):List Int:=((List.range i).filter (Oh aa name)).map λk:Nat=>(k:Int)
def CQ (aa:List ar)(name:PySem.Str) (i:Nat):nums aa name (i+1)=nums aa name i++(if Oh aa name i=true then [(i:Int)] else []):=by
 unfold nums;rw [List.range_succ,oX,bG]
 congr 1
 by_cases h:Oh aa name i=true
 .rw [ax h];simp [h]
 rw [ay h];simp [h]
def xY (aa:List ar)(name:PySem.Str) (i:Nat):(nums aa name i).length<=i:=by
 unfold nums;rw [au];have:=rp (Oh aa name) (List.range i);rw [vf] at this;exact this
def yI (a:List PySem.Str)(h:PySem.Str):(iA a h).length<=a.length+1:=by
 unfold iA;split <;> simp
theorem iO:∀(hs bV:List PySem.Str),(wQ bV hs).length<=bV.length+hs.length
 | [],bV=>by simp [wQ]
 | h::r,bV=>by
  have:=iO r (iA bV h);have:=yI bV h;show (wQ (iA bV h) r).length<=_;rw [dY];omega
def Hu (bj a:List PySem.Str)(p:PySem.Str):(addW bj a p).length<=a.length+1:=by
 unfold addW;split
 .omega
 exact yI a p
theorem vE (bj:List PySem.Str):∀(ps bV:List PySem.Str),(tK bj bV ps).length<=bV.length+ps.length
 | [],bV=>by simp [tK]
 | p::r,bV=>by
  have:=vE bj r (addW bj bV p);have:=Hu bj bV p;show (tK bj (addW bj bV p) r).length<=_;rw [dY];omega
end M11
namespace hU
open PySem L2 M11
def kY {bV:List (aR×V)}{as:List Str}(e:bV.map (·.1)=as.map Sum.inr)(h:Str){v:V}:(bT bV (Sum.inr h) v).map (·.1)=(iA as h).map Sum.inr:=by
 unfold iA;by_cases q:h∈as
 .rw [ax q,zV (by rw [e];exact cN.mpr q),e]
 rw [ay q,iI (by rw [e];exact λz=>q (cN.mp z)),e,bG];rfl
theorem nW:∀(hs:List Str)(bV:List (aR×V)) (as:List Str),bV.map (·.1)=as.map Sum.inr->(df (hs.map λh=>((Sum.inr h:aR),V.bl true)) bV).map (·.1)=(wQ as hs).map Sum.inr
 | [],bV,as,e=>e
 | h::r,bV,as,e=>by
  refine nW r (bT bV (Sum.inr h) (.bl true)) (iA as h) ?_;exact kY e h
def keys_str {kvs:List (aR×V)}{zs:List Str}(e:kvs.map (·.1)=zs.map Sum.inr):(kvs.map λp=>kV p.1)=zs.map V.str:=by
 have e2:(kvs.map λp=>kV p.1)=(kvs.map (·.1)).map kV:=by rw [jm];rfl
 rw [e2,e,jm];rfl
section
def Cc (K:ba)(H:Hp)(r:Addr)(ru:ar):Prop:=∃p,aS K H r [.str ru.1,.ref p]/\aS K H p (ru.2.map V.str)
def bK (K:ba)(H:Hp)(rs:List Addr)(aa:List ar):Prop:=Paired (λr ru=>Cc K H r ru) rs aa
def bK.keep {H H':Hp}{rs:List Addr}{aa:List ar}(h:bK K H rs aa)(k:∀a xs,aS K H a xs->aS K H' a xs):bK K H' rs aa:=Paired.e_ h λr ru ⟨p,a,b⟩=>⟨p,k _ _ a,k _ _ b⟩
def bK.same {H H':Hp}{rs:List Addr}{aa:List ar}(h:bK K H rs aa)(s:aA H H'):bK K H' rs aa:=h.keep λ_ _ z=>s.tup z
def bK.get {H:Hp}{rs:List Addr}{aa:List ar}(h:bK K H rs aa){i:Nat}{r:Addr}(e:rs[i]?=some r):∃ru,aa[i]?=some ru/\Cc K H r ru:=by
 have l:=aU h;have li:=(bu.mp e).1;have e2:aa[i]?=some (aa[i]'∅):=dG ∅;obtain⟨x,e3,e4⟩:=Paired.at_ h i _ e2;rw [e] at e3;cases e3;exact⟨_,e2,e4⟩
def sZ {H:Hp}{R D:Addr}{rs:List Addr}{aa:List ar}{σ:St}{Qp:Hp->Prop}(hR:aH K H R (rs.map V.ref))(cy:bK K H rs aa)(bE:aa.length<=1000)(hD:H D=none)
  (q:∀ts H2,aA H H2->H2 D=some (.lst (ts.map V.ref))->Paired (λt h=>aS K H2 t [.str h,.bl true]) ts (aa.map (·.1))->Qp H2) :
  ∃W:Nat->Nat->List V->St->Hp->Prop,(∃m,W 0 m [] (eU ["head","parts"] [] σ) (upd H D (.lst []))) /\
 ∀i m ys σ' H,W i m ys σ' H->((ke K R).stop i H/\Qp H)\/((ke K R).go i H/\∃m',m' < m/\∀x H',(ke K R).mP i H x H'->AA K 2 (jB (dN 0) (jB (dN 1) Dj)) x σ' H' λσ2 H2=>iu σ2 H2 λb H3 =>
  if b=true then tP (gY (gS 0) (gY (tC (.bl true)) rB)) σ2 H3 λy H4=>H4 D=some (.lst ys)/\ys.length < sizeLine/\W (i+1) m' (ys++[y]) σ2 (upd H4 D (.lst (ys++[y]))) else W (i+1) m' ys σ2 H3):=by
 have ll:=aU cy;refine cM (xs:=rs.map V.ref) (λi ys σ2 H2=>∃ts:List Addr,ys=ts.map V.ref/\ts.length=i/\Paired (λt h=>aS K H2 t [.str h,.bl true]) ts ((aa.take i).map (·.1))/\(∃y0 y1,σ2=[y0,y1])/\aA H H2/\H2 D=some (.lst ys))
  ⟨[],rfl,rfl,.nil,⟨none,none,rfl⟩,af hD _,ae⟩ (λi ys σ2 H2 _ h=>?_) (λi x ys σ2 H2 ex h=>?_) (λys σ2 H2 h=>?_)
 .obtain⟨_,_,_,_,_,sm,_⟩:=h;exact sm.seq hR
 .obtain⟨ts,rfl,ht,hp,⟨y0,y1,rfl⟩,sm,hd⟩:=h;rw [bz] at ex;obtain⟨r,er,rfl⟩:=cC.mp ex;obtain⟨ru,e1,p,v1,v2⟩:=cy.get er;have li:=(bu.mp e1).1;refine⟨r,_,rfl,sm.tup v1,rfl,_,_,rfl,_,_,rfl,rfl,?_⟩;refine yl ?_;refine⟨_,rfl,iP,λt jl=>⟨?_,bM (by rw [au];omega),ts++[t],?_,?_,?_,⟨_,_,rfl⟩,?_,ae⟩⟩
  .rw [aj (aw hd jl)];exact hd
  .rw [bG];rfl
  .rw [a9,ht];rfl
  .rw [cP,e1,bG];have ji:upd H2 t (.tup [.str ru.1,.bl true]) D=some (.lst (ts.map V.ref)):=by rw [aj (aw hd jl)];exact hd
   exact hZ (Paired.e_ hp λt' h' z=>a7 ji ((af jl _).tup z)) (a7 ji (aS.of ae))
  intro b o hb;rw [aj (λz=>by rw [z,hD] at hb;cases hb)];exact af jl _ _ _ (sm b o hb)
 obtain⟨ts,rfl,ht,hp,_,sm,hd⟩:=h;rw [au,ll,cE] at hp;exact q ts H2 sm hd hp
def jP (K:ba):Sp:=λvs H Q _=>∃(R:Addr)(rs:List Addr)(aa:List ar),vs=[.ref R]/\aH K H R (rs.map V.ref)/\bK K H rs aa/\aa.length<=1000 /\
 ∀D H',H D=none->aA H H'->H' D=some (.lst ((wQ [] (aa.map (·.1))).map V.str))->Q (.ref D) H'
def IW:aK ["rules"] ["rules"] (av zM):=iM rfl rfl rfl rfl (by decide +kernel)
def FO (F:iB K "heads_of" "heads_of" zM f fd)(T:Txt mg):bR P w K mg base gk 1 f fd ["rules"] (jP K):=by
 refine F.ok IW (λvs H Q E h=>?_) (λeX A outer s H vs Q E hr h=>?_)
 .obtain⟨R,rs,aa,rfl,_⟩:=h;rfl
 obtain⟨R,rs,aa,rfl,hR,cy,bE,q⟩:=h;refine⟨_,ak (aN (bc (mM rfl) rfl T.lst gH (ab (bc (dS rfl) rfl T.AN gi (ab
  (bD ["head","parts"] [] rfl (a8 (pv 0)) (br rfl rfl) (by decide +kernel) rfl (by decide +kernel)
   (λ_ _ _ _ _=>fR (n:=2) K rfl (aB (aq (i:=0) (show (["head","parts"]:List Str).Nodup by decide +kernel) rfl (bC rfl)) (aB (aq (i:=1) (show (["head","parts"]:List Str).Nodup by decide +kernel) rfl (bC rfl)) b_))) (λ_ _ _ _ _=>b8)
   (λ_ _ _ _ _=>bo (ab (pv 0) (ab f_ ag)))) ag)) ag))),?_⟩
 dsimp only [yw];refine⟨_,rfl,R,rfl,⟨_,hR⟩,λD hD=>sZ hR cy bE hD λts H2 sm hd hp=>?_⟩;have kp:Paired (λt (kv:aR×V)=>aS K H2 t [kV kv.1,kv.2]) ts ((aa.map (·.1)).map λh=>((Sum.inr h:aR),V.bl true)):=cx hp λ_ _ z=>z;refine⟨D,ts,_,rfl,hd,kp,λd hd2=>?_⟩;refine⟨d,_,rfl,ae,λD2 jb=>?_⟩;rw [keys_str (nW (aa.map (·.1)) [] [] rfl)];have nd:D2≠d:=λz=>by rw [z,ae] at jb;cases jb
 exact q D2 _ (sm.free (by rw [aj nd] at jb;exact jb)) (sm.trans ((af hd2 _).trans (af jb _))) ae
theorem jC:∀(aa:List ar) (n:Nat),aa.length<=n->(∀ru∈aa,ru.2.length<=8)->(aa.flatMap (·.2)).length<=8 * n
 | [],n,_,_=>by simp
 | ru::r,n,hl,h=>by
  rw [dY] at hl;have:=jC r (n - 1) ∅ λx hx=>h x (dA _ hx);have:=h ru cH;rw [mU,a9];omega
def hd (aa:List ar):List Str:=wQ [] (aa.map (·.1))
def Bd (K:ba):Sp:=λvs H Q _=>∃(R:Addr)(rs:List Addr)(aa:List ar),vs=[.ref R]/\aH K H R (rs.map V.ref)/\bK K H rs aa/\aa.length<=1000/\(∀ru∈aa,ru.2.length<=8) /\
 ∀D H',H D=none->aA H H'->H' D=some (.lst ((tK (hd aa) [] (aa.flatMap (·.2))).map V.str))->Q (.ref D) H'
def lD:aK ["rules","heads","words","head","parts","part"] ["rules"] (av zD):=iM rfl rfl rfl rfl (by decide +kernel)
def Fz (F:iB K "words_in" "words_in" zD f fd)(T:Txt mg):bR P w K mg base gk 1 f fd ["rules"] (Bd K):=by
 refine F.ok lD (λvs H Q E h=>?_) (λeX A outer s H vs Q E hr h=>?_)
 .obtain⟨R,rs,aa,rfl,_⟩:=h;rfl
 obtain⟨R,rs,aa,rfl,hR,cy,bE,h8,q⟩:=h;have hu:=gh hr;refine⟨_,ai (az (i:=1) lD.nd rfl (bC rfl) (bc (dS rfl) rfl T.AN gi (ab
  (bD ["head","parts"] [] rfl (a8 (pv 0)) (br rfl rfl) (by decide +kernel) rfl (by decide +kernel)
   (λ_ _ _ _ _=>fR (n:=2) K rfl (aB (aq (i:=0) (show (["head","parts"]:List Str).Nodup by decide +kernel) rfl (bC rfl)) (aB (aq (i:=1) (show (["head","parts"]:List Str).Nodup by decide +kernel) rfl (bC rfl)) b_))) (λ_ _ _ _ _=>b8)
   (λ_ _ _ _ _=>bo (ab (pv 0) (ab f_ ag)))) ag)))
  (ai (az (i:=2) lD.nd rfl (bC rfl) g8)
  (ai (bL cg rfl (a8 (pv 0)) (g7 rfl (aB (aq (i:=3) lD.nd rfl (bC rfl)) (aB (aq (i:=4) lD.nd rfl (bC rfl)) b_)))
   (ak (bL cg rfl (fZ (pv 4)) (aq (i:=5) lD.nd rfl (bC rfl))
    (ak (bI (eJ (eK hu (pv 5) (pv 1))) (ak (iJ hu (pv 2) (pv 5) f_ rfl)) aQ)))))
  (ak (aN (bc (mM rfl) rfl T.lst gH (ab (pv 2) ag)))))),?_⟩
 nofun
 refine⟨_,rfl,R,rfl,⟨_,hR⟩,λD hD=>sZ hR cy bE hD λts H2 sm hd2 hp=>?_⟩;have kp:Paired (λt (kv:aR×V)=>aS K H2 t [kV kv.1,kv.2]) ts ((aa.map (·.1)).map λh=>((Sum.inr h:aR),V.bl true)):=cx hp λ_ _ z=>z;refine⟨D,ts,_,rfl,hd2,kp,λd hdd=>?_⟩;have KO:(df ((aa.map (·.1)).map λh=>((Sum.inr h:aR),V.bl true)) []).map (·.1)=(hd aa).map Sum.inr:=nW (aa.map (·.1)) [] [] rfl;generalize df ((aa.map (·.1)).map λh=>((Sum.inr h:aR),V.bl true)) []=kH at KO ⊢;have N7:=sm.trans (af hdd (.dK kH));have ji:upd H2 d (.dK kH) d=some (.dK kH):=ae;generalize upd H2 d (.dK kH)=H3 at N7 ji;intro e he;have hde:∀o,upd H3 e o d=some (.dK kH):=λo=>by rw [aj (aw ji he)];exact ji
 have Bs:∀o,aA H (upd H3 e o):=λo=>N7.trans (af he o);have ll:=aU cy;refine⟨_,rfl,R,rfl,⟨_,(Bs _).seq hR⟩,cJ (xs:=rs.map V.ref) (λi σ H5=>∃(kvs:List (aR×V))(y3 y4 y5:Option V),σ=[aM R,aM d,aM e,y3,y4,y5]/\H5=upd H3 e (.dK kvs) /\
  kvs.map (·.1)=(tK (hd aa) [] ((aa.take i).flatMap (·.2))).map Sum.inr) ⟨[],none,none,none,rfl,rfl,rfl⟩ ?_ ?_ ?_⟩
 .rintro i σ H5 _ ⟨kvs,y3,y4,y5,rfl,rfl,_⟩;exact(Bs _).seq hR
 .rintro i x σ H5 ex ⟨kvs,y3,y4,y5,rfl,rfl,hk⟩
  ac_nf0
  rw [bz] at ex;obtain⟨r,er,rfl⟩:=cC.mp ex;obtain⟨ru,e1,p,v1,v2⟩:=cy.get er;have li:=(bu.mp e1).1;have Ow:=h8 ru (b9 e1);have eT:(aa.take (i+1)).flatMap (·.2)=(aa.take i).flatMap (·.2)++ru.2:=by
   rw [cP,e1,i5];simp
  have lA:((aa.take i).flatMap (·.2)).length<=8 * i:=jC (aa.take i) i (by rw [bO];omega) λru iY=>h8 ru (i6 iY);refine⟨r,_,rfl,(Bs _).tup v1,rfl,_,_,rfl,_,_,rfl,rfl,?_⟩;refine⟨_,rfl,p,rfl,⟨_,(Bs _).tup v2⟩,oo (xs:=ru.2.map V.str) (λj σ H6=>∃(kvs:List (aR×V))(y5:Option V),σ=[aM R,aM d,aM e,some (.str ru.1),aM p,y5]/\H6=upd H3 e (.dK kvs) /\
   kvs.map (·.1)=(tK (hd aa) [] ((aa.take i).flatMap (·.2)++ru.2.take j)).map Sum.inr) ⟨kvs,_,rfl,rfl,by rw [oO,iR];exact hk⟩ ?_ ?_ ?_⟩
  .rintro j σ H6 _ ⟨kvs,y5,rfl,rfl,_⟩;exact(Bs _).tup v2
  .rintro j x σ H6 pF ⟨kvs,y5,rfl,rfl,Dc⟩
   ac_nf0
   rw [bz] at pF;obtain⟨z,ez,rfl⟩:=cC.mp pF;have lj:=(bu.mp ez).1;have eS:tK (hd aa) [] ((aa.take i).flatMap (·.2)++ru.2.take (j+1))=addW (hd aa) (tK (hd aa) [] ((aa.take i).flatMap (·.2)++ru.2.take j)) z:=by
    rw [cP,ez,<-lW];exact ve
   have lk:kvs.length<=8 * i+8:=by
    have h1:kvs.length=(tK (hd aa) [] ((aa.take i).flatMap (·.2)++ru.2.take j)).length:=by
     have:=congrArg List.length Dc;rw [au,au] at this;exact this
    have h2:=vE (hd aa) ((aa.take i).flatMap (·.2)++ru.2.take j) [];rw [a9,bO] at h2;simp only [jo] at h2;omega
   have mem:(bw kH (Sum.inr z)).isSome=true↔z∈hd aa:=by rw [d_,KO];exact cN
   refine⟨_,rfl,_,rfl,d,_,rfl,cq.k (k:=Sum.inr z) (hde _),_,rfl,?_⟩;refine cf (λc=>?_) (λc=>?_)
   .have nm:z∉hd aa:=λh=>by rw [mem.mpr h] at c;exact absurd c (by decide)
    refine⟨_,rfl,_,rfl,e,_,rfl,pM.k (k:=Sum.inr z) ae (bM ∅),?_⟩;refine⟨bT kvs (Sum.inr z) (.bl true),_,rfl,by rw [ng],?_⟩;rw [eS];unfold addW;rw [ay nm];exact kY Dc z
   have im:z∈hd aa:=mem.mp (by
    cases h:(bw kH (Sum.inr z)).isSome with
    | true=>rfl
    | false=>exact absurd (by rw [h];rfl) c)
   refine⟨kvs,_,rfl,rfl,?_⟩;rw [eS];unfold addW;rw [ax im];exact Dc
  rintro σ H6 ⟨kvs,y5,rfl,rfl,Dc⟩;rw [au,cE,<-eT] at Dc;exact⟨kvs,_,_,_,rfl,rfl,Dc⟩
 rintro σ H5 ⟨kvs,y3,y4,y5,rfl,rfl,hk⟩;rw [au,ll,cE] at hk;refine⟨_,rfl,e,_,rfl,ae,λD2 jb=>?_⟩;rw [keys_str hk];exact q D2 _ ((Bs _).free jb) ((Bs _).trans (af jb _)) ae
end
end hU
namespace L2
open PySem
section
variable {K:ba}{a D:Addr}{xs:List V}{ts:List Str}{js:List (Nat×Str)}{g:TG}{tif:TT}{te:TE}{R:Hp->Prop}{σ:St}{H:Hp}
def gQ (Pv:Nat->List V->St->Hp->Prop)(h0:Pv 0 [] (eU ts js σ) (upd H D (.lst [])))(hl:∀i ys σ H,i<=xs.length->Pv i ys σ H->aS K H a xs)
  (hs:∀i x ys σ H,xs[i]?=some x->Pv i ys σ H->g x σ H λσ2 H2=>tif σ2 H2 λb H3=>if b=true then te σ2 H3 λy H4=>H4 D=some (.lst ys)/\ys.length < sizeLine/\Pv (i+1) (ys++[y]) σ2 (upd H4 D (.lst (ys++[y]))) else Pv (i+1) ys σ2 H3)
  (hd:∀ys σ H,Pv xs.length ys σ H->R H) :
  ∃W:Nat->Nat->List V->St->Hp->Prop,(∃m,W 0 m [] (eU ts js σ) (upd H D (.lst []))) /\
 ∀i m ys σ' H,W i m ys σ' H->((oC K a).stop i H/\R H)\/((oC K a).go i H/\∃m',m' < m/\∀x H',(oC K a).mP i H x H'->g x σ' H' λσ2 H2=>tif σ2 H2 λb H3 =>
  if b=true then te σ2 H3 λy H4=>H4 D=some (.lst ys)/\ys.length < sizeLine/\W (i+1) m' (ys++[y]) σ2 (upd H4 D (.lst (ys++[y]))) else W (i+1) m' ys σ2 H3):=by
 refine⟨λi m ys σ H=>m=xs.length - i/\i<=xs.length/\Pv i ys σ H,⟨xs.length,by simp,dW _,h0⟩,?_⟩;rintro i m ys σ' H ⟨rfl,hi,p⟩;have q:=hl i ys σ' H hi p;by_cases kj:i < xs.length
 .refine .inr ⟨⟨xs,xs[i],q,by simp [kj]⟩,xs.length - (i+1),∅,λx H' y=>?_⟩;obtain⟨e,y⟩:=y;subst e;have z:=hs i x ys σ' _ (y xs q) p;have h1:(i+1<=xs.length)=True:=eq_true kj;simp only [h1,true_and];exact z
 have e:i=xs.length:=by omega
 subst e;exact .inl ⟨⟨xs,q,aF _⟩,hd ys σ' H p⟩
def yB (Pv:Nat->List V->St->Hp->Prop)(h0:Pv 0 [] (eU ts js σ) (upd H D (.lst [])))(hl:∀i ys σ H,i<=xs.length->Pv i ys σ H->aS K H a xs)
  (hs:∀i x ys σ H t,xs[i]?=some x->Pv i ys σ H->H t=none->g (.ref t) σ (upd H t (.tup [.int (i:Int),x])) λσ2 H2=>tif σ2 H2 λb H3=>if b=true then te σ2 H3 λy H4=>H4 D=some (.lst ys)/\ys.length < sizeLine/\Pv (i+1) (ys++[y]) σ2 (upd H4 D (.lst (ys++[y]))) else Pv (i+1) ys σ2 H3)
  (hd:∀ys σ H,Pv xs.length ys σ H->R H) :
  ∃W:Nat->Nat->List V->St->Hp->Prop,(∃m,W 0 m [] (eU ts js σ) (upd H D (.lst []))) /\
 ∀i m ys σ' H,W i m ys σ' H->((tI K a).stop i H/\R H)\/((tI K a).go i H/\∃m',m' < m/\∀x H',(tI K a).mP i H x H'->g x σ' H' λσ2 H2=>tif σ2 H2 λb H3 =>
  if b=true then te σ2 H3 λy H4=>H4 D=some (.lst ys)/\ys.length < sizeLine/\W (i+1) m' (ys++[y]) σ2 (upd H4 D (.lst (ys++[y]))) else W (i+1) m' ys σ2 H3):=by
 refine⟨λi m ys σ H=>m=xs.length - i/\i<=xs.length/\Pv i ys σ H,⟨xs.length,by simp,dW _,h0⟩,?_⟩;rintro i m ys σ' H ⟨rfl,hi,p⟩;have q:=hl i ys σ' H hi p;by_cases kj:i < xs.length
 .refine .inr ⟨⟨xs,xs[i],q,by simp [kj]⟩,xs.length - (i+1),∅,λx H' y=>?_⟩;obtain⟨t,y0,rfl,ht,rfl,y⟩:=y;have z:=hs i y0 ys σ' _ t (y xs q) p ht;have h1:(i+1<=xs.length)=True:=eq_true kj;simp only [h1,true_and];exact z
 have e:i=xs.length:=by omega
 subst e;exact .inl ⟨⟨xs,q,aF _⟩,hd ys σ' H p⟩
end
def k0 {K:ba}{a:Addr}{xs:List V}{g:TG}{tb:TS}{D:Ends}{σ:St}{H:Hp}(Pv:Nat->St->Hp->Prop)(h0:Pv 0 σ H)(hl:∀i σ H,i<=xs.length->Pv i σ H->aH K H a xs)
  (hs:∀i x σ H t,xs[i]?=some x->Pv i σ H->H t=none->g (.ref t) σ (upd H t (.tup [.int (i:Int),x])) λσ2 H2=>tb { D with nx:=Pv (i+1),ct:=Pv (i+1),bk:=D.nx } σ2 H2)(hd:∀σ H,Pv xs.length σ H->D.nx σ H) :
  ∃W:Nat->Nat->St->Hp->Prop,(∃m,W 0 m σ H)/\∀i m σ H,W i m σ H ->
   ((RJ K a).stop i H/\D.nx σ H)\/((RJ K a).go i H/\∃N:St->Hp->Prop,(∀σ' H',N σ' H'->∃m',m' < m/\W (i+1) m' σ' H')/\∀x H',(RJ K a).mP i H x H'->g x σ H' λσ2 H2=>tb { D with nx:=N,ct:=N,bk:=D.nx } σ2 H2):=by
 refine⟨λi m σ H=>m=xs.length - i/\i<=xs.length/\Pv i σ H,⟨xs.length,by simp,dW _,h0⟩,?_⟩;rintro i m σ H ⟨rfl,hi,p⟩;have q:=hl i σ H hi p;by_cases kj:i < xs.length
 .refine .inr ⟨⟨xs,xs[i],q,by simp [kj]⟩,Pv (i+1),λσ' H' p'=>⟨xs.length - (i+1),∅,rfl,kj,p'⟩,λx H' y=>?_⟩;obtain⟨t,y0,rfl,ht,rfl,y⟩:=y;exact hs i y0 σ _ t (y xs q) p ht
 have e:i=xs.length:=by omega
 subst e;exact .inl ⟨⟨xs,q,aF _⟩,hd σ H p⟩
def pE {K:ba}{a:Addr}{xs:List V}{g:TG}{tb:TS}{D:Ends}{σ:St}{H:Hp}(Pv:Nat->St->Hp->Prop)(h0:Pv 0 σ H)(hl:∀i σ H,i<=xs.length->Pv i σ H->aS K H a xs)
  (hs:∀i x σ H t,xs[i]?=some x->Pv i σ H->H t=none->g (.ref t) σ (upd H t (.tup [.int (i:Int),x])) λσ2 H2=>tb { D with nx:=Pv (i+1),ct:=Pv (i+1),bk:=D.nx } σ2 H2)(hd:∀σ H,Pv xs.length σ H->D.nx σ H) :
  ∃W:Nat->Nat->St->Hp->Prop,(∃m,W 0 m σ H)/\∀i m σ H,W i m σ H ->
   ((tI K a).stop i H/\D.nx σ H)\/((tI K a).go i H/\∃N:St->Hp->Prop,(∀σ' H',N σ' H'->∃m',m' < m/\W (i+1) m' σ' H')/\∀x H',(tI K a).mP i H x H'->g x σ H' λσ2 H2=>tb { D with nx:=N,ct:=N,bk:=D.nx } σ2 H2):=by
 refine⟨λi m σ H=>m=xs.length - i/\i<=xs.length/\Pv i σ H,⟨xs.length,by simp,dW _,h0⟩,?_⟩;rintro i m σ H ⟨rfl,hi,p⟩;have q:=hl i σ H hi p;by_cases kj:i < xs.length
 .refine .inr ⟨⟨xs,xs[i],q,by simp [kj]⟩,Pv (i+1),λσ' H' p'=>⟨xs.length - (i+1),∅,rfl,kj,p'⟩,λx H' y=>?_⟩;obtain⟨t,y0,rfl,ht,rfl,y⟩:=y;exact hs i y0 σ _ t (y xs q) p ht
 have e:i=xs.length:=by omega
 subst e;exact .inl ⟨⟨xs,q,aF _⟩,hd σ H p⟩
def uR {K:ba}{H:Hp}{p D d:Addr}{zs:List Str}{kvs:List (aR×V)}{σ:St}{js:List (Nat×Str)}{Qp:Hp->Prop}(hσ:eU ["part"] js σ=[none,aM d])(hp:aS K H p (zs.map V.str))(hz:zs.length<=1000)
  (hd:H d=some (.dK kvs))(hD:H D=none)(q:∀H2,aA H H2->H2 D=some (.lst ((zs.map λz=>(bw kvs (Sum.inr z)).isSome).map V.bl))->Qp H2) :
  ∃W:Nat->Nat->List V->St->Hp->Prop,(∃m,W 0 m [] (eU ["part"] js σ) (upd H D (.lst []))) /\
 ∀i m ys σ' H,W i m ys σ' H->((oC K p).stop i H/\Qp H)\/((oC K p).go i H/\∃m',m' < m/\∀x H',(oC K p).mP i H x H'->dN 0 x σ' H' λσ2 H2=>iu σ2 H2 λb H3 =>
  if b=true then Pf (gS 0) (gS 1) σ2 H3 λy H4=>H4 D=some (.lst ys)/\ys.length < sizeLine/\W (i+1) m' (ys++[y]) σ2 (upd H4 D (.lst (ys++[y]))) else W (i+1) m' ys σ2 H3):=by
 refine gQ (xs:=zs.map V.str) (λi ys σ2 H2=>ys=(((zs.take i).map λz=>(bw kvs (Sum.inr z)).isSome).map V.bl)/\(∃y0,σ2=[y0,aM d])/\aA H H2/\H2 D=some (.lst ys))
  ⟨rfl,⟨none,hσ⟩,af hD _,ae⟩ (λi ys σ2 H2 _ h=>h.2.2.1.tup hp) (λi x ys σ2 H2 ex h=>?_) (λys σ2 H2 h=>?_)
 .obtain⟨rfl,⟨y0,rfl⟩,sm,hd2⟩:=h;rw [bz] at ex;obtain⟨z,ez,rfl⟩:=cC.mp ex;have li:=(bu.mp ez).1;refine goN (yl ?_);refine⟨_,rfl,_,rfl,d,_,rfl,cq.k (k:=Sum.inr z) (sm _ _ hd),hd2,bM (by rw [au,au,bO];omega),?_,⟨_,rfl⟩,?_,ae⟩
  .rw [cP,ez,bG,bG];rfl
  intro b o hb;rw [aj (λz=>by rw [z,hD] at hb;cases hb)];exact sm b o hb
 obtain⟨rfl,_,sm,hd2⟩:=h;rw [au,cE] at hd2;exact q H2 sm hd2
def iw {K:ba}{H:Hp}{D a:Addr}{xs:List V}{ys:List (aR×V)}{o:HO}(hD:H D=some (.dK ys))(h:aS K H a xs):aS K (upd H D o) a xs:=by
 rcases h with (h | ⟨u,h⟩) | h
 .exact .inl (.inl (by rw [aj (λz=>by rw [z,hD] at h;cases h)];exact h))
 .exact .inl (.inr ⟨u,by rw [aj (λz=>by rw [z,hD] at h;cases h)];exact h⟩)
 exact .inr h
theorem gO {α:Type} [DecidableEq α]:∀(l m:List α),l.Nodup->(∀x∈l,x∈m)->l.length<=m.length
 | [],m,_,_=>dW _
 | a::l,m,hn,h=>by
  have hm:=h a cH;have:=gO l (m.erase a) (mT.mp hn).2 λx hx=>(List.mem_erase_of_ne (λz:x=a=>(mT.mp hn).1 (by rw [<-z];exact hx))).mpr (h x (dA _ hx));rw [List.length_erase_of_mem hm] at this;have:=List.length_pos_of_mem hm;rw [dY];omega
end L2
namespace M11
open PySem L2
inductive w6 (aa:List ar):List (Str×Nat)->Prop
 | nil:w6 aa []
 | snoc {bH:List (Str×Nat)}{k:Nat}{ru:ar}:w6 aa bH->aa[k]?=some ru->ru.1∉bH.map (·.1)->(∀p∈ru.2,p∈bH.map (·.1))->w6 aa (bH++[(ru.1,k)])
def yN (aa:List ar) (n:Nat)(bH:List (Str×Nat)):Prop:=∀ru∈aa.take n,(∀p∈ru.2,p∈bH.map (·.1))->ru.1∈bH.map (·.1)
def w6.nd {aa:List ar}{bH:List (Str×Nat)}(h:w6 aa bH):(bH.map (·.1)).Nodup:=by
 induction h with
 | nil=>exact kr
 | snoc h e n p ih =>
  rw [bG];refine j7.mpr ⟨ih,by simp,λa ha b hb=>?_⟩;rw [t_,bF] at hb;exact λz=>n (by rw [<-hb,<-z];exact ha)
def w6.head {aa:List ar}{bH:List (Str×Nat)}(h:w6 aa bH):∀x∈bH.map (·.1),x∈aa.map (·.1):=by
 induction h with
 | nil=>simp
 | snoc h e n p ih =>
  intro x hx;rw [bG] at hx;rcases bQ.mp hx with hx | hx
  .exact ih x hx
  rw [t_,bF] at hx;rw [hx];exact j8 (b9 e)
def w6.len {aa:List ar}{bH:List (Str×Nat)}(h:w6 aa bH):bH.length<=aa.length:=by
 have:=gO _ _ h.nd h.head;rw [au,au] at this;exact this
end M11
namespace hU
open PySem L2 M11
section
def pK (K:ba)(H:Hp)(ts:List Addr)(bH:List (Str×Nat)):Prop:=Paired (λt (e:Str×Nat)=>aS K H t [.str e.1,.int (e.2:Int)]) ts bH
def pK.keep {H H':Hp}{ts:List Addr}{bH:List (Str×Nat)}(h:pK K H ts bH)(k:∀a xs,aS K H a xs->aS K H' a xs):pK K H' ts bH:=Paired.e_ h λt e z=>k _ _ z
structure Cf (K:ba)(aa:List ar)(H H5:Hp)(D d:Addr)(ts:List Addr)(bH:List (Str×Nat))(kvs:List (aR×V)):Prop where
 sm:aA H H5
 hD:H5 D=some (.lst (ts.map V.ref))
 hd:H5 d=some (.dK kvs)
 keys:kvs.map (·.1)=(bH.map (·.1)).map Sum.inr
 ev:pK K H5 ts bH
 emp:w6 aa bH
def Cf.same {aa:List ar}{H H5 H6:Hp}{D d:Addr}{ts:List Addr}{bH:List (Str×Nat)}{kvs:List (aR×V)}(h:Cf K aa H H5 D d ts bH kvs)(s:aA H5 H6):Cf K aa H H6 D d ts bH kvs :=
 ⟨h.sm.trans s,s _ _ h.hD,s _ _ h.hd,h.keys,h.ev.keep λ_ _ z=>s.tup z,h.emp⟩
def Cf.mem {aa:List ar}{H H5:Hp}{D d:Addr}{ts:List Addr}{bH:List (Str×Nat)}{kvs:List (aR×V)}(h:Cf K aa H H5 D d ts bH kvs)(z:Str):(bw kvs (Sum.inr z)).isSome=true↔z∈bH.map (·.1):=by
 rw [d_,h.keys];exact cN
def Cf.len {aa:List ar}{H H5:Hp}{D d:Addr}{ts:List Addr}{bH:List (Str×Nat)}{kvs:List (aR×V)}(h:Cf K aa H H5 D d ts bH kvs):ts.length=bH.length/\kvs.length=bH.length:=by
 refine⟨aU h.ev,?_⟩;have:=congrArg List.length h.keys;simpa using this
def Cf.more {aa:List ar}{H H5:Hp}{D d t:Addr}{ts:List Addr}{bH:List (Str×Nat)}{kvs:List (aR×V)}(h:Cf K aa H H5 D d ts bH kvs)(fD:H D=none)(fd:H d=none){k:Nat}{ru:ar}(e:aa[k]?=some ru)
  (n:ru.1∉bH.map (·.1))(p:∀x∈ru.2,x∈bH.map (·.1))(ht:upd H5 d (.dK (bT kvs (Sum.inr ru.1) (.bl true))) t=none) :
  Cf K aa H (upd (upd (upd H5 d (.dK (bT kvs (Sum.inr ru.1) (.bl true)))) t (.tup [.str ru.1,.int (k:Int)])) D (.lst (ts.map V.ref++[.ref t]))) D d (ts++[t]) (bH++[(ru.1,k)]) (bT kvs (Sum.inr ru.1) (.bl true)):=by
 have YA:D≠d:=λz=>by have:=h.hD;rw [z,h.hd] at this;cases this
 have nt:t≠d:=λz=>by rw [z,ae] at ht;cases ht
 have Qz:H5 t=none:=by rw [aj nt] at ht;exact ht
 have nDt:D≠t:=λz=>by rw [<-z,h.hD] at Qz;cases Qz
 have jb:upd (upd H5 d (.dK (bT kvs (Sum.inr ru.1) (.bl true)))) t (.tup [.str ru.1,.int (k:Int)]) D=some (.lst (ts.map V.ref)):=by rw [aj nDt,aj YA];exact h.hD
 have kp:∀a xs,aS K H5 a xs->aS K (upd (upd (upd H5 d (.dK (bT kvs (Sum.inr ru.1) (.bl true)))) t (.tup [.str ru.1,.int (k:Int)])) D (.lst (ts.map V.ref++[.ref t]))) a xs:=λa xs z =>
  a7 jb ((af ht _).tup (iw h.hd z))
 refine⟨λb o hb=>?_,by rw [ae,bG];rfl,by rw [aj YA.symm,aj nt.symm,ae],?_,hZ (h.ev.keep kp) (a7 jb (aS.of ae)),.snoc h.emp e n p⟩
 .have:=h.sm b o hb;rw [aj (λz=>by rw [z,fD] at hb;cases hb),aj (λz=>by rw [z,Qz] at this;cases this),aj (λz=>by rw [z,fd] at hb;cases hb)];exact this
 rw [iI (by rw [h.keys];exact λz=>n (cN.mp z)),h.keys,bG,bG];rfl
def o6 (K:ba):Sp:=λvs H Q _=>∃(R:Addr)(rs:List Addr)(aa:List ar),vs=[.ref R]/\aH K H R (rs.map V.ref)/\bK K H rs aa/\aa.length<=1000/\(∀ru∈aa,ru.2.length<=8) /\
 ∀D ts bH H',H D=none->aA H H'->H' D=some (.lst (ts.map V.ref))->pK K H' ts bH->w6 aa bH->yN aa aa.length bH->Q (.ref D) H'
def ig:aK ["rules","told","empty","many","number","rule"] ["rules"] (av rR):=iM rfl rfl rfl rfl (by decide +kernel)
def Ac (F:iB K "found_empties" "found_empties" rR f fd)(T:Txt mg):bR P w K mg base gk 1 f fd ["rules"] (o6 K):=by
 refine F.ok ig (λvs H Q E h=>?_) (λeX A outer s H vs Q E hr h=>?_)
 .obtain⟨R,rs,aa,rfl,_⟩:=h;rfl
 obtain⟨R,rs,aa,rfl,hR,cy,bE,h8,q⟩:=h;have hu:=gh hr;refine⟨_,ai (az (i:=1) ig.nd rfl (bC rfl) (a_ ag))
  (ai (az (i:=2) ig.nd rfl (Or.inr rfl) g8)
  (ai (az (i:=3) ig.nd rfl (bC rfl) (ka iD ao))
  (ai (kS cg (aX nU (pv 3) (aD aG rfl T.len cY (ab (pv 1) ag)) (bJ _))
   (ai (az (i:=3) ig.nd rfl (bC rfl) (aD aG rfl T.len cY (ab (pv 1) ag)))
   (ak (bL cg rfl (nQ rfl T.JS (ab (pv 0) ag)) (g7 rfl (aB (aq (i:=4) ig.nd rfl (bC rfl)) (aB (aq (i:=5) ig.nd rfl (bC rfl)) b_)))
    (ak (bI (PW.pt (kR (eJ (eK hu (aL aZ (pv 5) ao (λ_ _=>rfl)) (pv 2)))
      (i8 (eI (aD (il rfl) rfl T.all boot_all (ab (bD ["part"] [(2,"empty")] rfl (fZ (aL aZ (pv 5) ao (λ_ _=>rfl))) (br rfl rfl) (by decide +kernel) rfl (by decide +kernel)
       (λ_ _ _ _ _=>aq (i:=0) (show (["part","empty"]:List Str).Nodup by decide +kernel) rfl (bC rfl)) (λ_ _ _ _ _=>b8) (λ_ _ _ _ _=>z5 (jf hu (pv 0) (pv 1)))) ag))))))
     (ai (iJ hu (pv 2) (aL aZ (pv 5) ao (λ_ _=>rfl)) f_ rfl)
     (ak (cI (g9 gF gW gX bU (pv 1) (ab (bo (ab (aL aZ (pv 5) ao (λ_ _=>rfl)) (ab (pv 4) ag))) ag))))) aQ))))))
  (ak (aN (pv 1)))))),?_⟩
 nofun
 refine⟨rq,λD hD d hd=>?_⟩;have Yz:d≠D:=λz=>by rw [z,ae] at hd;cases hd
 have tN:H d=none:=by rw [aj Yz] at hd;exact hd
 have e0:Cf K aa H (upd (upd H D (.lst [])) d (.dK [])) D d [] [] []:=⟨(af hD _).trans (af hd _),by rw [aj Yz.symm,ae];rfl,ae,rfl,.nil,.nil⟩;generalize upd (upd H D (.lst [])) d (.dK [])=H0 at e0;refine⟨1,rfl,?_⟩;refine⟨λm σ H5=>∃(ts:List Addr)(bH:List (Str×Nat))(kvs:List (aR×V)) (many:Int)(y4 y5:Option V),σ=[aM R,aM D,aM d,some (.int many),y4,y5]/\Cf K aa H H5 D d ts bH kvs/\-1<=many/\many<=bH.length/\(many=bH.length->yN aa aa.length bH)/\(m:Int)=aa.length+1 - many,
  ⟨aa.length+2,[],[],[],-1,none,none,rfl,e0,∅,by simp,by simp,by simp;omega⟩,?_⟩
 rintro m σ H5 ⟨ts,bH,kvs,many,y4,y5,rfl,S,b1,b2,cl,em⟩;obtain⟨lt,lk⟩:=S.len;refine⟨_,rfl,_,rfl,D,_,rfl,.inl (aH.of S.hD),_,_,rfl,rfl,_,rfl,?_⟩;refine cf (λc=>?_) (λc=>?_)
 .have c':=cZ c;rw [au,lt] at c';refine⟨λσ H5=>∃(xb:List Addr)(iN:List (Str×Nat))(gu:List (aR×V))(y4 y5:Option V),σ=[aM R,aM D,aM d,some (.int (bH.length:Int)),y4,y5]/\Cf K aa H H5 D d xb iN gu/\bH.length<=iN.length/\(iN.length=bH.length->yN aa aa.length iN),?_,?_⟩
  .rintro σ H6 ⟨xb,iN,gu,y4,y5,rfl,S2,l2,c2⟩;have:=S2.emp.len;exact⟨(aa.length+1 - bH.length:Int).toNat,∅,xb,iN,gu,_,_,_,rfl,S2,∅,∅,λz=>c2 ∅,∅⟩
  refine⟨_,rfl,D,_,rfl,.inl (aH.of S.hD),?_⟩;rw [au,lt];refine⟨_,rfl,R,_,rfl,S.sm.seq hR,?_⟩;refine k0 (xs:=rs.map V.ref) (λi σ H6=>∃(xb:List Addr)(iN:List (Str×Nat))(gu:List (aR×V))(y4 y5:Option V),σ=[aM R,aM D,aM d,some (.int (bH.length:Int)),y4,y5]/\Cf K aa H H6 D d xb iN gu/\bH.length<=iN.length/\(iN.length=bH.length->yN aa i iN))
   ⟨ts,bH,kvs,_,_,rfl,S,aF _,λ_ ru iY=>by simp at iY⟩ ?_ ?_ ?_
  .rintro i σ H6 _ ⟨xb,iN,gu,y4,y5,rfl,S2,_⟩;exact S2.sm.seq hR
  .rintro i x σ H6 t ex ⟨xb,iN,gu,y4,y5,rfl,S2,l2,c2⟩ ht
   ac_nf0
   rw [bz] at ex;obtain⟨r,er,rfl⟩:=cC.mp ex;obtain⟨ru,e1,p,v1,v2⟩:=cy.get er;have Ow:=h8 ru (b9 e1);have S3:=S2.same (af ht (.tup [.int (i:Int),.ref r]));have Oi:aS K (upd H6 t (.tup [.int (i:Int),.ref r])) t [.int (i:Int),.ref r]:=aS.of ae;generalize upd H6 t (.tup [.int (i:Int),.ref r])=H7 at S3 Oi;obtain⟨lt2,Of⟩:=S3.len;have el2:=S3.emp.len;have tk:aa.take (i+1)=aa.take i++[ru]:=by rw [cP,e1];rfl
   have kO:(¬((∀p∈ru.2,p∈iN.map (·.1))/\ru.1∉iN.map (·.1)))->(iN.length=bH.length->yN aa (i+1) iN):=λhn z Cv yg hp=>by
    rw [tk] at yg;rcases bQ.mp yg with h | h
    .exact c2 z Cv h hp
    rw [bF.mp h] at hp ⊢;exact Classical.byContradiction λhc=>hn ⟨hp,hc⟩
   refine⟨t,_,rfl,Oi,rfl,_,_,rfl,_,_,rfl,rfl,?_⟩;refine⟨_,rfl,r,_,_,_,rfl,rfl,S3.sm.tup v1,rfl,?_⟩;refine⟨_,rfl,d,_,rfl,cq.k (k:=Sum.inr ru.1) S3.hd,_,rfl,?_⟩;refine cf (λc3=>?_) (λc3=>?_)
   .have nm:ru.1∉iN.map (·.1):=λh=>by rw [(S3.mem _).mpr h] at c3;exact absurd c3 (by decide)
    refine⟨_,rfl,r,_,_,_,rfl,rfl,S3.sm.tup v1,rfl,p,rfl,⟨_,S3.sm.tup v2⟩,λD2 jb=>uR rfl (S3.sm.tup v2) ∅ S3.hd jb λH8 N6 QW=>?_⟩;have S4:=S3.same N6;refine⟨D2,_,rfl,aH.of QW,_,rfl,?_⟩;refine cf (λc4=>?_) (λc4=>?_)
    .have al:∀x∈ru.2,x∈iN.map (·.1):=λx hx=>(S4.mem x).mp (gK.mp c4 _ (j8 hx));refine⟨_,rfl,_,rfl,r,_,_,_,rfl,rfl,S4.sm.tup v1,rfl,d,_,rfl,pM.k (k:=Sum.inr ru.1) S4.hd (bM ∅),?_⟩;have v1':aS K (upd H8 d (.dK (bT gu (Sum.inr ru.1) (.bl true)))) r [.str ru.1,.ref p]:=iw S4.hd (S4.sm.tup v1);have Ng:upd H8 d (.dK (bT gu (Sum.inr ru.1) (.bl true))) D=some (.lst (xb.map V.ref)):=by rw [aj (λz=>by have:=S4.hD;rw [z,S4.hd] at this;cases this)];exact S4.hD
     refine⟨_,rfl,.inl ⟨rfl,_,aH.of Ng⟩,_,rfl,r,_,_,_,rfl,rfl,v1',rfl,_,rfl,iP,λt2 jl=>?_⟩;refine⟨D,_,_,rfl,rfl,(by rw [aj (aw Ng jl)];exact Ng),bM (by rw [au];omega),?_⟩;have S5:=S4.more hD tN e1 nm al jl;exact⟨xb++[t2],iN++[(ru.1,i)],_,_,_,rfl,S5,by rw [a9];omega,λz=>by rw [a9] at z;simp at z;omega⟩
    refine⟨xb,iN,gu,_,_,rfl,S4,l2,kO λ⟨ha,_⟩=>c4 (gK.mpr λb hb=>?_)⟩;obtain⟨x,hx,rfl⟩:=cX.mp hb;exact(S4.mem x).mpr (ha x hx)
   refine⟨xb,iN,gu,_,_,rfl,S3,l2,kO λ⟨_,hn⟩=>c3 ?_⟩;cases hq:(bw gu (Sum.inr ru.1)).isSome with
   | true=>exact absurd ((S3.mem _).mp hq) hn
   | false=>rfl
  rintro σ H6 ⟨xb,iN,gu,y4,y5,rfl,S2,l2,c2⟩;rw [au,aU cy] at c2;exact⟨xb,iN,gu,_,_,rfl,S2,l2,c2⟩
 have c':=of_decide_eq_false (q8.mpr c);rw [au,lt] at c';exact⟨_,rfl,q D ts bH H5 hD S.sm S.hD S.ev S.emp (cl ∅)⟩
end
end hU
namespace M11
open PySem L2
def Dn (b:Str->Bool):List Str->Nat
 | []=>0
 | z::r=>if b z=true then Dn b r+1 else 1
theorem BS (b:Str->Bool):∀zs:List Str,(∀z∈zs,b z=true)->Dn b zs=zs.length
 | [],_=>rfl
 | z::r,h=>by
  unfold Dn;rw [ax (h z cH),BS b r λx hx=>h x (dA _ hx)];rfl
theorem G0 (b:Str->Bool):∀(zs:List Str) (i:Nat)(z:Str),(∀x∈zs.take i,b x=true)->zs[i]?=some z->¬b z=true->Dn b zs=i+1
 | y::r,0,z,_,e,n=>by
  cases e;unfold Dn;rw [ay n]
 | y::r,i+1,z,h,e,n=>by
  unfold Dn;rw [ax (h y (by rw [List.take_succ_cons];exact cH)),G0 b r i z (λx hx=>h x (by rw [List.take_succ_cons];exact dA _ hx)) e n]
theorem GY (b:Str->Bool):∀zs:List Str,Dn b zs<=zs.length
 | []=>aF _
 | z::r=>by
  have:=GY b r;unfold Dn;rw [dY]
  split <;> omega
def cnt (n:Nat):List V:=(List.range n).map λk:Nat=>V.int (k:Int)
end M11
namespace hU
open PySem L2 M11
section
def Bg (K:ba):Sp:=λvs H Q _=>∃(R:Addr)(rs:List Addr)(aa:List ar),vs=[.ref R]/\aH K H R (rs.map V.ref)/\bK K H rs aa/\aa.length<=1000/\(∀ru∈aa,ru.2.length<=8)/\(aa.flatMap (·.2)).Nodup /\
 ∀H',aA H H'->Q .fg H'
def ny:aK ["strengths","met","way","words","word"] ["strengths"] (av zF):=iM rfl rfl rfl rfl (by decide +kernel)
def FC (F:iB K "refuse_twice" "refuse_twice" zF f fd)(T:Txt mg):bR P w K mg base gk 1 f fd ["strengths"] (Bg K):=by
 refine F.ok ny (λvs H Q E h=>?_) (λeX A outer s H vs Q E hr h=>?_)
 .obtain⟨R,rs,aa,rfl,_⟩:=h;rfl
 obtain⟨R,rs,aa,rfl,hR,cy,bE,h8,Ih,q⟩:=h;have hu:=gh hr;refine⟨_,ai (az (i:=1) ny.nd rfl (bC rfl) g8)
  (ak (bL cg rfl (a8 (pv 0)) (g7 rfl (aB (aq (i:=2) ny.nd rfl (bC rfl)) (aB (aq (i:=3) ny.nd rfl (bC rfl)) b_)))
   (ak (bL cg rfl (fZ (pv 3)) (aq (i:=4) ny.nd rfl (bC rfl))
    (ai (bI (eJ (jf hu (pv 4) (pv 1))) (ak iW) aQ) (ak (iJ hu (pv 1) (pv 4) f_ rfl))))))),?_⟩
 nofun
 intro e he;have Bs:∀o,aA H (upd H e o):=λo=>af he o;have ll:=aU cy;refine⟨_,rfl,R,rfl,⟨_,(Bs _).seq hR⟩,cJ (xs:=rs.map V.ref) (λi σ H5=>∃(kvs:List (aR×V))(y3 y4 y5:Option V),σ=[aM R,aM e,y3,y4,y5]/\H5=upd H e (.dK kvs) /\
  kvs.map (·.1)=((aa.take i).flatMap (·.2)).map Sum.inr) ⟨[],none,none,none,rfl,rfl,rfl⟩ ?_ ?_ ?_⟩
 .rintro i σ H5 _ ⟨kvs,y3,y4,y5,rfl,rfl,_⟩;exact(Bs _).seq hR
 .rintro i x σ H5 ex ⟨kvs,y3,y4,y5,rfl,rfl,hk⟩
  ac_nf0
  rw [bz] at ex;obtain⟨r,er,rfl⟩:=cC.mp ex;obtain⟨ru,e1,p,v1,v2⟩:=cy.get er;have li:=(bu.mp e1).1;have Ow:=h8 ru (b9 e1);have eT:(aa.take (i+1)).flatMap (·.2)=(aa.take i).flatMap (·.2)++ru.2:=by
   rw [cP,e1,i5];simp
  have lA:((aa.take i).flatMap (·.2)).length<=8 * i:=jC (aa.take i) i (by rw [bO];omega) λru iY=>h8 ru (i6 iY);have tS:((aa.take i).flatMap (·.2)++ru.2).Nodup:=by
   have e2:aa.flatMap (·.2)=((aa.take i).flatMap (·.2)++ru.2)++(aa.drop (i+1)).flatMap (·.2):=by
    rw [<-eT,<-i5,pR]
   rw [e2] at Ih;exact(j7.mp Ih).1
  refine⟨r,_,rfl,(Bs _).tup v1,rfl,_,_,rfl,_,_,rfl,rfl,?_⟩;refine⟨_,rfl,p,rfl,⟨_,(Bs _).tup v2⟩,oo (xs:=ru.2.map V.str) (λj σ H6=>∃(kvs:List (aR×V))(y5:Option V),σ=[aM R,aM e,some (.str ru.1),aM p,y5]/\H6=upd H e (.dK kvs) /\
   kvs.map (·.1)=((aa.take i).flatMap (·.2)++ru.2.take j).map Sum.inr) ⟨kvs,_,rfl,rfl,by rw [oO,iR];exact hk⟩ ?_ ?_ ?_⟩
  .rintro j σ H6 _ ⟨kvs,y5,rfl,rfl,_⟩;exact(Bs _).tup v2
  .rintro j x σ H6 pF ⟨kvs,y5,rfl,rfl,Dc⟩
   ac_nf0
   rw [bz] at pF;obtain⟨z,ez,rfl⟩:=cC.mp pF;have lj:=(bu.mp ez).1;have eS:ru.2.take (j+1)=ru.2.take j++[z]:=by rw [cP,ez];rfl
   have lk:kvs.length<=8 * i+8:=by
    have h1:=congrArg List.length Dc;rw [au,au,a9,bO] at h1;omega
   have nz:z∉(aa.take i).flatMap (·.2)++ru.2.take j:=λhz=>by
    have e3:(aa.take i).flatMap (·.2)++ru.2=((aa.take i).flatMap (·.2)++ru.2.take j)++([z]++ru.2.drop (j+1)):=by
     rw [lW,<-lW (ru.2.take j),<-eS,pR]
    rw [e3] at tS;exact(j7.mp tS).2.2 z hz z (by simp) rfl
   have nk:¬(Sum.inr z:aR)∈kvs.map (·.1):=by rw [Dc];exact λh=>nz (cN.mp h)
   refine⟨_,rfl,_,rfl,e,_,rfl,cq.k (k:=Sum.inr z) ae,_,rfl,?_⟩;refine cf (λc=>absurd ((d_ kvs _).mp c) nk) (λ_=>?_);refine⟨_,rfl,_,rfl,e,_,rfl,pM.k (k:=Sum.inr z) ae (bM ∅),?_⟩;refine⟨bT kvs (Sum.inr z) (.bl true),_,rfl,by rw [ng],?_⟩;rw [iI nk,Dc,eS,<-lW];simp only [bG,cO,mh]
  rintro σ H6 ⟨kvs,y5,rfl,rfl,Dc⟩;rw [au,cE,<-eT] at Dc;exact⟨kvs,_,_,_,rfl,rfl,Dc⟩
 rintro σ H5 ⟨kvs,y3,y4,y5,rfl,rfl,hk⟩;exact q _ (Bs _)
def xy (K:ba):Sp:=λvs H Q _=>∃(p d:Addr) (zs:List Str)(kvs:List (aR×V)),vs=[.ref p,.ref d]/\aS K H p (zs.map V.str)/\zs.length<=1000/\H d=some (.dK kvs) /\
 ∀D H',H D=none->aA H H'->H' D=some (.lst (cnt (Dn (λz=>(bw kvs (Sum.inr z)).isSome) zs)))->Q (.ref D) H'
def nF:aK ["parts","empty","places","place","part"] ["parts","empty"] (av vV):=iM rfl rfl rfl rfl (by decide +kernel)
def CI (F:iB K "first_places" "first_places" vV f fd)(T:Txt mg):bR P w K mg base gk 1 f fd ["parts","empty"] (xy K):=by
 refine F.ok nF (λvs H Q E h=>?_) (λeX A outer s H vs Q E hr h=>?_)
 .obtain⟨p,d,zs,kvs,rfl,_⟩:=h;rfl
 obtain⟨p,d,zs,kvs,rfl,hp,hz,hd,q⟩:=h;have hu:=gh hr;refine⟨_,ai (az (i:=2) nF.nd rfl (bC rfl) (a_ ag))
  (ai (bL cg rfl (nP rfl T.JS (ab (pv 0) ag)) (g7 rfl (aB (aq (i:=3) nF.nd rfl (bC rfl)) (aB (aq (i:=4) nF.nd rfl (bC rfl)) b_)))
   (ai (cI (g9 gF gW gX bU (pv 2) (ab (pv 3) ag)))
   (ak (bI (eJ (eK hu (pv 4) (pv 1))) (ak Fi) aQ))))
  (ak (aN (pv 2)))),?_⟩
 nofun
 refine⟨rq,λD hD=>?_⟩;have up1:∀n,cnt n++[V.int (n:Int)]=cnt (n+1):=λn=>by
  unfold cnt;rw [List.range_succ,bG];rfl
 refine⟨_,rfl,p,_,rfl,(af hD _).tup hp,?_⟩;refine pE (xs:=zs.map V.str) (λi σ H5=>∃(y3 y4:Option V),σ=[aM p,aM d,aM D,y3,y4]/\aA H H5/\H5 D=some (.lst (cnt i))/\∀z∈zs.take i,(bw kvs (Sum.inr z)).isSome=true)
  ⟨none,none,rfl,af hD _,ae,by simp⟩ ?_ ?_ ?_
 .rintro i σ H5 _ ⟨y3,y4,rfl,sm,_⟩;exact sm.tup hp
 .rintro i x σ H5 t ex ⟨y3,y4,rfl,sm,QX,qo⟩ ht
  ac_nf0
  rw [bz] at ex;obtain⟨z,ez,rfl⟩:=cC.mp ex;have li:=(bu.mp ez).1;have vO:=sm.trans (af ht (.tup [.int (i:Int),.str z]));have jb:upd H5 t (.tup [.int (i:Int),.str z]) D=some (.lst (cnt i)):=by rw [aj (aw QX ht)];exact QX
  have hv:aS K (upd H5 t (.tup [.int (i:Int),.str z])) t [.int (i:Int),.str z]:=aS.of ae;generalize upd H5 t (.tup [.int (i:Int),.str z])=H6 at vO jb hv;have N7:aA H (upd H6 D (.lst (cnt i++[V.int (i:Int)]))):=λb o hb=>by
   rw [aj (λz=>by rw [z,hD] at hb;cases hb)];exact vO b o hb
  refine⟨t,_,rfl,hv,rfl,_,_,rfl,_,_,rfl,rfl,?_⟩;refine⟨_,rfl,.inl ⟨rfl,_,aH.of jb⟩,_,rfl,D,_,_,rfl,rfl,jb,bM (by unfold cnt;rw [au,vf];omega),?_⟩;refine⟨_,rfl,_,rfl,d,_,rfl,cq.k (k:=Sum.inr z) (N7 _ _ hd),_,rfl,?_⟩;refine cf (λc=>?_) (λc=>?_)
  .refine⟨_,rfl,q D _ hD N7 ?_⟩;rw [ae,up1,G0 _ zs i z qo ez (λh=>by rw [h] at c;exact absurd c (by decide))]
  refine⟨_,_,rfl,N7,by rw [ae,up1],λx hx=>?_⟩;rw [cP,ez] at hx;rcases bQ.mp hx with h | h
  .exact qo x h
  rw [Option.toList_some,bF] at h;subst h;cases hq:(bw kvs (Sum.inr x)).isSome with
  | true=>rfl
  | false=>exact absurd (by rw [hq];rfl) c
 rintro σ H5 ⟨y3,y4,rfl,sm,QX,qo⟩;rw [au] at QX qo;rw [cE] at qo;exact⟨_,rfl,q D _ hD sm (by rw [BS _ zs qo];exact QX)⟩
end
end hU
namespace L2
open PySem
section
variable {prog:Program}{w:World}{K:Type} [DecidableEq K] {knd:KeyKind prog w K}{A:Around}{E:Value->Shared->Prop}
def tW {s:Shared}{d l:Addr}{items:Array Value}{n:Nat}{kvs more:List (K×Value)}{Q:Value->Shared->Prop}(hh:A.handled=none)(tN:s.heap.DictOf knd d kvs)(hx:s.heap.get? l=some { cls:=.type "list",data:=.seq items n })
  (hi:items.size=more.length)(hp:∀(m:Nat) kv,more[m]?=some kv->∃u,items[m]?=some u/\mN knd s.heap u kv)(hz:kvs.length+more.length<=sizeLine)
  (h:∀h' t',h'.DictOf knd d (more.foldl (λa p=>stored a p.1 p.2) kvs)->(∀b o,b≠d->s.heap.get? b=some o->h'.get? b=some o)->Q .none { s with heap:=h',toks:=t' }) :
  wpAny (model prog w) A (call (.builtin "dict.update") [.ref d,.ref l]) Q E s:=by
 refine wpAny_call (codeAny_call_builtin zo.plain PySem.F.entry_dict_update (zo.check _ _ _ _ _ _ _ _ tN.typeIs (PySem.F.args_dict_update_2 _ _) ?_));unfold Builtin.«dict.update»;refine aE ?_;unfold Builtin.Dict.selfAndRest;refine aE (wpAny_notOrdered_dict tN.typeIs ?_);show wpAny _ _ (pure (d,[Value.ref l])) _ _ s;refine aP ?_;show wpAny _ _ (Builtin.Dict.updateFrom "dict.update" d (.ref l) [] .none) _ _ s;unfold Builtin.Dict.updateFrom;refine aE (lS (T := "list") ⟨_,hx,rfl⟩ ?_);rw [ax zx];refine aE (px hx hh λh1 t1 k1=>?_);refine aE (wpAny_rule ?_);have l1:=k1 _ _ hx;refine aE (oQ ⟨_,l1,rfl,_,rfl⟩ ?_);have k2:∀b o,s.heap.get? b=some o->(h1.push { cls:=.type "list_iterator",data:=.fields #[.ref l,.int 0 0] }).get? b=some o:=λb o q=>cu _ (k1 _ _ q);refine aP ⟨oH gr _,Hf (knd:=knd) (A:=A) (l:=l) (items:=items) hh more 0 _ kvs _ _ (by rw [hi,oI]) ?_ ⟨_,dZ _ rfl,rfl,rfl⟩ ⟨_,k2 _ _ hx,rfl,n,rfl⟩ (λm kv e=>?_) hz λh' t' hd k3=>?_⟩
 .obtain⟨o,es,ep,q,r⟩:=tN;exact⟨o,es,ep,k2 _ _ q,r⟩
 .obtain⟨u,e1,e2⟩:=hp m kv e;exact⟨u,by rw [oI];exact e1,e2.keep λb o _ q=>k2 b o q⟩
 exact h h' t' hd λb o n q=>k3 b o n (cv (bN (k1 _ _ q))) (k2 b o q)
end
section
variable {X:Cx}{o e:Expr}{apos hV:Pos}{td ty:TE}
def Pe (K:ba)(td ty:TE):TE:=λσ H Q=>td σ H λx H1=>∃a,x=.ref a/\Tg H1 a/\ty σ H1 λy H2=>∃l ts kvs more,y=.ref l/\H2 a=some (.dK kvs)/\H2 l=some (.lst (ts.map V.ref)) /\
 Paired (λt kv=>aS K H2 t [kV kv.1,kv.2]) ts more/\kvs.length+more.length<=sizeLine/\Q .fg (upd H2 a (.dK (df more kvs)))
def Jk (hc:X.calm=true)(ho:PE X o td)(he:PE X e ty)(m:M1 X o "update" apos e hV):PE X (.Call (.Attribute o "update" apos) [e] [] hV) (Pe X.K td ty):=by
 intro ah s σ H Q I h;refine wpAny_Call_method m.base m.xg m.line zj zo PySem.F.type_dict_update (cQ (ho ah s σ H _ I h) λu s1 ⟨x,H1,I1,rx,a,ex,d,q1⟩=>?_);subst ex;obtain rfl:u=Value.ref a:=rx;obtain⟨t1,t2,_⟩:=Ar I1 d;refine⟨t1,t2,?_⟩;rw [m.trees];refine ro rfl (vi (oU (cQ (he ah s1 σ H1 _ I1 q1) λiv s2 ⟨y,H2,I2,ry,l,ts,kvs,more,ey,ea,el,p,hz,q2⟩=>Calls.spliced_nil ?_)));subst ey;cases (show iv=Value.ref l from ry);obtain⟨z,C7,vs,rel,dd⟩:=yq I2.cw ea;obtain⟨z2,aT,n,rv,hl⟩:=(show cR X.prog X.w H2 s2.heap l (.lst _) from I2.cw l _ el);obtain⟨ms,r1,r2⟩:=pairs_at I2 p rv;have l1:=aU r2;have l2:=r1.length;have l3:=aU p;refine tW (I2.ok.hd hc) dd hl (by simpa using l1) (λm kv em=>?_) (by rw [<-rel.length,<-l2];exact hz) λh' t' hd kk=>?_
 .obtain⟨u,e1,e2⟩:=Paired.at_ r2 m kv em;exact⟨u,by simpa using e1,e2⟩
 have hn:(df more kvs).length<=sizeLine:=dX (sN more kvs) hz;have he:∃q,h'.get? a=some q:=let ⟨q,_,_,hq,_⟩:=hd;⟨q,hq⟩;exact⟨.fg,_,I2.write (x:=a) (e:=a) (by rw [ea];exact True.intro) (.inl rfl) (λb q hb z=>kk b q hb z) he (sU hn C7 (sM r1 rel) hd),rfl,q2⟩
def uT {X:Cx}:iC X (.builtin "len") (λxs H Q=>∃a kvs,xs=[.ref a]/\H a=some (.dK kvs)/\Q (.int kvs.length) H):=by
 intro ah s σ H xs us Q I r h;obtain⟨a,kvs,rfl,e,q⟩:=h;obtain⟨u,rfl,rx⟩:=vals1 r;cases (show u=Value.ref a from rx);exact Ru I (.inl e) λt s' I'=>⟨.int _,H,I',⟨_,rfl⟩,q⟩
end
theorem ye:∀{us:List Value}{ns:List Int},PyProof.Rows.IntsAre us ns->∀ys:List (Int×Tok),us=ys.map (λp=>Value.int p.1 p.2)->ys.map (·.1)=ns
 | _,_,.nil,ys,e=>by
  cases ys with
  | nil=>rfl
  | cons _ _=>cases e
 | _,_,.cons n t h,ys,e=>by
  cases ys with
  | nil=>cases e
  | cons y r =>
   rw [cO] at e;injection e with e1 e2;injection e1 with e3 e4;rw [cO,ye h r e2,e3]
def uS {X:Cx}(hc:X.calm=true):iC X (.builtin "sum") (λxs H Q=>∃a ns,xs=[.ref a]/\aH X.K H a (List.map V.int ns)/\Q (.int ns.sum) H):=by
 intro ah s σ H xs us Q I r h;obtain⟨a,ns,rfl,hq,q⟩:=h;obtain⟨u,rfl,rx⟩:=vals1 r;cases rx;obtain⟨aT,rv,pl,hz⟩:=I.list hq;have hi:=intsAre_of rv;have qo:AllInts aT.toArray:=hi.allInts;obtain⟨xs,e⟩:=qo.items;have hl:=pl.isList;rw [e] at hl;refine sum_intListG (I.ok.hd hc) hl λh' tk t' hk=>⟨.int _,H,I.kept hk,⟨_,rfl⟩,?_⟩;have e5:xs.toList.map (·.1)=ns:=ye hi xs.toList (by
  have:=congrArg Array.toList e;simpa [intItems] using this)
 have e6:preSum (numAt xs) xs.size=ns.sum:=by
  rw [preSum_eq,e5,mW (by rw [<-e5];simp)]
 rw [e6];exact q
def yx {K:ba}{H:Hp}{p D:Addr}{zs:List Str}{σ:St}{v:V}{x:Str}{Qp:Hp->Prop}(hp:aS K H p (zs.map V.str))(hz:zs.length<=1000)(hD:H D=none)
  (q:∀ts H2,aA H H2->H2 D=some (.lst (ts.map V.ref))->Paired (λt h=>aS K H2 t [.str h,v]) ts zs->Qp H2) :
  ∃W:Nat->Nat->List V->St->Hp->Prop,(∃m,W 0 m [] (eU [x] [] σ) (upd H D (.lst []))) /\
 ∀i m ys σ' H,W i m ys σ' H->((oC K p).stop i H/\Qp H)\/((oC K p).go i H/\∃m',m' < m/\∀x H',(oC K p).mP i H x H'->dN 0 x σ' H' λσ2 H2=>iu σ2 H2 λb H3 =>
  if b=true then tP (gY (gS 0) (gY (tC v) rB)) σ2 H3 λy H4=>H4 D=some (.lst ys)/\ys.length < sizeLine/\W (i+1) m' (ys++[y]) σ2 (upd H4 D (.lst (ys++[y]))) else W (i+1) m' ys σ2 H3):=by
 refine gQ (xs:=zs.map V.str) (λi ys σ2 H2=>∃ts:List Addr,ys=ts.map V.ref/\ts.length=i/\Paired (λt h=>aS K H2 t [.str h,v]) ts (zs.take i)/\(∃y0,σ2=[y0])/\aA H H2/\H2 D=some (.lst ys))
  ⟨[],rfl,rfl,.nil,⟨none,rfl⟩,af hD _,ae⟩ (λi ys σ2 H2 _ h=>?_) (λi x ys σ2 H2 ex h=>?_) (λys σ2 H2 h=>?_)
 .obtain⟨_,_,_,_,_,sm,_⟩:=h;exact sm.tup hp
 .obtain⟨ts,rfl,ht,ql,⟨y0,rfl⟩,sm,hd⟩:=h;rw [bz] at ex;obtain⟨z,ez,rfl⟩:=cC.mp ex;have li:=(bu.mp ez).1;refine goN (yl ?_);refine⟨_,rfl,iP,λt jl=>⟨?_,bM (by rw [au];omega),ts++[t],?_,?_,?_,⟨_,rfl⟩,?_,ae⟩⟩
  .rw [aj (aw hd jl)];exact hd
  .rw [bG];rfl
  .rw [a9,ht];rfl
  .rw [cP,ez];have ji:upd H2 t (.tup [.str z,v]) D=some (.lst (ts.map V.ref)):=by rw [aj (aw hd jl)];exact hd
   exact hZ (Paired.e_ ql λt' h' z=>a7 ji ((af jl _).tup z)) (a7 ji (aS.of ae))
  intro b o hb;rw [aj (λz=>by rw [z,hD] at hb;cases hb)];exact af jl _ _ _ (sm b o hb)
 obtain⟨ts,rfl,ht,ql,_,sm,hd⟩:=h;rw [au,cE] at ql;exact q ts H2 sm hd ql
end L2
namespace M11
open PySem L2
def oB (a:List Str)(h x:Str):x∈iA a h↔x∈a\/x=h:=by
 unfold iA;split
 .constructor
  .exact .inl
  rintro(z | rfl) <;> assumption
 simp
def B_ {a:List Str}(h:Str)(n:a.Nodup):(iA a h).Nodup:=by
 unfold iA;split
 .exact n
 rename_i q
 refine j7.mpr ⟨n,by simp,λx hx y hy=>?_⟩;rw [bF.mp hy];exact λz=>q (z ▸ hx)
def Ca (a:List Str)(h:Str):a.length<=(iA a h).length:=by
 unfold iA;split <;> simp
def Ka {a:List Str}{h:Str}(e:(iA a h).length=a.length):iA a h=a:=by
 unfold iA at e ⊢;split
 .rfl
 rename_i q
 rw [ay q,a9] at e;simp at e
theorem iq:∀(hs bV:List Str)(x:Str),x∈wQ bV hs↔x∈bV\/x∈hs
 | [],bV,x=>by simp [wQ]
 | h::r,bV,x=>by
  show x∈wQ (iA bV h) r↔_;rw [iq r,oB,bW,or_assoc]
theorem pH:∀(hs:List Str){bV:List Str},bV.Nodup->(wQ bV hs).Nodup
 | [],_,n=>n
 | h::r,_,n=>pH r (B_ h n)
theorem AM:∀(hs bV:List Str),bV.length<=(wQ bV hs).length
 | [],_=>aF _
 | h::r,bV=>dX (Ca bV h) (AM r _)
theorem Hm:∀(hs bV:List Str),(wQ bV hs).length=bV.length->wQ bV hs=bV
 | [],_,_=>rfl
 | h::r,bV,e=>by
  have h1:=Ca bV h;have h2:=AM r (iA bV h);have e':(wQ (iA bV h) r).length=bV.length:=e;show wQ (iA bV h) r=bV;rw [Hm r _ ∅];exact Ka ∅
inductive NX (aa:List ar)(s:Str):Str->Prop
 | start:NX aa s s
 | step {ru:ar}{x:Str}:NX aa s ru.1->ru∈aa->x∈ru.2->NX aa s x
def HP (aa:List ar) (n:Nat) (ms:List Str):Prop:=∀ru∈aa.take n,ru.1∈ms->∀x∈ru.2,x∈ms
def NX.among {aa:List ar}{s x:Str}(h:NX aa s x):x∈s::aa.flatMap (·.2):=by
 cases h with
 | start=>exact cH
 | step _ h1 h2=>exact dA _ (qX.mpr ⟨_,h1,h2⟩)
end M11
namespace hU
open PySem L2 M11
section
def Kn (K:ba):Sp:=λvs H Q _=>∃(R:Addr)(rs:List Addr)(aa:List ar)(jI:ar),vs=[.ref R]/\aH K H R (rs.map V.ref)/\bK K H rs aa/\aa[0]?=some jI/\aa.length<=1000/\(∀ru∈aa,ru.2.length<=8) /\
 ∀d kvs ms H',H d=none->aA H H'->H' d=some (.dK kvs)->kvs.map (·.1)=ms.map Sum.inr->jI.1∈ms->(∀x∈ms,NX aa jI.1 x)->HP aa aa.length ms->Q (.ref d) H'
def uo:aK ["rules","met","many","head","parts"] ["rules"] (av LU):=iM rfl rfl rfl rfl (by decide +kernel)
structure OR (K:ba)(aa:List ar)(s0:Str)(H H5:Hp)(d:Addr) (ms:List Str)(kvs:List (aR×V)):Prop where
 sm:aA H H5
 hd:H5 d=some (.dK kvs)
 keys:kvs.map (·.1)=ms.map Sum.inr
 nd:ms.Nodup
 st:s0∈ms
 Sd:∀x∈ms,NX aa s0 x
def OR.len {aa:List ar}{s0:Str}{H H5:Hp}{d:Addr}{ms:List Str}{kvs:List (aR×V)}(h:OR K aa s0 H H5 d ms kvs)(hl:aa.length<=1000)(h8:∀ru∈aa,ru.2.length<=8):kvs.length=ms.length/\ms.length<=8001:=by
 refine⟨?_,?_⟩
 .have:=congrArg List.length h.keys;simpa using this
 have h1:=gO ms _ h.nd λx hx=>(h.Sd x hx).among;have h2:=jC aa 1000 hl h8;rw [dY] at h1;omega
def Mt (F:iB K "names_met" "names_met" LU f fd)(T:Txt mg):bR P w K mg base gk 1 f fd ["rules"] (Kn K):=by
 refine F.ok uo (λvs H Q E h=>?_) (λeX A outer s H vs Q E hr h=>?_)
 .obtain⟨R,rs,aa,jI,rfl,_⟩:=h;rfl
 obtain⟨R,rs,aa,jI,rfl,hR,cy,Ol,bE,h8,q⟩:=h;have hu:=gh hr;refine⟨_,ai (az (i:=1) uo.nd rfl (bC rfl) (Jl (Fl (aL aZ (aL bB (pv 0) ao (λ_ _=>rfl)) ao (λ_ _=>rfl)) f_ Jf) rfl rfl (by simp) (show 1<=15 by decide)))
  (ai (az (i:=2) uo.nd rfl (bC rfl) ao)
  (ai (kS cg (aX nU (pv 2) (aD uT rfl T.len cY (ab (pv 1) ag)) (bJ _))
   (ai (az (i:=2) uo.nd rfl (bC rfl) (aD uT rfl T.len cY (ab (pv 1) ag)))
   (ak (bL cg rfl (a8 (pv 0)) (g7 rfl (aB (aq (i:=3) uo.nd rfl (bC rfl)) (aB (aq (i:=4) uo.nd rfl (bC rfl)) b_)))
    (ak (bI (eJ (jf hu (pv 3) (pv 1)))
     (ak (cI (Jk rfl (pv 1) (bD ["part"] [] rfl (fZ (pv 4)) (br rfl rfl) (by decide +kernel) rfl (by decide +kernel)
       (λ_ _ _ _ _=>aq (i:=0) (show (["part"]:List Str).Nodup by decide +kernel) rfl (bC rfl)) (λ_ _ _ _ _=>b8) (λ_ _ _ _ _=>bo (ab (pv 0) (ab f_ ag)))) ⟨rfl,rfl,rfl,rfl⟩))) aQ))))))
  (ak (aN (pv 1))))),?_⟩
 nofun
 intro d hd;have ll:=aU cy;have l0:=(bu.mp Ol).1;obtain⟨r0,Rc⟩:∃r,rs[0]?=some r:=⟨rs[0]'∅,dG ∅⟩;obtain⟨aaa,e0,p0,w1,w2⟩:=cy.get Rc;rw [Ol] at e0;cases e0;have X8:=af hd (.dK []);refine⟨_,rfl,R,_,_,.ref r0,rfl,rfl,X8.seq hR,?_,r0,_,_,_,rfl,rfl,X8.tup w1,rfl,?_⟩
 .have e7:(rs.map V.ref)[0]?=some (.ref r0):=by rw [bz,Rc];rfl
  exact bZ (j:=0) e7
 refine⟨ae,[((Sum.inr jI.1:aR),.bl true)],rfl,(by show 1<=15;decide),?_⟩;have S0:OR K aa jI.1 H (upd (upd H d (.dK [])) d (.dK (mD [] [((Sum.inr jI.1:aR),.bl true)]))) d [jI.1] [((Sum.inr jI.1:aR),.bl true)]:=by
  rw [ng];exact⟨af hd _,ae,rfl,by simp,by simp,λx hx=>by rw [bF.mp hx];exact .start⟩
 generalize upd (upd H d (.dK [])) d (.dK (mD [] [((Sum.inr jI.1:aR),.bl true)]))=H0 at S0;refine⟨λm σ H5=>∃(ms:List Str)(kvs:List (aR×V)) (many:Int)(y3 y4:Option V),σ=[aM R,aM d,some (.int many),y3,y4]/\OR K aa jI.1 H H5 d ms kvs/\0<=many/\many<=ms.length/\(many=ms.length->HP aa aa.length ms)/\(m:Int)=8002 - many,
  ⟨8002,[jI.1],_,0,none,none,rfl,S0,∅,by simp,by simp,∅⟩,?_⟩
 rintro m σ H5 ⟨ms,kvs,many,y3,y4,rfl,S,b1,b2,cl,em⟩;obtain⟨lk,lm⟩:=S.len bE h8;refine⟨_,rfl,_,rfl,d,_,rfl,S.hd,_,_,rfl,rfl,_,rfl,?_⟩;refine cf (λc=>?_) (λc=>?_)
 .have c':=cZ c;rw [lk] at c';refine⟨λσ H5=>∃(qC:List Str)(gu:List (aR×V))(y3 y4:Option V),σ=[aM R,aM d,some (.int (ms.length:Int)),y3,y4]/\OR K aa jI.1 H H5 d qC gu/\ms.length<=qC.length/\(qC.length=ms.length->HP aa aa.length qC),?_,?_⟩
  .rintro σ H6 ⟨qC,gu,y3,y4,rfl,S2,l2,c2⟩;exact⟨(8002 - ms.length:Int).toNat,∅,qC,gu,_,_,_,rfl,S2,∅,∅,λz=>c2 ∅,∅⟩
  refine⟨_,rfl,d,_,rfl,S.hd,?_⟩;rw [lk];refine⟨_,rfl,R,rfl,⟨_,S.sm.seq hR⟩,?_⟩;refine cJ (xs:=rs.map V.ref) (λi σ H6=>∃(qC:List Str)(gu:List (aR×V))(y3 y4:Option V),σ=[aM R,aM d,some (.int (ms.length:Int)),y3,y4]/\OR K aa jI.1 H H6 d qC gu/\ms.length<=qC.length/\(qC.length=ms.length->HP aa i qC))
   ⟨ms,kvs,_,_,rfl,S,aF _,λ_ ru iY=>by simp at iY⟩ ?_ ?_ ?_
  .rintro i σ H6 _ ⟨qC,gu,y3,y4,rfl,S2,_⟩;exact S2.sm.seq hR
  .rintro i x σ H6 ex ⟨qC,gu,y3,y4,rfl,S2,l2,c2⟩
   ac_nf0
   rw [bz] at ex;obtain⟨r,er,rfl⟩:=cC.mp ex;obtain⟨ru,e1,p,v1,v2⟩:=cy.get er;have Ow:=h8 ru (b9 e1);have tk:aa.take (i+1)=aa.take i++[ru]:=by rw [cP,e1];rfl
   obtain⟨Of,lm2⟩:=S2.len bE h8;have mem:(bw gu (Sum.inr ru.1)).isSome=true↔ru.1∈qC:=by rw [d_,S2.keys];exact cN
   refine⟨r,_,rfl,S2.sm.tup v1,rfl,_,_,rfl,_,_,rfl,rfl,?_⟩;refine⟨_,rfl,_,rfl,d,_,rfl,cq.k (k:=Sum.inr ru.1) S2.hd,_,rfl,?_⟩;refine cf (λc3=>?_) (λc3=>?_)
   .have im:=mem.mp c3;refine⟨_,rfl,d,rfl,.inl ⟨_,.inl S2.hd⟩,_,rfl,p,rfl,⟨_,S2.sm.tup v2⟩,λD2 jb=>yx (S2.sm.tup v2) ∅ jb λts H8 N6 QW Y_=>?_⟩;have kp:Paired (λt (kv:aR×V)=>aS K H8 t [kV kv.1,kv.2]) ts (ru.2.map λh=>((Sum.inr h:aR),V.bl true)):=cx Y_ λ_ _ z=>z;refine⟨D2,ts,gu,_,rfl,N6 _ _ S2.hd,QW,kp,fits (by rw [au];omega),?_⟩;have aao:=AM ru.2 qC;refine⟨wQ qC ru.2,df (ru.2.map λh=>((Sum.inr h:aR),V.bl true)) gu,_,_,rfl,⟨λb o hb=>?_,ae,nW ru.2 gu qC S2.keys,pH ru.2 S2.nd,(iq ru.2 qC _).mpr (.inl S2.st),λx hx=>?_⟩,∅,λz Cv yg hh=>?_⟩
    .rw [aj (λz=>by rw [z,hd] at hb;cases hb)];exact N6 _ _ (S2.sm b o hb)
    .rcases (iq ru.2 qC x).mp hx with h | h
     .exact S2.Sd x h
     exact .step (S2.Sd _ im) (b9 e1) h
    have e9:=Hm ru.2 qC ∅;rw [e9] at hh ⊢;rw [tk] at yg;rcases bQ.mp yg with h | h
    .exact c2 ∅ Cv h hh
    rw [bF.mp h];intro x hx;rw [<-e9];exact(iq ru.2 qC x).mpr (.inr hx)
   refine⟨qC,gu,_,_,rfl,S2,l2,λz Cv yg hh=>?_⟩;rw [tk] at yg;rcases bQ.mp yg with h | h
   .exact c2 z Cv h hh
   rw [bF.mp h] at hh;exact absurd (mem.mpr hh) c3
  rintro σ H6 ⟨qC,gu,y3,y4,rfl,S2,l2,c2⟩;rw [au,ll] at c2;exact⟨qC,gu,_,_,rfl,S2,l2,c2⟩
 have c':=of_decide_eq_false (q8.mpr c);rw [lk] at c';exact⟨_,rfl,q d kvs ms H5 hd S.sm S.hd S.keys S.st S.Sd (cl ∅)⟩
end
end hU
namespace M11
open PySem L2
abbrev G:=Str->Option Int
def fk (g:G)(h:Str) (n:Int):G:=λz=>if z=h then some n else g z
def aV (g:G)(ru:ar):Int:=1+(ru.2.map λp=>(g p).getD 0).sum
def lB (g:G)(ru:ar):Bool:=ru.2.all λp=>(g p).isSome
def cV (bt:Int->Int->Bool)(g:G)(ru:ar):Bool:=lB g ru && (!(g ru.1).isSome || bt (aV g ru) ((g ru.1).getD 0))
def sstep (bt:Int->Int->Bool)(a:G×Bool)(ru:ar):G×Bool:=if cV bt a.1 ru=true then (fk a.1 ru.1 (aV a.1 ru),true) else a
def tQ (bt:Int->Int->Bool)(aa:List ar)(g:G):G×Bool:=aa.foldl (sstep bt) (g,false)
inductive fj (bt:Int->Int->Bool)(aa:List ar):G->G->Prop
 | refl {g:G}:fj bt aa g g
 | step {g g1:G}{ru:ar}:fj bt aa g g1->ru∈aa->cV bt g1 ru=true->fj bt aa g (fk g1 ru.1 (aV g1 ru))
def jc (bt:Int->Int->Bool)(aa:List ar)(g:G):Prop:=∀ru∈aa,cV bt g ru=false
def pL (bt:Int->Int->Bool)(aa:List ar):Nat->G->Prop
 | 0,g=>(tQ bt aa g).2=false
 | n+1,g=>(tQ bt aa g).2=false\/pL bt aa n (tQ bt aa g).1
def fj.trans {bt:Int->Int->Bool}{aa:List ar}{g g1 g2:G}(h:fj bt aa g g1)(k:fj bt aa g1 g2):fj bt aa g g2:=by
 induction k with
 | refl=>exact h
 | step _ a b ih=>exact .step ih a b
theorem sF (bt:Int->Int->Bool)(aa:List ar):∀(l:List ar)(a:G×Bool),(∀ru∈l,ru∈aa)->fj bt aa a.1 (l.foldl (sstep bt) a).1
 | [],a,_=>.refl
 | ru::l,a,h=>by
  have ih:=sF bt aa l (sstep bt a ru) λx hx=>h x (dA _ hx);refine fj.trans ?_ ih;unfold sstep;by_cases c:cV bt a.1 ru=true
  .rw [ax c];exact .step .refl (h ru cH) c
  rw [ay c];exact .refl
theorem uI (bt:Int->Int->Bool):∀(l:List ar)(a:G×Bool),a.2=true->(l.foldl (sstep bt) a).2=true
 | [],a,h=>h
 | ru::l,a,h=>by
  refine uI bt l (sstep bt a ru) ?_;unfold sstep
  split
  .rfl
  exact h
theorem sH (bt:Int->Int->Bool):∀(l:List ar)(a:G×Bool),(l.foldl (sstep bt) a).2=false->(l.foldl (sstep bt) a).1=a.1/\∀ru∈l,cV bt a.1 ru=false
 | [],a,_=>⟨rfl,λ_ h=>nomatch h⟩
 | ru::l,a,h=>by
  by_cases c:cV bt a.1 ru=true
  .have e:sstep bt a ru=(fk a.1 ru.1 (aV a.1 ru),true):=ax c;have h':(l.foldl (sstep bt) (sstep bt a ru)).2=false:=h;rw [e,uI bt l _ rfl] at h';cases h'
  have e:sstep bt a ru=a:=ay c;have h':(l.foldl (sstep bt) (sstep bt a ru)).2=false:=h;rw [e] at h';obtain⟨i1,i2⟩:=sH bt l a h';refine⟨by rw [List.foldl_cons,e];exact i1,λCv hr=>?_⟩;rcases bW.mp hr with z | z
  .rw [z];exact q8.mpr c
  exact i2 Cv z
end M11
namespace L2
open PySem M11
def cW.tup {K:ba}{H H':Hp}{d a:Addr}{kvs:List (aR×V)}{xs:List V}(s:cW d H H')(hd:H d=some (.dK kvs))(h:aS K H a xs):aS K H' a xs:=by
 rcases h with (h | ⟨u,h⟩) | h
 .exact .inl (.inl (s _ _ (λz=>by rw [z,hd] at h;cases h) h))
 .exact .inl (.inr ⟨u,s _ _ (λz=>by rw [z,hd] at h;cases h) h⟩)
 exact .inr h
def cW.seq {K:ba}{H H':Hp}{d a:Addr}{kvs:List (aR×V)}{xs:List V}(s:cW d H H')(hd:H d=some (.dK kvs))(h:aH K H a xs):aH K H' a xs:=by
 rcases h with (h | ⟨u,h⟩) | h
 .exact .inl (.inl (s _ _ (λz=>by rw [z,hd] at h;cases h) h))
 .exact .inl (.inr ⟨u,s _ _ (λz=>by rw [z,hd] at h;cases h) h⟩)
 exact .inr h
def DJ {K:ba}{H:Hp}{p D d:Addr}{zs:List Str}{kvs:List (aR×V)}{g:G}{σ:St}{js:List (Nat×Str)}{Qp:Hp->Prop}(hσ:eU ["part"] js σ=[none,aM d])(hp:aS K H p (zs.map V.str))(hz:zs.length<=1000)
  (hd:H d=some (.dK kvs))(hv:∀z,bw kvs (Sum.inr z)=(g z).map V.int)(ha:∀z∈zs,(g z).isSome=true)(hD:H D=none)(q:∀H2,aA H H2->H2 D=some (.lst ((zs.map λz=>(g z).getD 0).map V.int))->Qp H2) :
  ∃W:Nat->Nat->List V->St->Hp->Prop,(∃m,W 0 m [] (eU ["part"] js σ) (upd H D (.lst []))) /\
 ∀i m ys σ' H,W i m ys σ' H->((oC K p).stop i H/\Qp H)\/((oC K p).go i H/\∃m',m' < m/\∀x H',(oC K p).mP i H x H'->dN 0 x σ' H' λσ2 H2=>iu σ2 H2 λb H3 =>
  if b=true then A7 (gS 1) (gS 0) σ2 H3 λy H4=>H4 D=some (.lst ys)/\ys.length < sizeLine/\W (i+1) m' (ys++[y]) σ2 (upd H4 D (.lst (ys++[y]))) else W (i+1) m' ys σ2 H3):=by
 refine gQ (xs:=zs.map V.str) (λi ys σ2 H2=>ys=(((zs.take i).map λz=>(g z).getD 0).map V.int)/\(∃y0,σ2=[y0,aM d])/\aA H H2/\H2 D=some (.lst ys))
  ⟨rfl,⟨none,hσ⟩,af hD _,ae⟩ (λi ys σ2 H2 _ h=>h.2.2.1.tup hp) (λi x ys σ2 H2 ex h=>?_) (λys σ2 H2 h=>?_)
 .obtain⟨rfl,⟨y0,rfl⟩,sm,hd2⟩:=h;rw [bz] at ex;obtain⟨z,ez,rfl⟩:=cC.mp ex;have li:=(bu.mp ez).1;obtain⟨n,en⟩:=lX.mp (ha z (b9 ez));have hg:cq H2 d (.str z) (some (.int n)):=by
   have:=cq.k (k:=Sum.inr z) (sm _ _ hd);rw [hv,en] at this;exact this
  refine goN (yl ?_);refine⟨_,rfl,_,rfl,d,_,rfl,hg,hd2,bM (by rw [au,au,bO];omega),?_,⟨_,rfl⟩,?_,ae⟩
  .rw [cP,ez,bG,bG];show _=_++[V.int ((g z).getD 0)];rw [en];rfl
  intro b o hb;rw [aj (λz=>by rw [z,hD] at hb;cases hb)];exact sm b o hb
 obtain⟨rfl,_,sm,hd2⟩:=h;rw [au,cE] at hd2;exact q H2 sm hd2
end L2
namespace hU
open PySem L2 M11
section
def iS (K:ba)(q:Str)(params:Arguments)(body:Expr)(scope:Scope)(bt:Int->Int->Bool):Sp:=λvs H Q _=>∃(R:Addr)(rs:List Addr)(aa:List ar)(d fl c':Addr)(pm gU:Value)(kvs:List (aR×V)) (ks:List Str)(g:G),
 vs=[.ref R,.ref d,.ref fl]/\aH K H R (rs.map V.ref)/\bK K H rs aa/\aa.length<=1000/\(∀ru∈aa,ru.2.length<=8)/\H d=some (.dK kvs)/\kvs.map (·.1)=ks.map Sum.inr/\ks.Nodup/\ks.length<=10000 /\
 (∀z,bw kvs (Sum.inr z)=(g z).map V.int)/\(∃n,pL bt aa n g)/\H fl=some (pj fl (PySem.W.kla_obj "<lambda>" q params body scope [] pm c' gU))/\H c'=some (kc c' q) /\
 ∀(mH:List (aR×V)) (Qi:List Str)(g':G)(H':Hp),cW d H H'->H' d=some (.dK mH)->mH.map (·.1)=Qi.map Sum.inr->(∀z,bw mH (Sum.inr z)=(g' z).map V.int)->fj bt aa g g'->jc bt aa g'->mH.length<=20000->Q (.ref d) H'
def iT:aK ["rules","sizes","better","changed","head","parts","size"] ["rules","sizes","better"] (av nK):=iM rfl rfl rfl rfl (by decide +kernel)
structure Ek (K:ba)(aa:List ar) (Ic:List Str)(H H5:Hp)(d:Addr)(kvs:List (aR×V)) (ks:List Str)(g:G):Prop where
 sm:cW d H H5
 hd:H5 d=some (.dK kvs)
 keys:kvs.map (·.1)=ks.map Sum.inr
 nd:ks.Nodup
 sub:∀x∈ks,x∈Ic++aa.map (·.1)
 val:∀z,bw kvs (Sum.inr z)=(g z).map V.int
def Ek.len {aa:List ar}{Ic:List Str}{H H5:Hp}{d:Addr}{kvs:List (aR×V)}{ks:List Str}{g:G}(h:Ek K aa Ic H H5 d kvs ks g):kvs.length<=Ic.length+aa.length:=by
 have h1:=congrArg List.length h.keys;have h2:=gO ks _ h.nd h.sub;rw [a9,au] at h2;rw [au,au] at h1;omega
def Ek.same {aa:List ar}{Ic:List Str}{H H5 H6:Hp}{d:Addr}{kvs:List (aR×V)}{ks:List Str}{g:G}(h:Ek K aa Ic H H5 d kvs ks g)(s:aA H5 H6):Ek K aa Ic H H6 d kvs ks g :=
 ⟨λb o n e=>s _ _ (h.sm b o n e),s _ _ h.hd,h.keys,h.nd,h.sub,h.val⟩
def Ek.put {aa:List ar}{Ic:List Str}{H H5:Hp}{d:Addr}{kvs:List (aR×V)}{ks:List Str}{g:G}(h:Ek K aa Ic H H5 d kvs ks g){ru:ar}(hr:ru∈aa) (n:Int) :
  Ek K aa Ic H (upd H5 d (.dK (bT kvs (Sum.inr ru.1) (.int n)))) d (bT kvs (Sum.inr ru.1) (.int n)) (iA ks ru.1) (fk g ru.1 n):=by
 refine⟨λb o nb e=>by rw [aj nb];exact h.sm b o nb e,ae,kY h.keys ru.1,B_ ru.1 h.nd,λx hx=>?_,λz=>?_⟩
 .rcases (oB ks ru.1 x).mp hx with z | z
  .exact h.sub x z
  rw [z];exact fQ _ (j8 hr)
 rw [rA];unfold fk;by_cases c:z=ru.1
 .rw [ax c,ax (by rw [c])];rfl
 rw [ay c,ay (λe=>c (mf e)),h.val]
def uB (F:iB K "settled_sizes" "settled_sizes" nK f fd)(T:Txt mg){q:Str}{params:Arguments}{body:Expr}{scope:Scope}{bt:Int->Int->Bool}{te:TE}(S:aK ["size","known"] ["size","known"] scope)
  (n_:∀(pm gU:Value)(c':Addr)(us:List Value),us.length=(["size","known"]:List Str).length->bindArgs (PySem.W.kla_fn "<lambda>" q params body scope [] pm (.ref c') gU) ⟨us,[]⟩=pure ((["size","known"]:List Str).zip us))
  (jA:∀(f c':Addr)(A:Around)(outer:List Env)(s:Shared)(H:Hp),PE (pI gk P w K mg base ["size","known"] q scope f (.ref c') A outer s H λ_ _ _=>False) body te)
  (Qw:∀a b H Q,Q (.bl (bt a b)) H->te [some (.int a),some (.int b)] H Q):bR P w K mg base gk 2 f fd ["rules","sizes","better"] (iS K q params body scope bt):=by
 refine F.ok iT (λvs H Q E h=>?_) (λeX A outer s H vs Q E hr h=>?_)
 .obtain⟨R,rs,aa,d,fl,c',pm,gU,kvs,ks,g,rfl,_⟩:=h;rfl
 obtain⟨R,rs,aa,d,fl,c',pm,gU,kvs,ks,g,rfl,hR,cy,bE,h8,hd,hk,Ih,hkl,hv,⟨n0,Sx⟩,Gy,lQ,qq⟩:=h;have hu:=gh hr;refine⟨_,ai (az (i:=3) iT.nd rfl (bC rfl) f_)
  (ai (kS cg (eI (pv 3))
   (ai (az (i:=3) iT.nd rfl (bC rfl) f_)
   (ak (bL cg rfl (a8 (pv 0)) (g7 rfl (aB (aq (i:=4) iT.nd rfl (bC rfl)) (aB (aq (i:=5) iT.nd rfl (bC rfl)) b_)))
    (ak (bI (eI (aD (il rfl) rfl T.all boot_all (ab (bD ["part"] [(1,"sizes")] rfl (fZ (pv 5)) (br rfl rfl) (by decide +kernel) rfl (by decide +kernel)
       (λ_ _ _ _ _=>aq (i:=0) (show (["part","sizes"]:List Str).Nodup by decide +kernel) rfl (bC rfl)) (λ_ _ _ _ _=>b8) (λ_ _ _ _ _=>z5 (jf hu (pv 0) (pv 1)))) ag)))
     (ai (az (i:=6) iT.nd rfl (bC rfl) (aI du ao (aD (uS rfl) rfl T.sum PyProof.Rows.boot_sum (ab (bD ["part"] [(1,"sizes")] rfl (fZ (pv 5)) (br rfl rfl) (by decide +kernel) rfl (by decide +kernel)
       (λ_ _ _ _ _=>aq (i:=0) (show (["part","sizes"]:List Str).Nodup by decide +kernel) rfl (bC rfl)) (λ_ _ _ _ _=>b8) (λ_ _ _ _ _=>fq hu (pv 1) (pv 0) (λ_ _=>rfl))) ag))))
     (ak (bI (PW.pt (lY (eJ (eK hu (pv 4) (pv 1))) (jS (eI (z6 (i:=2) (k:=0) rfl rfl S hr n_ jA (ab (pv 6) (ab (fq hu (pv 1) (pv 4) (λ_ _=>rfl)) ag)))))))
      (ai (iJ hu (pv 1) (pv 4) (pv 6) rfl) (ak (az (i:=3) iT.nd rfl (bC rfl) f_))) aQ))) aQ))))))
  (ak (aN (pv 1)))),?_⟩
 nofun
 have ll:=aU cy;have S0:Ek K aa ks H H d kvs ks g:=⟨λ_ _ _ e=>e,hd,hk,Ih,λx hx=>h_ _ hx,hv⟩;refine⟨λm σ H5=>∃(gu:List (aR×V)) (So:List Str)(g2:G)(ch:Bool)(y4 y5 y6:Option V),σ=[aM R,aM d,aM fl,some (.bl ch),y4,y5,y6]/\Ek K aa ks H H5 d gu So g2/\fj bt aa g g2 /\
  ((ch=true/\∃n,m=n+1/\pL bt aa n g2)\/(ch=false/\jc bt aa g2)),⟨n0+1,kvs,ks,g,true,none,none,none,rfl,S0,.refl,.inl ⟨rfl,n0,rfl,Sx⟩⟩,?_⟩
 rintro m σ H5 ⟨gu,So,g2,ch,y4,y5,y6,rfl,S2,HY,cs⟩;refine⟨_,rfl,ch,rfl,?_⟩;refine cf (λc=>?_) (λc=>?_)
 .rcases cs with ⟨_,n,em,en⟩ | ⟨c',_⟩
  case inr=>rw [c'] at c;cases c
  refine⟨λσ H6=>∃(mF:List (aR×V)) (Eb:List Str)(g3:G)(yD:Bool)(y4 y5 y6:Option V),σ=[aM R,aM d,aM fl,some (.bl yD),y4,y5,y6]/\Ek K aa ks H H6 d mF Eb g3/\(g3,yD)=tQ bt aa g2,?_,?_⟩
  .rintro σ H6 ⟨mF,Eb,g3,yD,y4,y5,y6,rfl,S3,e3⟩;have W3:g3=(tQ bt aa g2).1:=congrArg Prod.fst e3;have ND:yD=(tQ bt aa g2).2:=congrArg Prod.snd e3;have Pm:fj bt aa g g3:=by
    rw [W3];exact HY.trans (sF bt aa aa (g2,false) λ_ h=>h)
   cases h3:yD with
   | false =>
    rw [h3] at ND;obtain⟨f1,f2⟩:=sH bt aa (g2,false) ND.symm;refine⟨0,∅,mF,Eb,g3,false,_,_,_,rfl,S3,Pm,.inr ⟨rfl,?_⟩⟩;have e33:g3=g2:=W3.trans f1;rw [e33];exact f2
   | true =>
    rw [h3] at ND;cases n with
    | zero=>rw [show (tQ bt aa g2).2=false from en] at ND;cases ND
    | succ n' =>
     rcases en with en | en
     .rw [en] at ND;cases ND
     exact⟨n'+1,∅,mF,Eb,g3,true,_,_,_,rfl,S3,Pm,.inl ⟨rfl,n',rfl,by rw [W3];exact en⟩⟩
  refine⟨_,rfl,R,rfl,⟨_,S2.sm.seq hd hR⟩,?_⟩;refine cJ (xs:=rs.map V.ref) (λi σ H6=>∃(mF:List (aR×V)) (Eb:List Str)(g3:G)(yD:Bool)(y4 y5 y6:Option V),σ=[aM R,aM d,aM fl,some (.bl yD),y4,y5,y6]/\Ek K aa ks H H6 d mF Eb g3/\(g3,yD)=(aa.take i).foldl (sstep bt) (g2,false))
   ⟨gu,So,g2,false,_,_,_,rfl,S2,rfl⟩ ?_ ?_ ?_
  .rintro i σ H6 _ ⟨mF,Eb,g3,yD,y4,y5,y6,rfl,S3,_⟩;exact S3.sm.seq hd hR
  .rintro i x σ H6 ex ⟨mF,Eb,g3,yD,y4,y5,y6,rfl,S3,e3⟩;rw [bz] at ex;obtain⟨r,er,rfl⟩:=cC.mp ex;obtain⟨ru,e1,p,v1,v2⟩:=cy.get er;have lP:=b9 e1;have Ow:=h8 ru lP;have fo:(aa.take (i+1)).foldl (sstep bt) (g2,false)=sstep bt (g3,yD) ru:=by
    rw [cP,e1,ve,<-e3];rfl
   rw [fo];have TH:=S3.sm.tup hd v2;refine⟨r,_,rfl,S3.sm.tup hd v1,rfl,_,_,rfl,_,_,rfl,rfl,?_⟩;refine⟨_,rfl,p,rfl,⟨_,TH⟩,λD2 jb=>uR rfl TH ∅ S3.hd jb λH7 X7 hd7=>?_⟩;have S4:=S3.same X7;have v4:=X7.tup TH;have eb:(ru.2.map λz=>(bw mF (Sum.inr z)).isSome).all id=lB g3 ru:=by
    unfold lB;rw [List.all_map];refine List.all_congr rfl λz=>?_;show (bw mF (Sum.inr z)).isSome=_;rw [S3.val,oW]
   refine⟨D2,_,rfl,aH.of hd7,_,rfl,?_⟩;rw [eb];refine cf (λc4=>?_) (λc4=>?_)
   .have al:∀z∈ru.2,(g3 z).isSome=true:=λz hz=>gK.mp c4 z hz;refine⟨_,rfl,p,rfl,⟨_,v4⟩,λD3 yj=>DJ (g:=g3) rfl v4 ∅ S4.hd S4.val al yj λH8 N6 QW=>?_⟩;have S5:=S4.same N6;have esz:1+(ru.2.map λz=>(g3 z).getD 0).sum=aV g3 ru:=rfl;refine⟨D3,_,rfl,aH.of QW,_,_,rfl,rfl,?_⟩;have mem:(bw mF (Sum.inr ru.1)).isSome=(g3 ru.1).isSome:=by rw [S5.val,oW]
    have fl5:=S5.sm fl _ (λz=>by rw [z,hd] at Gy;cases Gy) Gy;have c5':=S5.sm c' _ (λz=>by rw [z,hd] at lQ;cases lQ) lQ;have l5:=S5.len;refine⟨_,rfl,_,rfl,d,_,rfl,cq.k (k:=Sum.inr ru.1) S5.hd,_,rfl,?_⟩;refine cf (λc5=>?_) (λc5=>?_)
    .have fr:cV bt g3 ru=true:=by
      unfold cV;rw [<-mem,c4,c5];rfl
     refine⟨_,rfl,_,rfl,_,rfl,d,_,rfl,pM.k (k:=Sum.inr ru.1) S5.hd (bM ∅),?_⟩;exact⟨_,_,fk g3 ru.1 (aV g3 ru),true,_,_,_,rfl,S5.put lP (aV g3 ru),(ax fr).symm⟩
    have isS:(g3 ru.1).isSome=true:=by
     rw [mem] at c5;cases hq:(g3 ru.1).isSome with
     | true=>rfl
     | false=>rw [hq] at c5;exact absurd rfl c5
    obtain⟨k,ek⟩:=lX.mp isS;have hg:cq H8 d (.str ru.1) (some (.int k)):=by
     have:=cq.k (k:=Sum.inr ru.1) S5.hd;rw [S5.val,ek] at this;exact this
    refine⟨fl,pm,c',gU,rfl,_,rfl,_,rfl,_,rfl,d,_,rfl,hg,fl5,c5',rfl,Qw (aV g3 ru) k _ _ ⟨_,rfl,?_⟩⟩;refine cf (λc6=>?_) (λc6=>?_)
    .have fr:cV bt g3 ru=true:=by
      unfold cV;rw [c4,ek];show (true && (false || bt (aV g3 ru) k))=true
      rw [c6];rfl
     refine⟨_,rfl,_,rfl,_,rfl,d,_,rfl,pM.k (k:=Sum.inr ru.1) S5.hd (bM ∅),?_⟩;exact⟨_,_,fk g3 ru.1 (aV g3 ru),true,_,_,_,rfl,S5.put lP (aV g3 ru),(ax fr).symm⟩
    have fr:¬cV bt g3 ru=true:=by
     unfold cV;rw [c4,ek];show ¬(true && (false || bt (aV g3 ru) k))=true
     rw [q8.mpr c6];exact(by decide)
    exact⟨mF,Eb,g3,yD,_,_,_,rfl,S5,(ay fr).symm⟩
   have e5:sstep bt (g3,yD) ru=(g3,yD):=ay (λz=>c4 (by unfold cV at z;exact(gE.mp z).1));exact⟨mF,Eb,g3,yD,_,_,_,rfl,S4,e5.symm⟩
  rintro σ H6 ⟨mF,Eb,g3,yD,y4,y5,y6,rfl,S3,e3⟩;rw [au,ll,cE] at e3;exact⟨mF,Eb,g3,yD,_,_,_,rfl,S3,e3⟩
 rcases cs with ⟨c',_⟩ | ⟨_,se⟩
 .rw [c'] at c;exact absurd rfl c
 exact⟨_,rfl,qq gu So g2 H5 S2.sm S2.hd S2.keys S2.val HY se (by have:=S2.len;omega)⟩
end
end hU
namespace M11
open PySem L2
theorem fold_lt {bt:Int->Int->Bool}{aa:List ar}{J:G->Prop}{r:G->G->Prop}(tr:∀a b c,r a b->r b c->r a c)
  (yU:∀g ru,J g->ru∈aa->cV bt g ru=true->J (fk g ru.1 (aV g ru))/\r (fk g ru.1 (aV g ru)) g) :
  ∀(l:List ar)(a:G×Bool),(∀ru∈l,ru∈aa)->J a.1->J (l.foldl (sstep bt) a).1/\(l.foldl (sstep bt) a=a\/r (l.foldl (sstep bt) a).1 a.1)
 | [],a,_,j=>⟨j,.inl rfl⟩
 | ru::l,a,h,j=>by
  by_cases c:cV bt a.1 ru=true
  .have e:sstep bt a ru=(fk a.1 ru.1 (aV a.1 ru),true):=ax c;obtain⟨j1,r1⟩:=yU a.1 ru j (h ru cH) c;obtain⟨j2,r2⟩:=fold_lt tr yU l (fk a.1 ru.1 (aV a.1 ru),true) (λx hx=>h x (dA _ hx)) j1;rw [List.foldl_cons,e];refine⟨j2,.inr ?_⟩;rcases r2 with r2 | r2
   .rw [r2];exact r1
   exact tr _ _ _ r2 r1
  have e:sstep bt a ru=a:=ay c;rw [List.foldl_cons,e];exact fold_lt tr yU l a (λx hx=>h x (dA _ hx)) j
def yp {bt:Int->Int->Bool}{aa:List ar}{J:G->Prop}{r:G->G->Prop}(tr:∀a b c,r a b->r b c->r a c)
  (yU:∀g ru,J g->ru∈aa->cV bt g ru=true->J (fk g ru.1 (aV g ru))/\r (fk g ru.1 (aV g ru)) g){g:G}(h:Acc r g)(j:J g):∃n,pL bt aa n g:=by
 induction h with
 | intro g _ ih =>
  cases c:(tQ bt aa g).2 with
  | false=>exact⟨0,c⟩
  | true =>
   obtain⟨j2,r2⟩:=fold_lt tr yU aa (g,false) (λ_ h=>h) j;have r3:r (tQ bt aa g).1 g:=by
    rcases r2 with r2 | r2
    .have e:(tQ bt aa g)=(g,false):=r2;rw [e] at c;cases c
    exact r2
   obtain⟨n,hn⟩:=ih _ r3 j2;exact⟨n+1,.inr hn⟩
def fj.keep {bt:Int->Int->Bool}{aa:List ar}{J:G->Prop}(yU:∀g ru,J g->ru∈aa->cV bt g ru=true->J (fk g ru.1 (aV g ru))){g g':G}(h:fj bt aa g g')(j:J g):J g':=by
 induction h with
 | refl=>exact j
 | step _ a b ih=>exact yU _ _ ih a b
def fY (f:Str->Nat) (hs:List Str):Nat:=(hs.map f).sum
theorem xt {f k:Str->Nat}:∀{hs:List Str},(∀x∈hs,f x<=k x)->fY f hs<=fY k hs
 | [],_=>aF _
 | h::r,q=>by
  have h1:=q h cH;have h2:=xt (hs:=r) λx hx=>q x (dA _ hx);show f h+fY f r<=k h+fY k r;omega
theorem nq {f k:Str->Nat}:∀{hs:List Str}{h:Str},(∀x∈hs,f x<=k x)->h∈hs->f h < k h->fY f hs < fY k hs
 | a::r,h,q,m,l=>by
  have h1:=q a cH;have h2:∀x∈r,f x<=k x:=λx hx=>q x (dA _ hx);show f a+fY f r < k a+fY k r;rcases bW.mp m with z | z
  .have:=xt h2;rw [z] at l;omega
  have:=nq h2 z l;omega
theorem jO (g:G)(J:∀z n,g z=some n->(0:Int)<=n):∀ps:List Str,0<=(ps.map λp=>(g p).getD 0).sum
 | []=>by simp
 | p::r=>by
  have h1:=jO g J r;have h2:0<=(g p).getD 0:=by
   cases e:g p with
   | none=>exact oG _
   | some n=>exact J p n e
  rw [cO,kJ];omega
def NN (g:G):Prop:=∀z n,g z=some n->(0:Int)<=n
def wm {g:G}(j:NN g)(ru:ar):NN (fk g ru.1 (aV g ru)):=λz n e=>by
 unfold fk at e;by_cases c:z=ru.1
 .rw [ax c] at e;cases e;have:=jO g j ru.2;unfold aV;omega
 rw [ay c] at e;exact j z n e
def bl (a b:Int):Bool:=decide (a < b)
def bg (a b:Int):Bool:=decide (a > b)
def Am (hs:List Str)(g' g:G):Prop :=
 fY (λh=>if (g' h).isSome then 0 else 1) hs < fY (λh=>if (g h).isSome then 0 else 1) hs \/
 (fY (λh=>if (g' h).isSome then 0 else 1) hs=fY (λh=>if (g h).isSome then 0 else 1) hs/\fY (λh=>((g' h).getD 0).toNat) hs < fY (λh=>((g h).getD 0).toNat) hs)
def JD (hs:List Str)(g:G):Acc (Am hs) g:=by
 have wf:=(Prod.lex (β:=Nat) (α:=Nat) ⟨(· < ·),Nat.lt_wfRel.wf⟩ ⟨(· < ·),Nat.lt_wfRel.wf⟩).wf;have key:∀p:Nat×Nat,∀g:G,(fY (λh=>if (g h).isSome then 0 else 1) hs,fY (λh=>((g h).getD 0).toNat) hs)=p->Acc (Am hs) g:=λp=>by
  induction p using wf.induction with
  | _ p ih =>
   intro g e;refine⟨g,λg' r=>ih _ ?_ g' rfl⟩;rw [<-e];rcases r with r | ⟨r1,r2⟩
   .exact Prod.Lex.left _ _ r
   show Prod.Lex _ _ (fY (λh=>if (g' h).isSome then 0 else 1) hs,_) _;rw [r1];exact Prod.Lex.right _ r2
 exact key _ g rfl
def MC (hs:List Str)(a b c:G)(h:Am hs a b)(k:Am hs b c):Am hs a c:=by
 unfold Am at *;omega
def F8 {aa:List ar}(g:G)(ru:ar)(j:NN g)(m:ru∈aa)(f:cV bl g ru=true):NN (fk g ru.1 (aV g ru))/\Am (aa.map (·.1)) (fk g ru.1 (aV g ru)) g:=by
 refine⟨wm j ru,?_⟩;have hm:ru.1∈aa.map (·.1):=j8 m;have nn:=wm j ru;have qJ:fk g ru.1 (aV g ru) ru.1=some (aV g ru):=ax rfl;have ne:∀z,z≠ru.1->fk g ru.1 (aV g ru) z=g z:=λz n=>ay n;unfold cV at f;have f2:=(gE.mp f).2;cases e:g ru.1 with
 | none =>
  refine .inl (nq (λx _=>?_) hm ?_)
  .by_cases c:x=ru.1
   .show (if (fk g ru.1 (aV g ru) x).isSome then 0 else 1)<=_;rw [c,qJ];exact dW _
   show (if (fk g ru.1 (aV g ru) x).isSome then 0 else 1)<=_;rw [ne x c];exact aF _
  show (if (fk g ru.1 (aV g ru) ru.1).isSome then 0 else 1) < (if (g ru.1).isSome then 0 else 1);rw [qJ,e];show 0 < 1;exact Nat.one_pos
 | some k =>
  rw [e] at f2;have lt:aV g ru < k:=cZ (by simpa [bl] using f2);have h0:=nn ru.1 _ qJ;refine .inr ⟨?_,nq (λx _=>?_) hm ?_⟩
  .unfold fY
   congr 1
   refine List.map_congr_left λx _=>?_;by_cases c:x=ru.1
   .show (if (fk g ru.1 (aV g ru) x).isSome then 0 else 1)=(if (g x).isSome then 0 else 1);rw [c,qJ,e];rfl
   show (if (fk g ru.1 (aV g ru) x).isSome then 0 else 1)=(if (g x).isSome then 0 else 1);rw [ne x c]
  .by_cases c:x=ru.1
   .show ((fk g ru.1 (aV g ru) x).getD 0).toNat<=((g x).getD 0).toNat;rw [c,qJ,e];show (aV g ru).toNat<=k.toNat;omega
   show ((fk g ru.1 (aV g ru) x).getD 0).toNat<=((g x).getD 0).toNat;rw [ne x c];exact aF _
  show ((fk g ru.1 (aV g ru) ru.1).getD 0).toNat < ((g ru.1).getD 0).toNat;rw [qJ,e];show (aV g ru).toNat < k.toNat;omega
def An (aa:List ar)(g:G)(j:NN g):∃n,pL bl aa n g:=yp (MC (aa.map (·.1))) (λg ru=>F8 g ru) (JD _ g) j
inductive Em (aa:List ar):Str->Prop
 | mk {ru:ar}:ru∈aa->(∀p∈ru.2,Em aa p)->Em aa ru.1
def yP (aa:List ar)(b:Str->Int):Prop:=(∀z,0<=b z)/\∀ru∈aa,(∀p∈ru.2,Em aa p)->1+(ru.2.map b).sum<=b ru.1
def GJ (aa:List ar)(b:Str->Int)(g:G):Prop:=∀z n,g z=some n->0<=n/\n<=b z/\Em aa z
theorem A9 {aa:List ar}{b:Str->Int}{g:G}(j:GJ aa b g)(hb:∀z,0<=b z):∀ps:List Str,(ps.map λp=>(g p).getD 0).sum<=(ps.map b).sum
 | []=>by simp
 | p::r=>by
  have h1:=A9 j hb r;have h2:(g p).getD 0<=b p:=by
   cases e:g p with
   | none=>exact hb p
   | some n=>exact(j p n e).2.1
  rw [cO,kJ,cO,kJ];omega
def gm (b:Str->Int)(g:G)(h:Str):Nat:=if (g h).isSome then (b h - (g h).getD 0).toNat else (b h).toNat+1
def so {aa:List ar}{b:Str->Int}(B:yP aa b)(g:G)(ru:ar)(j:GJ aa b g)(m:ru∈aa)(f:cV bg g ru=true) :
  GJ aa b (fk g ru.1 (aV g ru))/\fY (gm b (fk g ru.1 (aV g ru))) (aa.map (·.1)) < fY (gm b g) (aa.map (·.1)):=by
 have hm:ru.1∈aa.map (·.1):=j8 m;have qJ:fk g ru.1 (aV g ru) ru.1=some (aV g ru):=ax rfl;have ne:∀z,z≠ru.1->fk g ru.1 (aV g ru) z=g z:=λz n=>ay n;unfold cV at f;obtain⟨f1,f2⟩:=gE.mp f;have em:∀p∈ru.2,Em aa p:=λp hp=>by
  obtain⟨n,en⟩:=lX.mp (gK.mp f1 p hp);exact(j p n en).2.2
 have bd:=B.2 ru m em;have sb:=A9 j B.1 ru.2;have s0:=jO g (λz n e=>(j z n e).1) ru.2;have sz:0<=aV g ru/\aV g ru<=b ru.1:=by unfold aV;omega
 refine⟨λz n e=>?_,nq (λx _=>?_) hm ?_⟩
 .by_cases c:z=ru.1
  .rw [c,qJ] at e;cases e;rw [c];exact⟨sz.1,sz.2,.mk m em⟩
  rw [ne z c] at e;exact j z n e
 .by_cases c:x=ru.1
  .rw [c];unfold gm;rw [qJ];show (b ru.1 - aV g ru).toNat<=_;cases e:g ru.1 with
   | none=>show _<=(b ru.1).toNat+1;omega
   | some k =>
    rw [e] at f2;have lt:aV g ru > k:=cZ (by simpa [bg] using f2);show _<=(b ru.1 - k).toNat;omega
  unfold gm;rw [ne x c];exact aF _
 unfold gm;rw [qJ];show (b ru.1 - aV g ru).toNat < _;cases e:g ru.1 with
 | none=>show _ < (b ru.1).toNat+1;omega
 | some k =>
  rw [e] at f2;have lt:aV g ru > k:=cZ (by simpa [bg] using f2);show _ < (b ru.1 - k).toNat;omega
def Ax {aa:List ar}{b:Str->Int}(B:yP aa b)(g:G)(j:GJ aa b g):∃n,pL bg aa n g :=
 yp (r:=λg' g=>fY (gm b g') (aa.map (·.1)) < fY (gm b g) (aa.map (·.1))) (λ_ _ _ h k=>mi h k) (so B) ((InvImage.wf (λg:G=>fY (gm b g) (aa.map λx:ar=>x.1)) Nat.lt_wfRel.wf).apply g) j
def yk {aa:List ar}{b:Str->Int}(B:yP aa b){g g':G}(h:fj bg aa g g')(j:GJ aa b g):GJ aa b g':=h.keep (λg ru a m f=>(so B g ru a m f).1) j
end M11
namespace L2
open PySem
def qa {K:ba}{H:Hp}{p D:Addr}{zs:List Str}{σ:St}{v:V}{x:Str}{Qp:Hp->Prop}(hp:aH K H p (zs.map V.str))(hz:zs.length<=10000)(hD:H D=none)
  (q:∀ts H2,aA H H2->H2 D=some (.lst (ts.map V.ref))->Paired (λt h=>aS K H2 t [.str h,v]) ts zs->Qp H2) :
  ∃W:Nat->Nat->List V->St->Hp->Prop,(∃m,W 0 m [] (eU [x] [] σ) (upd H D (.lst []))) /\
 ∀i m ys σ' H,W i m ys σ' H->((ke K p).stop i H/\Qp H)\/((ke K p).go i H/\∃m',m' < m/\∀x H',(ke K p).mP i H x H'->dN 0 x σ' H' λσ2 H2=>iu σ2 H2 λb H3 =>
  if b=true then tP (gY (gS 0) (gY (tC v) rB)) σ2 H3 λy H4=>H4 D=some (.lst ys)/\ys.length < sizeLine/\W (i+1) m' (ys++[y]) σ2 (upd H4 D (.lst (ys++[y]))) else W (i+1) m' ys σ2 H3):=by
 refine cM (xs:=zs.map V.str) (λi ys σ2 H2=>∃ts:List Addr,ys=ts.map V.ref/\ts.length=i/\Paired (λt h=>aS K H2 t [.str h,v]) ts (zs.take i)/\(∃y0,σ2=[y0])/\aA H H2/\H2 D=some (.lst ys))
  ⟨[],rfl,rfl,.nil,⟨none,rfl⟩,af hD _,ae⟩ (λi ys σ2 H2 _ h=>?_) (λi x ys σ2 H2 ex h=>?_) (λys σ2 H2 h=>?_)
 .obtain⟨_,_,_,_,_,sm,_⟩:=h;exact sm.seq hp
 .obtain⟨ts,rfl,ht,ql,⟨y0,rfl⟩,sm,hd⟩:=h;rw [bz] at ex;obtain⟨z,ez,rfl⟩:=cC.mp ex;have li:=(bu.mp ez).1;refine goN (yl ?_);refine⟨_,rfl,iP,λt jl=>⟨?_,bM (by rw [au];omega),ts++[t],?_,?_,?_,⟨_,rfl⟩,?_,ae⟩⟩
  .rw [aj (aw hd jl)];exact hd
  .rw [bG];rfl
  .rw [a9,ht];rfl
  .rw [cP,ez];have ji:upd H2 t (.tup [.str z,v]) D=some (.lst (ts.map V.ref)):=by rw [aj (aw hd jl)];exact hd
   exact hZ (Paired.e_ ql λt' h' z=>a7 ji ((af jl _).tup z)) (a7 ji (aS.of ae))
  intro b o hb;rw [aj (λz=>by rw [z,hD] at hb;cases hb)];exact af jl _ _ _ (sm b o hb)
 obtain⟨ts,rfl,ht,ql,_,sm,hd⟩:=h;rw [au,cE] at ql;exact q ts H2 sm hd ql
def Tab.same {T:Addr}{pos:Pos}{qual:Str}{H H':Hp}(h:Tab T pos qual H)(s:aA H H'):Tab T pos qual H':=by
 obtain⟨ps,a,b,c⟩:=h;refine⟨ps,s _ _ a,b,c.imp id ?_⟩;rintro⟨c',e,g⟩;exact⟨c',e,s _ _ g⟩
def Tab.xG {T d:Addr}{pos:Pos}{qual:Str}{H H':Hp}{kvs:List (aR×V)}(h:Tab T pos qual H)(s:cW d H H')(hd:H d=some (.dK kvs)):Tab T pos qual H':=by
 obtain⟨ps,a,b,c⟩:=h;refine⟨ps,s _ _ (λz=>by rw [z,hd] at a;cases a) a,b,c.imp id ?_⟩;rintro⟨c',e,g⟩;exact⟨c',e,s _ _ (λz=>by rw [z,hd] at g;cases g) g⟩
structure yL (K:ba)(x qual:Str)(st:Stmt)(f:Addr)(fd:FuncData)(T:Addr):Prop where
 ex:∃(oc:Value)(od:Option Addr)(kV doc pm:Value)(an:Option Addr)(c:Addr)(ct:Value)(xR:Array (Option Value)),
  fd=PySem.W.fnOf x qual (dI st) (cA st) (av st) .none kV doc pm an (.ref c) ct/\K.lookup f=some ⟨oc,od,.func fd,xR⟩/\PySem.W.codeIn K (.ref c) qual=true/\PySem.W.codeHdIn K c T=true
 kp:PySem.W.keepIn K (.ref f)=true
def yL.ok {P:Program}{w:World}{K:ba}{mg:Str->Option Value}{base:Heap}{x qual:Str}{st:Stmt}{f:Addr}{fd:FuncData}{T:Addr}{N ps:List Str}{k:Nat}{sp:Sp}(F:yL K x qual st f fd T)(S:aK N ps (av st))(len:∀vs H Q E,sp vs H Q E->vs.length=ps.length)
  (jA:∀(c:Addr)(A:Around)(outer:List Env)(s:Shared)(H:Hp)(vs:List V)(Q:VK)(E:XK),PySem.W.codeHdIn K c T=true->fX k (A.deeper (PyProof.Rows.envOfC qual (av st) s.heap.objs.size f (.ref c)))->sp vs H Q E ->
   ∃t,AW (pI gk P w K mg base N qual (av st) f (.ref c) A outer s H E).CS (cA st) t/\t { nx:=λ_ H'=>Q .fg H',rt:=Q } (start N vs) H):bR P w K mg base gk (k+1) f fd ps sp:=by
 obtain⟨oc,od,kV,doc,pm,an,c,ct,xR,rfl,lk,wJ,hC⟩:=F.ex;refine G1 lk wJ S len λA outer s H vs Q E hr yV=>?_;obtain⟨t,h,q⟩:=jA c A outer s H vs Q E hC hr yV;exact⟨t,h.CS,q⟩
theorem uD {v:V}:∀(hs:List Str)(bV:List (aR×V)) (as:List Str),bV.map (·.1)=as.map Sum.inr->(df (hs.map λh=>((Sum.inr h:aR),v)) bV).map (·.1)=(M11.wQ as hs).map Sum.inr
 | [],bV,as,e=>e
 | h::r,bV,as,e=>uD r (bT bV (Sum.inr h) v) (M11.iA as h) (hU.kY e h)
theorem m_ {v:V}:∀(hs:List Str)(bV:List (aR×V))(z:Str),bw (df (hs.map λh=>((Sum.inr h:aR),v)) bV) (Sum.inr z)=if z∈hs then some v else bw bV (Sum.inr z)
 | [],bV,z=>by simp [df]
 | h::r,bV,z=>by
  have ih:=m_ (v:=v) r (bT bV (Sum.inr h) v) z;show bw (df (r.map λh=>((Sum.inr h:aR),v)) (bT bV (Sum.inr h) v)) (Sum.inr z)=_;rw [ih,rA];by_cases c:z∈r
  .rw [ax c,ax (dA _ c)]
  rw [ay c];by_cases c2:z=h
  .rw [ax (by rw [c2]),ax (by rw [c2];exact cH)]
  rw [ay (λe=>c2 (mf e)),ay (λe=>(bW.mp e).elim c2 c)]
end L2
namespace hU
open PySem L2 M11
def Qe:List Stmt->Arguments×Expr×Scope×Pos
 | [.Return (some (.Call _ [_,_,.Lambda p b s pos] _ _)) _]=>(p,b,s,pos)
 | _=>(⟨[],[],none,[],[],none,[]⟩,.Constant .none 0 ⟨0,0,0,0⟩,av rO,⟨0,0,0,0⟩)
abbrev rX:=Qe (cA rO)
abbrev Ak:=Qe (cA vX)
abbrev yT:Str := "least_sizes" ++ ".<locals>." ++ "<lambda>"
abbrev KL:Str := "greatest_empty_sizes" ++ ".<locals>." ++ "<lambda>"
def LO:aK ["size","known"] ["size","known"] rX.2.2.1:=iM rfl rfl rfl rfl (by decide +kernel)
def LP:aK ["size","known"] ["size","known"] Ak.2.2.1:=iM rfl rfl rfl rfl (by decide +kernel)
section
def z9 (F:iB K "settled_sizes" "settled_sizes" nK f fd)(T:Txt mg):bR P w K mg base gk 2 f fd ["rules","sizes","better"] (iS K yT rX.1 rX.2.1 rX.2.2.1 M11.bl) :=
 uB F T LO (λpm gU c' us hl=>match us,hl with | [_,_],_=>rfl) (λ_ _ _ _ _ _=>fu nU (pv 0) (pv 1) (bJ _)) (λa b H Q h=>⟨_,rfl,_,rfl,_,_,rfl,rfl,h⟩)
def z_ (F:iB K "settled_sizes" "settled_sizes" nK f fd)(T:Txt mg):bR P w K mg base gk 2 f fd ["rules","sizes","better"] (iS K KL Ak.1 Ak.2.1 Ak.2.2.1 M11.bg) :=
 uB F T LP (λpm gU c' us hl=>match us,hl with | [_,_],_=>rfl) (λ_ _ _ _ _ _=>fu xU (pv 0) (pv 1) (bJ _)) (λa b H Q h=>⟨_,rfl,_,rfl,_,_,rfl,rfl,h⟩)
def yY (aa:List ar):G:=λz=>if z∈tK (hd aa) [] (aa.flatMap (·.2)) then some 0 else none
def qx (K:ba)(T1:Addr):Sp:=λvs H Q _=>∃(R:Addr)(rs:List Addr)(aa:List ar),vs=[.ref R]/\aH K H R (rs.map V.ref)/\bK K H rs aa/\aa.length<=1000/\(∀ru∈aa,ru.2.length<=8)/\Tab T1 rX.2.2.2 yT H /\
 ∀(d:Addr)(kvs:List (aR×V)) (ks:List Str)(g:G)(H':Hp),H d=none->cW T1 H H'->Tab T1 rX.2.2.2 yT H'->H' d=some (.dK kvs)->kvs.map (·.1)=ks.map Sum.inr->(∀z,bw kvs (Sum.inr z)=(g z).map V.int)->fj M11.bl aa (yY aa) g->jc M11.bl aa g->kvs.length<=20000->Q (.ref d) H'
def IU:aK ["rules"] ["rules"] (av rO):=iM rfl rfl rfl rfl (by decide +kernel)
def FN {T1:Addr}(F:yL K "least_sizes" "least_sizes" rO f fd T1)(T:Txt mg)(hB:tJ mg base)(GW:aC P w K mg base 1 "words_in" ["rules"] (Bd K))
  (GS:aC P w K mg base 2 "settled_sizes" ["rules","sizes","better"] (iS K yT rX.1 rX.2.1 rX.2.2.1 M11.bl)):bR P w K mg base gk 3 f fd ["rules"] (qx K T1):=by
 refine F.ok IU (λvs H Q E h=>?_) (λc A outer s H vs Q E hC hr h=>?_)
 .obtain⟨R,rs,aa,rfl,_⟩:=h;rfl
 obtain⟨R,rs,aa,rfl,hR,cy,bE,h8,hT,q⟩:=h;refine⟨_,ak (aN (bp GS hr rfl (ab (pv 0) (ab (bc (dS rfl) rfl T.AN gi (ab
  (bD ["word"] [] rfl (a8 (bp (GW.mono (by decide:1<=2)) hr rfl (ab (pv 0) ag))) (br rfl rfl) (by decide +kernel) rfl (by decide +kernel)
   (λ_ _ _ _ _=>aq (i:=0) (show (["word"]:List Str).Nodup by decide +kernel) rfl (bC rfl)) (λ_ _ _ _ _=>b8)
   (λ_ _ _ _ _=>bo (ab (pv 0) (ab ao ag)))) ag)) (ab (Fp (T:=T1) rfl hC hB (by decide +kernel)) ag))))),?_⟩
 dsimp only [yw];refine⟨_,rfl,_,rfl,R,rs,aa,rfl,hR,cy,bE,h8,λD1 H1 f1 s1 e1=>?_⟩;have lw:(tK (hd aa) [] (aa.flatMap (·.2))).length<=8000:=by
  have h1:=vE (hd aa) (aa.flatMap (·.2)) [];have h2:=jC aa 1000 bE h8;simp only [jo] at h1;omega
 refine⟨D1,rfl,⟨_,aH.of e1⟩,λD2 jb=>qa (aH.of e1) ∅ jb λts H2 s2 e2 p2=>?_⟩;have kp:Paired (λt (kv:aR×V)=>aS K H2 t [kV kv.1,kv.2]) ts ((tK (hd aa) [] (aa.flatMap (·.2))).map λh=>((Sum.inr h:aR),V.int 0)):=cx p2 λ_ _ z=>z;refine⟨D2,ts,_,rfl,e2,kp,λd hd2=>?_⟩;have k1:=uD (v:=.int 0) (tK (hd aa) [] (aa.flatMap (·.2))) [] [] rfl;have k2:∀z,bw (df ((tK (hd aa) [] (aa.flatMap (·.2))).map λh=>((Sum.inr h:aR),V.int 0)) []) (Sum.inr z)=(yY aa z).map V.int:=λz=>by
  rw [m_];unfold yY
  split <;> rfl
 have lk:=iO (tK (hd aa) [] (aa.flatMap (·.2))) [];simp only [jo] at lk;generalize df ((tK (hd aa) [] (aa.flatMap (·.2))).map λh=>((Sum.inr h:aR),V.int 0)) []=Qh at k1 k2;have s3:=(s1.trans s2).trans (af hd2 (.dK Qh));have e3:upd H2 d (.dK Qh) d=some (.dK Qh):=ae;have y_:H d=none:=(s1.trans s2).free hd2;generalize upd H2 d (.dK Qh)=H3 at s3 e3;refine⟨hT.same s3,λfl c' gU H4 s4 t4 ffl e4 WL=>?_⟩;have nT:d≠T1:=λz=>by
  obtain⟨ps,a,_⟩:=hT.same s3;rw [<-z,e3] at a;cases a
 have Ed:=s4 d _ nT e3;have UT:∀{a xs},aS K H a xs->aS K H4 a xs:=λ{a xs} h=>by
  obtain⟨ps,b,_⟩:=hT;rcases h with (h | ⟨u,h⟩) | h
  .exact .inl (.inl (s4 _ _ (λz=>by rw [z,b] at h;cases h) (s3 _ _ h)))
  .exact .inl (.inr ⟨u,s4 _ _ (λz=>by rw [z,b] at h;cases h) (s3 _ _ h)⟩)
  exact .inr h
 have UU:∀{a xs},aH K H a xs->aH K H4 a xs:=λ{a xs} h=>by
  obtain⟨ps,b,_⟩:=hT;rcases h with (h | ⟨u,h⟩) | h
  .exact .inl (.inl (s4 _ _ (λz=>by rw [z,b] at h;cases h) (s3 _ _ h)))
  .exact .inl (.inr ⟨u,s4 _ _ (λz=>by rw [z,b] at h;cases h) (s3 _ _ h)⟩)
  exact .inr h
 refine⟨R,rs,aa,d,fl,c',_,gU,Qh,_,yY aa,rfl,UU hR,cy.keep λ_ _ z=>UT z,bE,h8,Ed,k1,pH _ kr,∅,k2,An aa _ λz n e=>?_,e4,WL,λmH Qi g' H5 s5 e5 k5 v5 st se YH=>?_⟩
 .unfold yY at e
  split at e
  .cases e;exact oG _
  cases e
 refine q d mH Qi g' H5 y_ (λb o n hb=>s5 b o (λz=>?_) (s4 b o n (s3 b o hb))) (t4.xG s5 Ed) e5 k5 v5 st se YH;rw [z,y_] at hb;cases hb
def vM (K:ba)(T2:Addr):Sp:=λvs H Q _=>∃(R:Addr)(rs:List Addr)(aa:List ar)(b:Str->Int),vs=[.ref R]/\aH K H R (rs.map V.ref)/\bK K H rs aa/\aa.length<=1000/\(∀ru∈aa,ru.2.length<=8)/\yP aa b/\Tab T2 Ak.2.2.2 KL H /\
 ∀(d:Addr)(kvs:List (aR×V)) (ks:List Str)(g:G)(H':Hp),H d=none->cW T2 H H'->Tab T2 Ak.2.2.2 KL H'->H' d=some (.dK kvs)->kvs.map (·.1)=ks.map Sum.inr->(∀z,bw kvs (Sum.inr z)=(g z).map V.int)->GJ aa b g->fj M11.bg aa (λ_=>none) g->jc M11.bg aa g->Q (.ref d) H'
def IX:aK ["rules"] ["rules"] (av vX):=iM rfl rfl rfl rfl (by decide +kernel)
def FP {T2:Addr}(F:yL K "greatest_empty_sizes" "greatest_empty_sizes" vX f fd T2)(hB:tJ mg base)
  (GS:aC P w K mg base 2 "settled_sizes" ["rules","sizes","better"] (iS K KL Ak.1 Ak.2.1 Ak.2.2.1 M11.bg)):bR P w K mg base gk 3 f fd ["rules"] (vM K T2):=by
 refine F.ok IX (λvs H Q E h=>?_) (λc A outer s H vs Q E hC hr h=>?_)
 .obtain⟨R,rs,aa,b,rfl,_⟩:=h;rfl
 obtain⟨R,rs,aa,b,rfl,hR,cy,bE,h8,Zq,hT,q⟩:=h;refine⟨_,ak (aN (bp GS hr rfl (ab (pv 0) (ab g8 (ab (Fp (T:=T2) rfl hC hB (by decide +kernel)) ag))))),?_⟩;refine⟨_,rfl,λd y_=>?_⟩;have s3:=af y_ (.dK []);have e3:upd H d (.dK []) d=some (.dK []):=ae;generalize upd H d (.dK [])=H3 at s3 e3;refine⟨hT.same s3,λfl c' gU H4 s4 t4 ffl e4 WL=>?_⟩;have nT:d≠T2:=λz=>by
  obtain⟨ps,a,_⟩:=hT.same s3;rw [<-z,e3] at a;cases a
 have Ed:=s4 d _ nT e3;have UT:∀{a xs},aS K H a xs->aS K H4 a xs:=λ{a xs} h=>by
  obtain⟨ps,b,_⟩:=hT;rcases h with (h | ⟨u,h⟩) | h
  .exact .inl (.inl (s4 _ _ (λz=>by rw [z,b] at h;cases h) (s3 _ _ h)))
  .exact .inl (.inr ⟨u,s4 _ _ (λz=>by rw [z,b] at h;cases h) (s3 _ _ h)⟩)
  exact .inr h
 have UU:∀{a xs},aH K H a xs->aH K H4 a xs:=λ{a xs} h=>by
  obtain⟨ps,b,_⟩:=hT;rcases h with (h | ⟨u,h⟩) | h
  .exact .inl (.inl (s4 _ _ (λz=>by rw [z,b] at h;cases h) (s3 _ _ h)))
  .exact .inl (.inr ⟨u,s4 _ _ (λz=>by rw [z,b] at h;cases h) (s3 _ _ h)⟩)
  exact .inr h
 have j0:GJ aa b (λ_=>none):=λz n e=>nomatch e;refine⟨R,rs,aa,d,fl,c',_,gU,[],[],λ_=>none,rfl,UU hR,cy.keep λ_ _ z=>UT z,bE,h8,Ed,rfl,kr,dW _,λ_=>rfl,Ax Zq _ j0,e4,WL,λmH Qi g' H5 s5 e5 k5 v5 st se YH=>?_⟩;refine q d mH Qi g' H5 y_ (λb o n hb=>s5 b o (λz=>?_) (s4 b o n (s3 b o hb))) (t4.xG s5 Ed) e5 k5 v5 (yk Zq st j0) st se;rw [z,y_] at hb;cases hb
end
end hU
namespace L2
open PySem PySem.Spec PyProof.Rows
def Nv (o:Obj):Nat:=match o.data with
 | .dict _ ep=>ep
 | _=>0
def RK (d:Addr)(o:Obj)(kvs:List (aR×V)):It :=
 ⟨λi H=>H d=some (.kn o (.dK kvs))/\i < kvs.length,λi H x H'=>H'=H/\∃kv,kvs[i]?=some kv/\x=kV kv.1,λi H=>H d=some (.kn o (.dK kvs))/\kvs.length<=i⟩
def AE {X:Cx}{ah:List (Addr×Obj)}{σ:St}{H:Hp}{s:Shared}{d:Addr}{o:Obj}{kvs:List (aR×V)}(I:Inv X ah σ H s)(e:H d=some (.kn o (.dK kvs))) :
  (d == sysModules)=false/\∃vs,KV kvs vs/\s.heap.DictAt (bA X.prog X.w) d vs (Nv o):=by
 obtain⟨ho,hz,hs,vs,r,o',es,ep,h1,h2,h3,h4⟩:=(show cR X.prog X.w H s.heap d (.kn o (.dK kvs)) from I.cw d _ e);rw [ho] at h1;cases h1;refine⟨hs,vs,r,o,es,ho,h2,?_,h4⟩;unfold Nv;rw [h3]
def Co {P:Program}{w:World}{K:ba}{tg:Expr}(d it:Addr)(o:Obj)(kvs:List (aR×V)):Turn P w K tg (RK d o kvs) [it] it (λi h=>h.IsKeyIter it d i kvs.length (Nv o)) where
 mem:=by simp
 obj:=λi h st b hb=>by
  have e:b=it:=by simpa using hb
  subst e;obtain⟨o,e,c,d⟩:=st;exact⟨o,e,λv z=>by rw [d] at z;cases z⟩
 keep:=λi h h' st k=>let ⟨o,e,r⟩:=st;⟨o,k it (by simp) o e,r⟩
 item:=by
  intro X hP hw hK hc i ah s σ H E I hf st hg;subst hP hw hK;obtain⟨hq,hi⟩:=hg;obtain⟨hs,vs,r,da⟩:=AE I hq;have l:=r.length;obtain⟨kv,SO⟩:∃kv,kvs[i]?=some kv:=⟨kvs[i],dG hi⟩;obtain⟨q,eq⟩:∃q,vs[i]?=some q:=⟨vs[i]'∅,dG ∅⟩;have ek:kv.1=q.1:=by
   have:=congrArg (λl:List aR=>l[i]?) r.keys;simp only [bz,SO,eq] at this;exact ir this
  obtain⟨f0,f1,f2,f3,f4,f5⟩:=hf it (by simp);rw [l] at st;refine wpAny_pyNext_dict_item (k:=q.1) (v:=q.2) st da eq λkey h' hk xc sb=>?_;have I1:Inv X ah σ H { s with heap:=h' }:=I.turned (t':=s.toks) (λb o hb e=>(sb.2 b hb).trans e) f0 f1 f3 f4 f5;obtain⟨o2,e,c,dd⟩:=id xc;rw [<-l] at xc;exact⟨key,rfl,BQ (s:={ s with heap:=h' }) e c dd (by decide) ⟨kV kv.1,H,I1,by rw [ek];exact KW hk,⟨rfl,kv,SO,rfl⟩,xc,λb hb=>(hf b hb).1⟩⟩
 done:=by
  intro X hP hw hK hc i ah s σ H E I hf st hg;subst hP hw hK;obtain⟨hq,hi⟩:=hg;obtain⟨hs,vs,r,da⟩:=AE I hq;have l:=r.length;obtain⟨f0,f1,f2,f3,f4,f5⟩:=hf it (by simp);rw [l] at st;exact wpAny_pyNext_dict_end (I.ok.hd hc) st da (vv ∅) λh' eb=>⟨rfl,I.turned (t':=s.toks) (λb o hb e=>eb b o hb e) f0 f1 f3 f4 f5⟩
 self:=λ_ _ _ _ _ st h=>wpAny_pyIter_keyiter st h
def Qr (tl:TE):TI:=λσ H R=>tl σ H λx H1=>∃d kvs,x=.ref d/\H1 d=some (.dK kvs)/\∀o,R (RK d o kvs) (upd H1 d (.kn o (.dK kvs)))
def BD {X:Cx}{tg l:Expr}{tl:TE}(hl:PE X l tl):PI X tg l (Qr tl):=by
 intro ah s σ H R I h;refine cQ (hl ah s σ H _ I h) λv s1 ⟨x,H1,I1,r1,q1⟩=>?_;obtain⟨d,kvs,e,hd,q⟩:=q1;subst e;cases r1;obtain⟨hz,hs,vs,r,o,es,ep,h1,h2⟩:=(show cR X.prog X.w H1 s1.heap d (.dK kvs) from I1.cw d _ hd);have I2:Inv X ah σ (upd H1 d (.kn o (.dK kvs))) { s1 with heap:=s1.heap,toks:=s1.toks }:=I1.write (x:=d) (e:=d) (by rw [hd];exact True.intro) (.inl rfl) (λb u _ e=>e) ⟨o,h1⟩ ⟨h1,hz,hs,vs,r,o,es,ep,h1,h2⟩;have e2:upd H1 d (.kn o (.dK kvs)) d=some (.kn o (.dK kvs)):=ae;obtain⟨_,Kh,r2,da⟩:=AE I2 e2;have q2:=q o;generalize upd H1 d (.kn o (.dK kvs))=H2 at I2 e2 q2;refine wpAny_pyIter_dict hs da ?_;refine⟨s1.heap.objs.size,[s1.heap.objs.size],_,_,H2,rfl,I2.kept (t':=s1.toks) λb o e=>cu _ e,Co d _ o kvs,⟨_,dZ _ rfl,rfl,by rw [r2.length];rfl⟩,λb hb=>?_,q2⟩;have e:b=s1.heap.objs.size:=by simpa using hb
 subst e;exact I2.wK (aF _) (I2.cw.fresh (aF _))
section
variable {d D:Addr}{o:Obj}{kvs:List (aR×V)}{ts:List Str}{js:List (Nat×Str)}{g:TG}{tif:TT}{te:TE}{R:Hp->Prop}{σ:St}{H:Hp}
def tq (Pv:Nat->List V->St->Hp->Prop)(h0:Pv 0 [] (eU ts js σ) (upd H D (.lst [])))(hl:∀i ys σ H,i<=kvs.length->Pv i ys σ H->H d=some (.kn o (.dK kvs)))
  (hs:∀i kv ys σ H,kvs[i]?=some kv->Pv i ys σ H->g (kV kv.1) σ H λσ2 H2=>tif σ2 H2 λb H3=>if b=true then te σ2 H3 λy H4=>H4 D=some (.lst ys)/\ys.length < sizeLine/\Pv (i+1) (ys++[y]) σ2 (upd H4 D (.lst (ys++[y]))) else Pv (i+1) ys σ2 H3)
  (hd:∀ys σ H,Pv kvs.length ys σ H->R H) :
  ∃W:Nat->Nat->List V->St->Hp->Prop,(∃m,W 0 m [] (eU ts js σ) (upd H D (.lst []))) /\
 ∀i m ys σ' H,W i m ys σ' H->((RK d o kvs).stop i H/\R H)\/((RK d o kvs).go i H/\∃m',m' < m/\∀x H',(RK d o kvs).mP i H x H'->g x σ' H' λσ2 H2=>tif σ2 H2 λb H3 =>
  if b=true then te σ2 H3 λy H4=>H4 D=some (.lst ys)/\ys.length < sizeLine/\W (i+1) m' (ys++[y]) σ2 (upd H4 D (.lst (ys++[y]))) else W (i+1) m' ys σ2 H3):=by
 refine⟨λi m ys σ H=>m=kvs.length - i/\i<=kvs.length/\Pv i ys σ H,⟨kvs.length,by simp,dW _,h0⟩,?_⟩;rintro i m ys σ' H ⟨rfl,hi,p⟩;have q:=hl i ys σ' H hi p;by_cases kj:i < kvs.length
 .refine .inr ⟨⟨q,kj⟩,kvs.length - (i+1),∅,λx H' y=>?_⟩;obtain⟨e,kv,SO,rfl⟩:=y;subst e;have z:=hs i kv ys σ' _ SO p;have h1:(i+1<=kvs.length)=True:=eq_true kj;simp only [h1,true_and];exact z
 have e:i=kvs.length:=by omega
 subst e;exact .inl ⟨⟨q,aF _⟩,hd ys σ' H p⟩
end
def uN {A:Around}{s:Shared}{l b:Addr}{ys xs:List Int}{aT dF:List Value}(r:bf (ys.map V.int) aT)(r2:bf (xs.map V.int) dF)(hl:s.heap.IsList l aT.toArray)(hb:s.heap.IsList b dF.toArray)(ne:l≠b)(hu:A.units < cLine) :
  SeqAt.EqAt A s (.ref l) (.ref b) (decide (ys=xs)):=by
 have l1:=r.length;have l2:=r2.length;rw [au] at l1 l2;by_cases bE:ys.length=xs.length
 .have h:=SeqAt.RcAt.lists (A:=A) (e:=λj=>decide (ys[j]?=xs[j]?)) hl hb (by simp only [bX];omega) hu λj h1 h2=>?_
  .have e:((List.range aT.toArray.size).all λj=>decide (ys[j]?=xs[j]?))=decide (ys=xs):=by
    rw [mS,gK,decide_eq_true_iff];constructor
    .intro h;refine List.ext_getElem? λj=>?_;by_cases c:j < ys.length
     .exact cZ (h j (pN.mpr (by simp only [bX];omega)))
     rw [vv ∅,vv ∅]
    intro h j _;rw [h];exact bh rfl
   rw [e] at h;exact .of_refs ne h
  have k1:j < aT.length:=by simpa using h1
  have k2:j < dF.length:=by simpa using h2
  have e1:ys[j]?=some (ys[j]'∅):=dG ∅;have e2:xs[j]?=some (xs[j]'∅):=dG ∅;obtain⟨u1,f1,q1⟩:=r.get (show (ys.map V.int)[j]?=some (.int (ys[j]'∅)) by rw [bz,e1];rfl);obtain⟨u2,f2,q2⟩:=r2.get (show (xs.map V.int)[j]?=some (.int (xs[j]'∅)) by rw [bz,e2];rfl);have g1:aT.toArray[j]=u1:=by
   have:=(bu.mp f1).2;simpa using this
  have g2:dF.toArray[j]=u2:=by
   have:=(bu.mp f2).2;simpa using this
  rw [g1,g2,e1,e2];obtain⟨t1,rfl⟩:=q1;obtain⟨t2,rfl⟩:=q2;have:=SeqAt.EqAt.int_int (A:=A.in1) (s:=s) (ys[j]'∅) t1 (xs[j]'∅) t2;have e3:(ys[j]'∅ == xs[j]'∅)=decide (some (ys[j]'∅)=some (xs[j]'∅)):=by
   rw [mS,beq_iff_eq,decide_eq_true_iff,Option.some.injEq]
  rw [e3] at this;exact this
 have h:=SeqAt.RcAt.lists_lengths (A:=A) hl hb (by simp only [bX,bne_iff_ne];omega) hu;rw [b0 (λz=>bE (by rw [z]))];exact .of_refs ne h
def CC {X:Cx}(hu:X.A.units+1 < cLine):jG X (compareOp .In) (λx y H Q=>∃t a l1 l2 xs ys zs,x=.ref a/\y=.ref t/\aS X.K H t [.ref l1,.ref l2]/\aH X.K H a (List.map V.int xs)/\aH X.K H l1 (List.map V.int ys)/\aH X.K H l2 (List.map V.int zs)/\l1≠a/\l2≠a /\
  Q (.bl (decide (ys=xs) || decide (zs=xs))) H):=by
 intro ah s σ H x y v u Q I rx ry h;obtain⟨t,a,l1,l2,xs,ys,zs,rfl,rfl,ht,ha,h1,h2,n1,n2,q⟩:=h;cases rx;cases ry;obtain⟨aT,r,pl,hz⟩:=I.tuple ht;obtain⟨u1,u2,rfl,q1,q2⟩:=vals2 r;cases (show u1=Value.ref l1 from q1);cases (show u2=Value.ref l2 from q2);obtain⟨xa,ra,pa,za⟩:=I.list ha;obtain⟨x1,r1,p1,z1⟩:=I.list h1;obtain⟨x2,r2,p2,z2⟩:=I.list h2;have e1:=uN (A:=X.A.in1) (s:=s) r1 ra p1.isList pa.isList n1 hu;have e2:=uN (A:=X.A.in1) (s:=s) r2 ra p2.isList pa.isList n2 hu;refine SeqAt.in_tupleAt (λy=>if y == .ref l1 then decide (ys=xs) else decide (zs=xs)) (show s.heap.IsTuple t #[.ref l1,.ref l2] from pl) (λy hy=>?_) ?_
 .have Vn:y=.ref l1\/y=.ref l2:=by simpa using hy
  by_cases c:y=.ref l1
  .subst c;rw [ax (oT _)];exact e1
  rcases Vn with z | z
  .exact absurd z c
  subst z;rw [ay (λq=>c (eq_of_beq q))];exact e2
 refine⟨.bl (decide (ys=xs) || decide (zs=xs)),H,I,?_,q⟩
 show Value.bool _=Value.bool _
 congr 1
 by_cases c:l2=l1
 .subst c;have e3:=I.rY h1 h2;have e4:ys=zs:=by
   have:=congrArg (List.map λv:V=>match v with | .int n=>n | _=>0) e3
   simpa [jm,Function.comp_def] using this
  subst e4;simp
 simp [c]
end L2
namespace M11
open PySem L2
def Dq (b:Str->Bool) (zs:List Str) (i:Nat):List Int:=((List.range i).filter λj=>!(zs[j]?.elim true b)).map λj:Nat=>(j:Int)
def yn (b:Str->Bool) (zs:List Str) (i:Nat){z:Str}(e:zs[i]?=some z):Dq b zs (i+1)=Dq b zs i++(if b z=true then [] else [(i:Int)]):=by
 unfold Dq;rw [List.range_succ,oX,bG]
 congr 1
 by_cases h:b z=true
 .rw [ax h];simp [e,h]
 rw [ay h];simp [e,h]
def JR (b:Str->Bool) (zs:List Str) (i:Nat):(Dq b zs i).length<=i:=by
 unfold Dq;rw [au];have:=rp (λj=>!(zs[j]?.elim true b)) (List.range i);rw [vf] at this;exact this
def JB (b:Str->Bool) (zs:List Str) (j:Nat):Bool:=decide ([]=Dq b zs zs.length) || decide ([(j:Int)]=Dq b zs zs.length)
def OT (aa:List ar) (names:List Str)(b:Str->Bool)(n:Str) (k j:Nat):Prop:=∃ru z,aa[k]?=some ru/\ru.1=n/\ru.2[j]?=some z/\z∈names/\JB b ru.2 j=true
end M11
namespace L2
open PySem M11
def jJ (p:Str×Addr):aR×V:=(Sum.inr p.1,.ref p.2)
theorem oq:∀(ps bV:List (aR×V)),((bV++ps).map (·.1)).Nodup->df ps bV=bV++ps
 | [],bV,_=>by simp [df]
 | p::r,bV,h=>by
  have n:bw bV p.1=none:=by
   cases e:bw bV p.1 with
   | none=>rfl
   | some v =>
    have hm:=(d_ bV p.1).mp (by rw [e];rfl);rw [bG,cO] at h;exact absurd rfl ((j7.mp h).2.2 p.1 hm p.1 cH)
  show df r (bT bV p.1 p.2)=_;rw [xM p.2 n,oq r (bV++[(p.1,p.2)]) (by rw [lW];exact h),lW];rfl
theorem ie:∀(ps:List (Str×Addr)),(ps.map (·.1)).Nodup->∀p∈ps,bw (ps.map jJ) (Sum.inr p.1)=some (.ref p.2)
 | q::r,h,p,hp=>by
  rw [cO] at h ⊢;rcases bW.mp hp with z | z
  .rw [z];exact fI rfl
  rw [fJ,ie r (mT.mp h).2 p z];intro e;have e':q.1=p.1:=mf e;exact(mT.mp h).1 (by rw [e'];exact j8 z)
def nV (ps:List (Str×Addr)):(ps.map jJ).map (·.1)=(ps.map (·.1)).map Sum.inr:=by
 rw [jm,jm];rfl
def s_ {K:ba}{H:Hp}{p D:Addr}{zs:List Str}{σ:St}{x:Str}{Qp:Hp->Prop}(hp:aH K H p (zs.map V.str))(hz:zs.length<=10000)(hD:H D=none)
  (q:∀ts (ps:List (Str×Addr)) H2,aA H H2->H2 D=some (.lst (ts.map V.ref))->ps.map (·.1)=zs->Paired (λt (p:Str×Addr)=>aS K H2 t [.str p.1,.ref p.2]) ts ps->(∀p∈ps,H2 p.2=some (.lst [])/\H p.2=none/\p.2≠D)->(ps.map (·.2)).Nodup->Qp H2) :
  ∃W:Nat->Nat->List V->St->Hp->Prop,(∃m,W 0 m [] (eU [x] [] σ) (upd H D (.lst []))) /\
 ∀i m ys σ' H,W i m ys σ' H->((ke K p).stop i H/\Qp H)\/((ke K p).go i H/\∃m',m' < m/\∀x H',(ke K p).mP i H x H'->dN 0 x σ' H' λσ2 H2=>iu σ2 H2 λb H3 =>
  if b=true then tP (gY (gS 0) (gY (Pa rB) rB)) σ2 H3 λy H4=>H4 D=some (.lst ys)/\ys.length < sizeLine/\W (i+1) m' (ys++[y]) σ2 (upd H4 D (.lst (ys++[y]))) else W (i+1) m' ys σ2 H3):=by
 refine cM (xs:=zs.map V.str) (λi ys σ2 H2=>∃(ts:List Addr)(ps:List (Str×Addr)),ys=ts.map V.ref/\ts.length=i/\ps.map (·.1)=zs.take i/\Paired (λt (p:Str×Addr)=>aS K H2 t [.str p.1,.ref p.2]) ts ps /\
   (∀p∈ps,H2 p.2=some (.lst [])/\H p.2=none/\p.2≠D)/\(ps.map (·.2)).Nodup/\(∃y0,σ2=[y0])/\aA H H2/\H2 D=some (.lst ys))
  ⟨[],[],rfl,rfl,rfl,.nil,by simp,by simp,⟨none,rfl⟩,af hD _,ae⟩ (λi ys σ2 H2 _ h=>?_) (λi x ys σ2 H2 ex h=>?_) (λys σ2 H2 h=>?_)
 .obtain⟨_,_,_,_,_,_,_,_,_,sm,_⟩:=h;exact sm.seq hp
 .obtain⟨ts,ps,rfl,ht,hm,ql,hl,hn,⟨y0,rfl⟩,sm,hd⟩:=h;rw [bz] at ex;obtain⟨z,ez,rfl⟩:=cC.mp ex;have li:=(bu.mp ez).1;refine goN (yl ?_);refine⟨_,rfl,rq,λl tU=>⟨iP,λt jl=>?_⟩⟩;have My:l≠D:=(aw hd tU).symm;have nt:t≠l:=λe=>by rw [e,ae] at jl;cases jl
  have QA:H2 t=none:=by rw [aj nt] at jl;exact jl
  have ntD:t≠D:=(aw hd QA).symm;have vO:aA H2 (upd (upd H2 l (.lst [])) t (.tup [.str z,.ref l])):=(af tU _).trans (af jl _);have ji:=vO _ _ hd;have el:upd (upd H2 l (.lst [])) t (.tup [.str z,.ref l]) l=some (.lst []):=by rw [aj nt.symm,ae]
  have et:aS K (upd (upd H2 l (.lst [])) t (.tup [.str z,.ref l])) t [.str z,.ref l]:=aS.of ae;generalize upd (upd H2 l (.lst [])) t (.tup [.str z,.ref l])=H4 at vO ji el et;refine⟨ji,bM (by rw [au];omega),ts++[t],ps++[(z,l)],by rw [bG];rfl,by rw [a9,ht];rfl,by rw [bG,hm,cP,ez];rfl,?_,?_,?_,⟨_,rfl⟩,?_,ae⟩
  .exact hZ (Paired.e_ ql λt' h' z=>a7 ji (vO.tup z)) (a7 ji et)
  .intro p' nZ;rcases bQ.mp nZ with h | h
   .obtain⟨a1,a2,a3⟩:=hl p' h;exact⟨by rw [aj a3];exact vO _ _ a1,a2,a3⟩
   rw [bF.mp h];exact⟨by rw [aj My];exact el,sm.free tU,My⟩
  .rw [bG];refine j7.mpr ⟨hn,by simp,λa ha b hb e=>?_⟩;rw [t_,bF] at hb;obtain⟨p',nZ,rfl⟩:=cX.mp ha;have:=(hl p' nZ).1;rw [e,hb] at this;rw [show H2 l=none from tU] at this;cases this
  intro b o hb;rw [aj (λz=>by rw [z,hD] at hb;cases hb)];exact vO _ _ (sm b o hb)
 obtain⟨ts,ps,rfl,ht,hm,ql,hl,hn,_,sm,hd⟩:=h;rw [au,cE] at hm;exact q ts ps H2 sm hd hm ql hl hn
def yA {K:ba}{H:Hp}{p D d:Addr}{zs:List Str}{kvs:List (aR×V)}{σ:St}{js:List (Nat×Str)}{Qp:Hp->Prop}(hσ:eU ["place","part"] js σ=[none,none,aM d])(hp:aS K H p (zs.map V.str))(hz:zs.length<=1000)
  (hd:H d=some (.dK kvs))(hD:H D=none)(q:∀H2,aA H H2->H2 D=some (.lst ((Dq (λz=>(bw kvs (Sum.inr z)).isSome) zs zs.length).map V.int))->Qp H2) :
  ∃W:Nat->Nat->List V->St->Hp->Prop,(∃m,W 0 m [] (eU ["place","part"] js σ) (upd H D (.lst []))) /\
 ∀i m ys σ' H,W i m ys σ' H->((tI K p).stop i H/\Qp H)\/((tI K p).go i H/\∃m',m' < m/\∀x H',(tI K p).mP i H x H'->AA K 2 (jB (dN 0) (jB (dN 1) Dj)) x σ' H' λσ2 H2=>tB (A6 (gS 1) (gS 2)) σ2 H2 λb H3 =>
  if b=true then gS 0 σ2 H3 λy H4=>H4 D=some (.lst ys)/\ys.length < sizeLine/\W (i+1) m' (ys++[y]) σ2 (upd H4 D (.lst (ys++[y]))) else W (i+1) m' ys σ2 H3):=by
 refine yB (xs:=zs.map V.str) (λi ys σ2 H2=>ys=(Dq (λz=>(bw kvs (Sum.inr z)).isSome) zs i).map V.int/\(∃y0 y1,σ2=[y0,y1,aM d])/\aA H H2/\H2 D=some (.lst ys))
  ⟨rfl,⟨none,none,hσ⟩,af hD _,ae⟩ (λi ys σ2 H2 _ h=>h.2.2.1.tup hp) (λi x ys σ2 H2 t ex h ht=>?_) (λys σ2 H2 h=>?_)
 .obtain⟨rfl,⟨y0,y1,rfl⟩,sm,hd2⟩:=h;rw [bz] at ex;obtain⟨z,ez,rfl⟩:=cC.mp ex;have li:=(bu.mp ez).1;have vO:=sm.trans (af ht (.tup [.int (i:Int),.str z]));have ji:upd H2 t (.tup [.int (i:Int),.str z]) D=some (.lst ((Dq (λz=>(bw kvs (Sum.inr z)).isSome) zs i).map V.int)):=by rw [aj (aw hd2 ht)];exact hd2
  have hv:aS K (upd H2 t (.tup [.int (i:Int),.str z])) t [.int (i:Int),.str z]:=aS.of ae;generalize upd H2 t (.tup [.int (i:Int),.str z])=H3 at vO ji hv;have fl:=JR (λz=>(bw kvs (Sum.inr z)).isSome) zs i;refine⟨t,_,rfl,hv,rfl,_,_,rfl,_,_,rfl,rfl,?_⟩;refine⟨_,rfl,_,rfl,d,_,rfl,cq.k (k:=Sum.inr z) (vO _ _ hd),_,rfl,?_⟩;refine cf (λc=>?_) (λc=>?_)
  .refine⟨_,rfl,ji,bM (by rw [au];omega),?_,⟨_,_,rfl⟩,?_,ae⟩
   .rw [yn _ zs i ez,ay (λe=>by rw [e] at c;exact absurd c (by decide)),bG];rfl
   intro b o hb;rw [aj (λz=>by rw [z,hD] at hb;cases hb)];exact vO b o hb
  refine⟨?_,⟨_,_,rfl⟩,vO,ji⟩;rw [yn _ zs i ez,ax,iR];cases hq:(bw kvs (Sum.inr z)).isSome with
  | true=>rfl
  | false=>exact absurd (by rw [hq];rfl) c
 obtain⟨rfl,_,sm,hd2⟩:=h;rw [au] at hd2;exact q H2 sm hd2
open PySem PySem.Spec PyProof.Rows
def i9 {X:Cx}{elt iter tg:Expr}{iy:Nat}{y:Str}{py Pn:Pos}{ifs:List Expr}{scope:Scope}{pos:Pos}{wi:TI}{g:TG}{tif:TT}{te:TE}(ts:List Str)(js:List (Nat×Str))(hN:X.N.Nodup)(hiy:X.N[iy]?=some y)(hy:X.env.scope.names.lookup y=some .local)(hc:X.calm=true)(hi:PI X tg iter wi)
  (cp:Kf X scope js)(jz:∀y∈scope.names,y.2≠.cell)(jy:scope.kind=.function)
  (Au:∀y∈scope.names,y.2=.local->scope.names.lookup y.1=some .local)
  (hg:∀cl C s1 H1 fp,PG (sW X scope cl C s1 H1 (ts++js.map (·.2)) fp) tg g)
  (VS:∀cl C s1 H1 fp,DV (sW X scope cl C s1 H1 (ts++js.map (·.2)) fp) ifs tif)(he:∀cl C s1 H1 fp,PE (sW X scope cl C s1 H1 (ts++js.map (·.2)) fp) elt te)
  (hsw:swapsWith (.ListComp elt [⟨tg,iter,ifs,0⟩] scope pos) (some (.Name y py)) Pn.line X.env=pure true:=by rfl)(hs:∀x,foldedSetIterable iter X.env x=pure x:=by intro _;rfl) :
  PS X (.Assign [.Name y py] (.ListComp elt [⟨tg,iter,ifs,0⟩] scope pos) Pn) (LK (Ey wi ts js g tif te) (dN iy)):=by
 intro ah s σ H DD I h;rw [exec_Assign_Name_used _ _ _ _ hsw];refine aE (wpAny_standAt (aE ?_));show wpAny _ _ (do let _ <-comprehension (.ListComp elt [⟨tg,iter,ifs,0⟩] scope pos) scope X.env _ (newList []) false (eval iter X.env) (some (assign (.Name y py) X.env))) _ _ s;obtain⟨cl,pC⟩:=wR (env:=X.env) (scope:=scope) λy hy=>I.ok.has y (.inl (cp.all y hy));refine aE (dJ (wpAny_comprehension_free (use:=some (assign (.Name y py) X.env)) (Q:=λ_ s'=>SP X ah DD .next s') rfl hs pC.eq jy Au (cQ (hi ah s σ H _ I h) λv s1 h1=>cQ h1 λSq s2 h2=>?_)) (λ_ s' hq=>aP (aP hq)) λ_ _ e=>e);obtain⟨it,fp,tn,J,H2,e,I2,T,HY,f2,h2⟩:=h2;subst e;obtain⟨W,⟨m0,w0⟩,turn⟩:=h2 s2.heap.objs.size I2.fresh;have Gy:∀b∈fp,b < s2.heap.objs.size:=λb hb=>by obtain⟨o,e,_⟩:=T.obj _ _ HY b hb;exact bN e
 refine jq (wpAny_newFunctionEnv jz (by intro y hy;simp at hy) (λh₁ As wG=>?_) jy);dsimp only at As wG ⊢;generalize Nf:s2.heap.push { cls:=.type "list",dict:=none,data:=.seq ([]:List Value).toArray }=G2 at As wG ⊢;have JO:G2.objs.size=s2.heap.objs.size+1:=by rw [<-Nf,oJ]
 have Wc:s2.heap.objs.size≠G2.objs.size:=by rw [JO];exact cv (pQ _)
 have old:∀b o,s2.heap.get? b=some o->h₁.get? b=some o:=λb o e =>
  wG.extBut b o (by rw [JO];exact cv (vh (bN e))) (cu _ (Nf ▸ cu _ e))
 have Di:h₁.get? s2.heap.objs.size=some { cls:=.type "list",data:=.seq ([]:List Value).toArray 0 }:=wG.extBut _ _ Wc (cu _ (Nf ▸ dZ _ rfl));generalize og:sW X scope cl G2.objs.size s2 H2 (ts++js.map (·.2)) fp=X2;have I4:Inv X2 [] (eU ts js σ) (upd H2 s2.heap.objs.size (.lst [])) { s2 with heap:=h₁,toks:=s2.toks+([]:List (Str×Value)).length }:=by
  rw [<-og];exact uG I2 f2 Gy jy jz cp pC (by rw [JO];exact pQ _) rfl rfl old As Di
 have x1:X2.prog=X.prog:=by rw [<-og];rfl
 have x2:X2.w=X.w:=by rw [<-og];rfl
 have x3:X2.K=X.K:=by rw [<-og];rfl
 have x4:X2.calm=true:=by rw [<-og];exact hc
 have x5:X2.A=X.A:=by rw [<-og];rfl
 have x6:X2.env=compEnvC scope cl G2.objs.size X.env:=by rw [<-og];rfl
 have x7:X2.xe=λ_ _=>False:=by rw [<-og];rfl
 have VU:PG X2 tg g:=by rw [<-og];exact hg _ _ _ _ _
 have MZ:DV X2 ifs tif:=by rw [<-og];exact VS _ _ _ _ _
 have Aw:PE X2 elt te:=by rw [<-og];exact he _ _ _ _ _
 have Pk:tn 0 h₁:=T.keep _ _ _ HY λb _ o e=>old b o e;have rD:∀{H':Hp}{j_:List (Addr×Obj)},(∀b∈fp,H' b=none)->(∀p∈j_,p.1∉fp)->∀b∈fp,w5 X2 j_ H' b:=λ{H' j_} hn hp b hb=>by
  have o4:=I4.ok;subst og;exact⟨hn b hb,(o4.OB b hb).1,o4.Dr b hb,.inl hb,(o4.OB b hb).2,λp nZ=>by
   have oE:p∈([]:List (Addr×Obj))++j_:=nZ;rw [pO] at oE;intro z;exact hp p oE (by rw [z];exact hb)⟩
 have fin:∀{s':Shared}{σ':St}{H':Hp},Inv X2 [] σ' H' s'->DD.nx (σ.set iy (some (.ref s2.heap.objs.size))) H' ->
   compPost (model X.prog X.w) X.A X.xe (some (assign (.Name y py) X.env)) (λ_ s'=>SP X ah DD .next s') (.ref s2.heap.objs.size) G2.objs.size (.ok .next) s':=λ{s' σ' H'} J' q=>by
  subst og;obtain⟨m',JJ,_⟩:=J'.loc;have I5:Inv X ah σ H' s':=I2.Ll (s':=s') J'.os J'.base J'.cw J'.bare λb hb=>by
   obtain⟨_,f1,_,f3,f4,f5⟩:=f2 b hb;exact⟨f3,f1,f4,f5⟩
  obtain⟨f0,f1,_,f3,f4,f5⟩:=I2.wK (H':=H') (b:=G2.objs.size) (by rw [JO];exact me _) J'.free;show wpAny _ _ (assign (.Name y py) X.env (.ref s2.heap.objs.size)) _ _ s';refine wpAny_assign_Name (uh I5 hN hiy (.inl hy) (v:=.ref s2.heap.objs.size) rfl (λPw I6 ⟨a,sb,ha⟩=>?_) (.inr hy));have nCa:G2.objs.size≠a:=by
   rcases ha with ha | ha
   .rw [ha];exact f1
   exact(f4 _ _ ha).symm
  refine⟨m',JJ.sameBut sb nCa,λh' Oj=>?_⟩;exact⟨_,H',I6.turned (t':=Pw.toks) (λb o hb e=>(Oj.2 b hb).trans e) f0 f1 f3 f4 f5,q⟩
 have loop:∀s₃:Shared,s₃={ s2 with heap:=h₁,toks:=s2.toks+([]:List (Str×Value)).length } ->
   codeAny (model X.prog X.w) X.A (.compLoop (.ListComp elt [⟨tg,iter,ifs,0⟩] scope pos) 0 (.ref it) (.ref s2.heap.objs.size) (compEnvC scope cl G2.objs.size X.env))
    (compPost (model X.prog X.w) X.A X.xe (some (assign (.Name y py) X.env)) (λ_ s'=>SP X ah DD .next s') (.ref s2.heap.objs.size) G2.objs.size) s₃:=by
  rintro s₃ rfl;subst og;refine qc (λn s'=>∃i ys σ' H',Inv (sW X scope cl G2.objs.size s2 H2 (ts++js.map (·.2)) fp) [] σ' H' s'/\tn i s'.heap/\(∀b∈fp,H' b=none)/\W i n ys σ' H') ?_ m0
   ⟨0,[],_,_,I4,Pk,λb hb=>by rw [aj (cv (Gy b hb))];exact(f2 b hb).1,w0⟩
  rintro n s' ⟨i,ys,σ0,H',J',xc,Q6,w'⟩;rcases turn i n ys σ0 H' w' with ⟨stop,q⟩ | ⟨go,m',hm,step⟩
  .refine dJ (T.done (sW X scope cl G2.objs.size s2 H2 (ts++js.map (·.2)) fp) rfl rfl rfl hc i [] s' _ H' (λ_ _=>False) J' (rD Q6 (by simp)) xc stop) (λr s4 ⟨hr,J4⟩=>?_) λ_ _ z=>z;subst hr;exact fin J4 q
  refine dJ (T.item (sW X scope cl G2.objs.size s2 H2 (ts++js.map (·.2)) fp) rfl rfl rfl hc i [] s' _ H' (λ_ _=>False) J' (rD Q6 (by simp)) xc go) (λr s4 ⟨u,hr,h4⟩=>?_) λ_ _ z=>z;subst hr;refine dJ h4 (λ_ s5 ⟨xv,H5,J5,r5,y5,Cr,Q5⟩=>?_) λ_ _ z=>z;have XF:=J5.pinned (rD Q5 (by simp)) (T.obj _ _ Cr);have back:∀{s7:Shared}{σ7:St}{H7:Hp},Inv (sW X scope cl G2.objs.size s2 H2 (ts++js.map (·.2)) fp) ([]++ph fp s5.heap) σ7 H7 s7->Inv (sW X scope cl G2.objs.size s2 H2 (ts++js.map (·.2)) fp) [] σ7 H7 s7/\tn (i+1) s7.heap/\∀b∈fp,H7 b=none:=λ{s7 σ7 H7} J7=>by
   refine⟨J7.kM,T.keep _ _ _ Cr λb hb o e=>(J7.pin (b,o) (fQ _ (fQ _ (ij hb e)))).1,λb hb=>?_⟩;obtain⟨o,e,d⟩:=T.obj _ _ Cr b hb;exact(J7.pin (b,o) (fQ _ (fQ _ (ij hb e)))).2.1
  show wpAny _ _ (assign tg (sW X scope cl G2.objs.size s2 H2 (ts++js.map (·.2)) fp).env u) _ _ s5;refine dJ (VU _ s5 _ H5 xv u _ XF r5 (step xv H5 y5)) (λ_ s6 ⟨σ6,H6,J6,q6⟩=>?_) λ_ _ z=>z;refine dJ (MZ _ s6 _ H6 _ J6 q6) (λb s7 ⟨H7,J7,q7⟩=>?_) λ_ _ z=>z;cases b with
  | false =>
   rw [ay eF] at q7 ⊢;obtain⟨J8,Ua,Wq⟩:=back J7;exact⟨m',hm,i+1,ys,σ6,H7,J8,Ua,Wq,q7⟩
  | true =>
   rw [ax rfl] at q7 ⊢;refine dJ (Aw _ s7 _ H7 _ J7 q7) (λyv s8 ⟨y,H8,J8,r8,We,Vl,w8⟩=>?_) λ_ _ z=>z;refine dJ (bU (X:=sW X scope cl G2.objs.size s2 H2 (ts++js.map (·.2)) fp) _ s8 _ H8 (.ref s2.heap.objs.size) [y] (.ref s2.heap.objs.size) [yv] (λv H'=>W (i+1) m' (ys++[y]) σ6 H') J8 rfl (.cons r8 .nil) ⟨s2.heap.objs.size,ys,y,rfl,rfl,We,Vl,w8⟩)
    (λ_ s9 ⟨_,H9,J9,_,w9⟩=>?_) λ_ _ z=>z
   obtain⟨XG,LM,Nn⟩:=back J9;exact⟨m',hm,i+1,ys++[y],σ6,H9,XG,LM,Nn,w9⟩
 exact codeAny_compStart_list (loop _ rfl) (T.self _ _ _ _ _ Pk (loop _ rfl))
end L2
namespace hU
open PySem L2 M11
section
def wo {l:List Str}(h:l.Nodup):(l.map (Sum.inr:Str->aR)).Nodup:=List.Pairwise.map _ (λa b hab e=>hab (mf e)) h
structure Ei (K:ba)(ps:List (Str×Addr))(st:Str->List (Nat×Nat))(H:Hp)(d:Addr):Prop where
 hd:Rd H d (.dK (ps.map jJ))
 n1:(ps.map (·.1)).Nodup
 n2:(ps.map (·.2)).Nodup
 lst:∀p∈ps,∃ts,H p.2=some (.lst (ts.map V.ref))/\Paired (λt (e:Nat×Nat)=>aS K H t [.int (e.1:Int),.int (e.2:Int)]) ts (st p.1)
def Rd.same {H H':Hp}{a:Addr}{u:HO}(h:Rd H a u)(s:aA H H'):Rd H' a u:=h.elim (λz=>.inl (s _ _ z)) λ⟨o,z⟩=>.inr ⟨o,s _ _ z⟩
theorem Ei.same {ps:List (Str×Addr)}{st:Str->List (Nat×Nat)}{H H':Hp}{d:Addr}(h:Ei K ps st H d)(s:aA H H'):Ei K ps st H' d :=
 ⟨Rd.same h.hd s,h.n1,h.n2,λp hp=>let ⟨ts,a,b⟩:=h.lst p hp;⟨ts,s _ _ a,Paired.e_ b λ_ _ z=>s.tup z⟩⟩
def u7 (st:Str->List (Nat×Nat))(n:Str)(e:Nat×Nat):Str->List (Nat×Nat):=λz=>if z=n then st z++[e] else st z
def Ei.more {ps:List (Str×Addr)}{st:Str->List (Nat×Nat)}{H:Hp}{d:Addr}(h:Ei K ps st H d){p:Str×Addr}(hp:p∈ps){ts:List Addr}{t:Addr}{e:Nat×Nat}(a:H p.2=some (.lst (ts.map V.ref)))
  (b:Paired (λt (e:Nat×Nat)=>aS K H t [.int (e.1:Int),.int (e.2:Int)]) ts (st p.1))(c:aS K H t [.int (e.1:Int),.int (e.2:Int)]) :
  Ei K ps (u7 st p.1 e) (upd H p.2 (.lst (ts.map V.ref++[.ref t]))) d:=by
 have nd:d≠p.2:=λz=>by
  rcases h.hd with q | ⟨o,q⟩
  .rw [z,a] at q;cases q
  rw [z,a] at q;cases q
 refine⟨?_,h.n1,h.n2,λp' nZ=>?_⟩
 .rcases h.hd with q | ⟨o,q⟩
  .exact .inl (by rw [aj nd];exact q)
  exact .inr ⟨o,by rw [aj nd];exact q⟩
 by_cases z:p'=p
 .rw [z];refine⟨ts++[t],by rw [ae,bG];rfl,?_⟩;have e1:u7 st p.1 e p.1=st p.1++[e]:=ax rfl;rw [e1];exact hZ (Paired.e_ b λ_ _ z=>a7 a z) (a7 a c)
 have n1:p'.1≠p.1:=λq=>z (by
  have w1:=ie ps h.n1 p' nZ;have w2:=ie ps h.n1 p hp;rw [q,w2] at w1;injection w1 with w3;injection w3 with w4;exact Prod.ext q w4.symm)
 have n2:p'.2≠p.2:=λq=>by
  obtain⟨i,hi,ei⟩:=qN.mp nZ;obtain⟨j,hj,ej⟩:=qN.mp hp;have JK:i=j:=by
   refine(vb (xs:=ps.map (·.2)) (h₀:=by simpa using hi) (h₁:=by simpa using hj) h.n2).mp ?_;rw [oS,oS,ei,ej];exact q
  subst JK;exact z (ei.symm.trans ej)
 obtain⟨gI,a',b'⟩:=h.lst p' nZ;refine⟨gI,by rw [aj n2];exact a',?_⟩;have e1:u7 st p.1 e p'.1=st p'.1:=ay n1;rw [e1];exact Paired.e_ b' λ_ _ z=>a7 a z
def Bh (K:ba):Sp:=λvs H Q _=>∃(R:Addr)(rs:List Addr)(aa:List ar),vs=[.ref R]/\aH K H R (rs.map V.ref)/\bK K H rs aa/\aa.length<=1000/\(∀ru∈aa,ru.2.length<=8) /\
 ∀(d:Addr)(ps:List (Str×Addr))(st:Str->List (Nat×Nat))(bH:List (Str×Nat))(H':Hp),H d=none->aA H H'->H' d=some (.dK (ps.map jJ))->Ei K ps st H' d->ps.map (·.1)=hd aa->(∀p∈ps,H p.2=none)->w6 aa bH->yN aa aa.length bH ->
  (∀n k j,n∈hd aa->((k,j)∈st n↔OT aa (hd aa) (λz=>decide (z∈bH.map (·.1))) n k j))->Q (.ref d) H'
def i7:aK ["rules","empty","steps","number","rule","place","part","filled"] ["rules"] (av zH):=iM rfl rfl rfl rfl (by decide +kernel)
def FE (F:iB K "steps_with_like_rows" "steps_with_like_rows" zH f fd)(T:Txt mg)(GE:aC P w K mg base 1 "found_empties" ["rules"] (o6 K))(GH:aC P w K mg base 1 "heads_of" ["rules"] (jP K)):bR P w K mg base gk 2 f fd ["rules"] (Bh K):=by
 refine F.ok i7 (λvs H Q E h=>?_) (λeX A outer s H vs Q E hr h=>?_)
 .obtain⟨R,rs,aa,rfl,_⟩:=h;rfl
 obtain⟨R,rs,aa,rfl,hR,cy,bE,h8,q⟩:=h;have hu:=gh hr;refine⟨_,ai (az (i:=1) i7.nd rfl (Or.inr rfl) (bc (dS rfl) rfl T.AN gi (ab (bp GE hr rfl (ab (pv 0) ag)) ag)))
  (ai (az (i:=2) i7.nd rfl (bC rfl) (bc (dS rfl) rfl T.AN gi (ab
   (bD ["name"] [] rfl (a8 (bp GH hr rfl (ab (pv 0) ag))) (br rfl rfl) (by decide +kernel) rfl (by decide +kernel)
    (λ_ _ _ _ _=>aq (i:=0) (show (["name"]:List Str).Nodup by decide +kernel) rfl (bC rfl)) (λ_ _ _ _ _=>b8)
    (λ_ _ _ _ _=>bo (ab (pv 0) (ab (a_ ag) ag)))) ag)))
  (ai (bL cg rfl (nQ rfl T.JS (ab (pv 0) ag)) (g7 rfl (aB (aq (i:=3) i7.nd rfl (bC rfl)) (aB (aq (i:=4) i7.nd rfl (bC rfl)) b_)))
   (ai (i9 (iy:=7) ["place","part"] [(1,"empty")] i7.nd rfl rfl rfl (nP rfl T.JS (ab (aL aZ (pv 4) ao (λ_ _=>rfl)) ag)) (br rfl rfl) (by decide +kernel) rfl (by decide +kernel)
    (λ_ _ _ _ _=>fR (n:=2) K rfl (aB (aq (i:=0) (show (["place","part","empty"]:List Str).Nodup by decide +kernel) rfl (bC rfl)) (aB (aq (i:=1) (show (["place","part","empty"]:List Str).Nodup by decide +kernel) rfl (bC rfl)) b_)))
    (λ_ _ _ _ _=>ip (eJ (eK hu (pv 1) (pv 2)))) (λ_ _ _ _ _=>pv 0))
   (ak (bL cg rfl (nP rfl T.JS (ab (aL aZ (pv 4) ao (λ_ _=>rfl)) ag)) (g7 rfl (aB (aq (i:=5) i7.nd rfl (bC rfl)) (aB (aq (i:=6) i7.nd rfl (bC rfl)) b_)))
    (ak (bI (PW.pt (kR (eJ (jf hu (pv 6) (pv 2))) (i8 (aX (CC hu) (pv 7) (bo (ab (a_ ag) (ab (a_ (ab (pv 5) ag)) ag))) rfl))))
     (ak (cI (g9 gF gW gX bU (fq hu (pv 2) (aL aZ (pv 4) ao (λ_ _=>rfl)) (λ_ _=>rfl)) (ab (bo (ab (pv 3) (ab (pv 5) ag))) ag)))) aQ)))))
   )
  (ak (aN (pv 2))))),?_⟩
 nofun
 have ll:=aU cy;refine⟨_,rfl,R,rs,aa,rfl,hR,cy,bE,h8,λD1 Cp bH H1 f1 s1 e1 w1 emp Dw=>?_⟩;have Ve:Paired (λt (kv:aR×V)=>aS K H1 t [kV kv.1,kv.2]) Cp (bH.map λp=>((Sum.inr p.1:aR),V.int (p.2:Int))):=cx w1 λ_ _ z=>z;refine⟨D1,Cp,_,rfl,e1,Ve,λe he=>?_⟩;have ekE:df (bH.map λp=>((Sum.inr p.1:aR),V.int (p.2:Int))) []=bH.map λp=>((Sum.inr p.1:aR),V.int (p.2:Int)):=oq _ [] (by
  rw [pO,jm];have:=wo emp.nd;rw [jm] at this;exact this)
 rw [ekE];have CT:∀z,(bw (bH.map λp=>((Sum.inr p.1:aR),V.int (p.2:Int))) (Sum.inr z)).isSome=decide (z∈bH.map (·.1)):=λz=>by
  rw [mS,d_,decide_eq_true_iff,jm];have:(bH.map λp:Str×Nat=>(Sum.inr p.1:aR))=(bH.map (·.1)).map Sum.inr:=by rw [jm];rfl
  show _∈(bH.map λp:Str×Nat=>(Sum.inr p.1:aR))↔_;rw [this];exact cN
 generalize (bH.map λp=>((Sum.inr p.1:aR),V.int (p.2:Int)))=kE at CT ⊢;have s2:=s1.trans (af he (.dK kE));have e2:upd H1 e (.dK kE) e=some (.dK kE):=ae;generalize upd H1 e (.dK kE)=H2 at s2 e2;refine⟨_,rfl,R,rs,aa,rfl,s2.seq hR,cy.same s2,bE,λD2 H3 f3 s3 e3=>?_⟩;have JC:=iO (aa.map (·.1)) [];simp only [jo,au] at JC;refine⟨D2,rfl,⟨_,aH.of e3⟩,λD3 yj=>s_ (aH.of e3) ∅ yj λts ps H4 s4 e4 m4 p4 l4 n4=>?_⟩;have n1:(ps.map (·.1)).Nodup:=by rw [m4];exact pH _ kr
 have Gb:Paired (λt (kv:aR×V)=>aS K H4 t [kV kv.1,kv.2]) ts (ps.map jJ):=cx p4 λ_ _ z=>z;refine⟨D3,ts,_,rfl,e4,Gb,λd tN=>?_⟩;have Rh:df (ps.map jJ) []=ps.map jJ:=oq _ [] (by
  rw [pO,nV];exact wo n1)
 rw [Rh];have s5:=((s2.trans s3).trans s4).trans (af tN (.dK (ps.map jJ)));have tM:=af tN (.dK (ps.map jJ));have e5:upd H4 d (.dK (ps.map jJ)) d=some (.dK (ps.map jJ)):=ae;have Rl:=tM _ _ (s4 _ _ (s3 _ _ e2));have y_:H d=none:=((s2.trans s3).trans s4).free tN;have S5:Ei K ps (λ_=>[]) (upd H4 d (.dK (ps.map jJ))) d:=⟨.inl e5,n1,n4,λp hp=>⟨[],tM _ _ (l4 p hp).1,.nil⟩⟩;have Oz:∀p∈ps,H p.2=none:=λp hp=>(s2.trans s3).free (l4 p hp).2.1;generalize upd H4 d (.dK (ps.map jJ))=H5 at s5 e5 Rl S5;clear tM;have eb:(λz=>(bw kE (Sum.inr z)).isSome)=λz=>decide (z∈bH.map (·.1)):=funext CT;refine⟨_,rfl,R,_,rfl,s5.seq hR,?_⟩;refine k0 (xs:=rs.map V.ref) (λi σ H6=>∃(st:Str->List (Nat×Nat))(y3 y4 y5 y6 y7:Option V),σ=[aM R,aM e,aM d,y3,y4,y5,y6,y7]/\aA H H6/\H6 e=some (.dK kE)/\H6 d=some (.dK (ps.map jJ))/\Ei K ps st H6 d /\
  (∀n,(st n).length<=8 * i)/\∀n k j,n∈hd aa->((k,j)∈st n↔k < i/\OT aa (hd aa) (λz=>decide (z∈bH.map (·.1))) n k j))
  ⟨λ_=>[],none,none,none,none,none,rfl,s5,Rl,e5,S5,by simp,by simp⟩ ?_ ?_ ?_
 .rintro i σ H6 _ ⟨st,y3,y4,y5,y6,y7,rfl,s6,_⟩;exact s6.seq hR
 .rintro i x σ H6 t ex ⟨st,y3,y4,y5,y6,y7,rfl,s6,Nz,Lc,S6,l6,c6⟩ ht
  ac_nf0
  rw [bz] at ex;obtain⟨r,er,rfl⟩:=cC.mp ex;obtain⟨ru,sP,p,v1,v2⟩:=cy.get er;have lP:=b9 sP;have Ow:=h8 ru lP;have li:=(bu.mp sP).1;have uq:=af ht (.tup [.int (i:Int),.ref r]);have K2:aS K (upd H6 t (.tup [.int (i:Int),.ref r])) t [.int (i:Int),.ref r]:=aS.of ae;have s7:=s6.trans uq;have Ny:=uq _ _ Nz;have ZP:=uq _ _ Lc;have S7:=S6.same uq;generalize upd H6 t (.tup [.int (i:Int),.ref r])=H7 at K2 s7 Ny ZP S7;refine⟨t,_,rfl,K2,rfl,_,_,rfl,_,_,rfl,rfl,?_⟩;refine⟨_,rfl,r,_,_,_,rfl,rfl,s7.tup v1,rfl,p,_,rfl,s7.tup v2,λD5 Ov=>yA rfl (s7.tup v2) ∅ Ny Ov λH8 N_ e8=>?_⟩;rw [eb] at e8;have s8:=s7.trans N_;have ee8:=N_ _ _ Ny;have WK:=N_ _ _ ZP;have S8:=S7.same N_;have nD5:∀p∈ps,p.2≠D5:=λp hp z=>by
   obtain⟨gI,a,_⟩:=S7.lst p hp;rw [z,Ov] at a;cases a
  obtain⟨pn,yh,zc⟩:∃pn∈ps,pn.1=ru.1:=by
   have:ru.1∈ps.map (·.1):=by rw [m4];exact(iq _ _ _).mpr (.inr (j8 lP))
   obtain⟨pn,a,b⟩:=cX.mp this;exact⟨pn,a,b⟩
  refine⟨_,rfl,r,_,_,_,rfl,rfl,s8.tup v1,rfl,p,_,rfl,s8.tup v2,?_⟩;refine pE (xs:=ru.2.map V.str) (λj σ H9=>∃(st:Str->List (Nat×Nat))(y5 y6:Option V),σ=[aM R,aM e,aM d,some (.int (i:Int)),aM r,y5,y6,aM D5]/\aA H H9/\H9 e=some (.dK kE)/\H9 d=some (.dK (ps.map jJ))/\Ei K ps st H9 d /\
   H9 D5=some (.lst ((Dq (λz=>decide (z∈bH.map (·.1))) ru.2 ru.2.length).map V.int))/\(∀n,(st n).length<=8 * i+j)/\∀n k j',n∈hd aa->((k,j')∈st n↔(k < i\/(k=i/\j' < j))/\OT aa (hd aa) (λz=>decide (z∈bH.map (·.1))) n k j'))
   ⟨st,_,_,rfl,s8,ee8,WK,S8,e8,λn=>l6 n,λn k j' hn=>by rw [c6 n k j' hn];simp⟩ ?_ ?_ ?_
  .rintro j σ H9 _ ⟨st,y5,y6,rfl,s9,_⟩;exact s9.tup v2
  .rintro j x σ H9 t2 pF ⟨st,y5,y6,rfl,s9,WI,NA,S9,e9,l9,c9⟩ jl
   ac_nf0
   rw [bz] at pF;obtain⟨z,ez,rfl⟩:=cC.mp pF;have lj:=(bu.mp ez).1;have xH:=af jl (.tup [.int (j:Int),.str z]);have Gp:aS K (upd H9 t2 (.tup [.int (j:Int),.str z])) t2 [.int (j:Int),.str z]:=aS.of ae;have wb:=s9.trans xH;have wM:=xH _ _ WI;have qp:=xH _ _ NA;have Ef:=xH _ _ e9;have Ls:=S9.same xH;generalize upd H9 t2 (.tup [.int (j:Int),.str z])=A1 at Gp wb wM qp Ef Ls;have mem:(bw (ps.map jJ) (Sum.inr z)).isSome=true↔z∈hd aa:=by rw [d_,nV,m4];exact cN
   have kO:¬(z∈hd aa/\JB (λz=>decide (z∈bH.map (·.1))) ru.2 j=true)->∀n k j',n∈hd aa->((k,j')∈st n↔(k < i\/(k=i/\j' < j+1))/\OT aa (hd aa) (λz=>decide (z∈bH.map (·.1))) n k j'):=λhn n k j' VJ=>by
    rw [c9 n k j' VJ];constructor
    .rintro⟨h1,h3⟩;exact⟨∅,h3⟩
    rintro⟨h1,h3⟩;refine⟨?_,h3⟩;by_cases c:k=i/\j'=j
    .obtain⟨Cv,z',a1,a2,a3,a4,a5⟩:=h3;rw [c.1,sP] at a1;cases a1;rw [c.2] at a5;rw [c.2,ez] at a3;cases a3;exact absurd ⟨a4,a5⟩ hn
    omega
   have YL:∀n,(st n).length<=8 * i+(j+1):=λn=>by have:=l9 n;omega
   refine⟨t2,_,rfl,Gp,rfl,_,_,rfl,_,_,rfl,rfl,?_⟩;refine⟨_,rfl,_,rfl,d,_,rfl,cq.k (k:=Sum.inr z) qp,_,rfl,?_⟩;refine cf (λc=>?_) (λc=>?_)
   .have hz:=mem.mp c;refine⟨_,rfl,rq,λl1 Zc=>?_⟩;have Jb:=af Zc (.lst []);have Ir:upd A1 l1 (.lst []) l1=some (.lst []):=ae;have nl1:l1≠D5:=(aw Ef Zc).symm;generalize upd A1 l1 (.lst [])=DX at Jb Ir;refine⟨_,rfl,qg,λl2 tU=>?_⟩;have Kv:=af tU (.lst [.int (j:Int)]);have Lg:upd DX l2 (.lst [.int (j:Int)]) l2=some (.lst [.int (j:Int)]):=ae;have UO:l2≠D5:=(aw (Jb _ _ Ef) tU).symm;generalize upd DX l2 (.lst [.int (j:Int)])=yK at Kv Lg;refine⟨iP,λt3 QA=>?_⟩;have yS:=af QA (.tup [.ref l1,.ref l2]);have e13:aS K (upd yK t3 (.tup [.ref l1,.ref l2])) t3 [.ref l1,.ref l2]:=aS.of ae;generalize upd yK t3 (.tup [.ref l1,.ref l2])=Cd at yS e13;have qj:=(Jb.trans Kv).trans yS;refine⟨t3,D5,l1,l2,_,[],[(j:Int)],rfl,rfl,e13,aH.of (qj _ _ Ef),aH.of (yS _ _ (Kv _ _ Ir)),aH.of (yS _ _ Lg),nl1,UO,_,rfl,?_⟩;have HJ:=Ls.same qj;have L_:=wb.trans qj;refine cf (λc2=>?_) (λc2=>?_)
    .obtain⟨X0,an,bn⟩:=HJ.lst pn yh;have vn:=ie ps n1 pn yh;rw [zc] at vn;have hg:cq Cd d (.str ru.1) (some (.ref pn.2)):=by
      have:=cq.k (k:=Sum.inr ru.1) (qj _ _ qp);rw [vn] at this;exact this
     have ltn:=aU bn;have l9n:=l9 pn.1;refine⟨_,rfl,_,rfl,r,_,_,_,rfl,rfl,L_.tup v1,rfl,d,_,rfl,hg,.inl ⟨rfl,_,aH.of an⟩,_,rfl,_,rfl,iP,λt4 C6=>?_⟩;have zS:=af C6 (.tup [.int (i:Int),.int (j:Int)]);have e14:aS K (upd Cd t4 (.tup [.int (i:Int),.int (j:Int)])) t4 [.int (i:Int),.int (j:Int)]:=aS.of ae;generalize upd Cd t4 (.tup [.int (i:Int),.int (j:Int)])=H14 at zS e14;have RE:=HJ.same zS;have J3:=zS _ _ an;have Xe:=Paired.e_ bn λt' (e':Nat×Nat)(z:aS K Cd t' [.int (e'.1:Int),.int (e'.2:Int)])=>zS.tup z;refine⟨pn.2,_,_,rfl,rfl,J3,bM (by rw [au];omega),?_⟩;have XB:=RE.more (e:=(i,j)) yh J3 Xe e14;have ne1:e≠pn.2:=λz=>by have:=zS _ _ (qj _ _ wM);rw [z,J3] at this;cases this
     have ne2:d≠pn.2:=λz=>by have:=zS _ _ (qj _ _ qp);rw [z,J3] at this;cases this
     refine⟨u7 st pn.1 (i,j),_,_,rfl,λb o hb=>?_,by rw [aj ne1];exact zS _ _ (qj _ _ wM),by rw [aj ne2];exact zS _ _ (qj _ _ qp),XB,by rw [aj (nD5 pn yh).symm];exact zS _ _ (qj _ _ Ef),λn=>?_,λn k j' VJ=>?_⟩
     .rw [aj (λz=>by rw [z,Oz pn yh] at hb;cases hb)];exact zS _ _ (L_ b o hb)
     .have:=l9 n;unfold u7
      split
      .rw [a9];simp;omega
      omega
     have hit:OT aa (hd aa) (λz=>decide (z∈bH.map (·.1))) ru.1 i j:=⟨ru,z,sP,rfl,ez,hz,c2⟩;have Ln:=c9 n k j' VJ;unfold u7;by_cases cn:n=pn.1
     .rw [ax cn,bQ,bF,Ln];constructor
      .rintro(⟨h1,h3⟩ | h1)
       .exact⟨∅,h3⟩
       cases h1;exact⟨∅,by rw [cn,zc];exact hit⟩
      rintro⟨h1,h3⟩;by_cases cc:k=i/\j'=j
      .exact .inr (by rw [cc.1,cc.2])
      exact .inl ⟨∅,h3⟩
     rw [ay cn,Ln];constructor
     .rintro⟨h1,h3⟩;exact⟨∅,h3⟩
     rintro⟨h1,h3⟩;refine⟨?_,h3⟩;by_cases cc:k=i/\j'=j
     .obtain⟨Cv,z',a1,a2,_⟩:=h3;rw [cc.1,sP] at a1;cases a1;exact absurd (a2.symm.trans zc.symm) cn
     omega
    exact⟨st,_,_,rfl,L_,qj _ _ wM,qj _ _ qp,HJ,qj _ _ Ef,YL,kO λ⟨_,h⟩=>c2 h⟩
   exact⟨st,_,_,rfl,wb,wM,qp,Ls,Ef,YL,kO λ⟨h,_⟩=>c (mem.mpr h)⟩
  rintro σ H9 ⟨st,y5,y6,rfl,s9,WI,NA,S9,e9,l9,c9⟩;rw [au] at l9 c9;refine⟨st,_,_,_,_,_,rfl,s9,WI,NA,S9,λn=>?_,λn k j' hn=>?_⟩
  .have:=l9 n;omega
  rw [c9 n k j' hn];constructor
  .rintro⟨h1 | ⟨h1,h2⟩,h3⟩
   .exact⟨∅,h3⟩
   exact⟨∅,h3⟩
  rintro⟨h1,h3⟩;refine⟨?_,h3⟩;by_cases c:k < i
  .exact .inl c
  refine .inr ⟨∅,?_⟩;obtain⟨Cv,z',a1,_,a3,_⟩:=h3;have:k=i:=by omega
  rw [this,sP] at a1;cases a1;exact(bu.mp a3).1
 rintro σ H6 ⟨st,y3,y4,y5,y6,y7,rfl,s6,Nz,Lc,S6,l6,c6⟩;rw [au,ll] at c6;refine⟨_,rfl,q d ps st bH H6 y_ s6 Lc S6 m4 Oz emp Dw λn k j hn=>?_⟩;rw [c6 n k j hn];constructor
 .exact λh=>h.2
 intro h;obtain⟨Cv,_,a1,_⟩:=id h;exact⟨(bu.mp a1).1,h⟩
end
end hU
namespace L2
open PySem
def cq.r {H:Hp}{a:Addr}{kvs:List (aR×V)}{k:aR}(e:Rd H a (.dK kvs)):cq H a (kV k) (bw kvs k):=.inl ⟨kvs,k,e,rfl,rfl⟩
end L2
namespace hU
open PySem L2 M11
section
def Down (aa:List ar) (names:List Str)(st:Str->List (Nat×Nat))(rk:Str->Nat):Prop:=∀n∈names,∀e∈st n,∃ru z,aa[e.1]?=some ru/\ru.2[e.2]?=some z/\z∈names/\rk z < rk n
def Kl (K:ba):Sp:=λvs H Q _=>∃(R d:Addr)(rs:List Addr)(aa:List ar)(ps:List (Str×Addr))(st:Str->List (Nat×Nat))(name:Str)(rk:Str->Nat),vs=[.ref R,.ref d,.str name]/\aH K H R (rs.map V.ref)/\bK K H rs aa/\aa.length<=1000 /\
 Ei K ps st H d/\ps.length<=1000/\name∈ps.map (·.1)/\Down aa (ps.map (·.1)) st rk/\∀(D:Addr)(H':Hp),H D=none->aA H H'->H' D=some (.lst [])->Q (.ref D) H'
structure Eh (K:ba) (names:List Str)(rk:Str->Nat)(name:Str)(H H5:Hp)(D m:Addr)(mv:List Addr)(j9:List (Str×Addr)) (ms:List Str)(kvs:List (aR×V)):Prop where
 sm:aA H H5
 hD:H5 D=some (.lst (mv.map V.ref))
 hm:H5 m=some (.dK kvs)
 keys:kvs.map (·.1)=ms.map Sum.inr
 nd:ms.Nodup
 sub:∀x∈ms,x∈names
 wl:j9.length=ms.length+1
 wv:Paired (λt (e:Str×Addr)=>aS K H5 t [.str e.1,.ref e.2]) mv j9
 we:∀e∈j9,e.1∈names/\rk e.1<=rk name/\∃xs,H5 e.2=some (.lst xs)/\xs.length<=j9.length/\e.2≠D
def Eh.same {names:List Str}{rk:Str->Nat}{name:Str}{H H5 H6:Hp}{D m:Addr}{mv:List Addr}{j9:List (Str×Addr)}{ms:List Str}{kvs:List (aR×V)}(h:Eh K names rk name H H5 D m mv j9 ms kvs)(s:aA H5 H6):Eh K names rk name H H6 D m mv j9 ms kvs :=
 ⟨h.sm.trans s,s _ _ h.hD,s _ _ h.hm,h.keys,h.nd,h.sub,h.wl,Paired.e_ h.wv λ_ _ z=>s.tup z,λe he=>let ⟨a,b,xs,c,d⟩:=h.we e he;⟨a,b,xs,s _ _ c,d⟩⟩
def Eh.len {names:List Str}{rk:Str->Nat}{name:Str}{H H5:Hp}{D m:Addr}{mv:List Addr}{j9:List (Str×Addr)}{ms:List Str}{kvs:List (aR×V)}(h:Eh K names rk name H H5 D m mv j9 ms kvs):mv.length=j9.length/\kvs.length=ms.length/\ms.length<=names.length:=by
 refine⟨aU h.wv,?_,gO _ _ h.nd h.sub⟩;have:=congrArg List.length h.keys;simpa using this
def Eh.more {names:List Str}{rk:Str->Nat}{name z:Str}{H H5 H9:Hp}{D m t c:Addr}{mv:List Addr}{j9:List (Str×Addr)}{ms:List Str}{kvs:List (aR×V)}{xs:List V}(h:Eh K names rk name H H5 D m mv j9 ms kvs)(fD:H D=none)(fm:H m=none)
  (hz:z∈names)(hr:rk z<=rk name)(hn:z∉ms)(s:aA (upd H5 m (.dK (bT kvs (Sum.inr z) (.bl true)))) H9)(ht:aS K H9 t [.str z,.ref c])(hc:H9 c=some (.lst xs))(hx:xs.length<=j9.length+1)(nc:c≠D) :
  Eh K names rk name H (upd H9 D (.lst (mv.map V.ref++[.ref t]))) D m (mv++[t]) (j9++[(z,c)]) (ms++[z]) (bT kvs (Sum.inr z) (.bl true)):=by
 have Sl:D≠m:=λe=>by have:=h.hD;rw [e,h.hm] at this;cases this
 have K6:H9 D=some (.lst (mv.map V.ref)):=s _ _ (by rw [aj Sl];exact h.hD);have hm9:H9 m=some (.dK (bT kvs (Sum.inr z) (.bl true))):=s _ _ ae;refine⟨λb o hb=>?_,by rw [ae,bG];rfl,by rw [aj Sl.symm];exact hm9,?_,?_,?_,?_,?_,?_⟩
 .rw [aj (λe=>by rw [e,fD] at hb;cases hb)];exact s _ _ (by rw [aj (λe=>by rw [e,fm] at hb;cases hb)];exact h.sm b o hb)
 .rw [iI (by rw [h.keys];exact λe=>hn (cN.mp e)),h.keys,bG];rfl
 .refine j7.mpr ⟨h.nd,by simp,λa ha b hb e=>?_⟩;rw [bF.mp hb] at e;exact hn (e ▸ ha)
 .intro x Vo;rcases bQ.mp Vo with e | e
  .exact h.sub x e
  rw [bF.mp e];exact hz
 .rw [a9,a9,h.wl];rfl
 .exact hZ (Paired.e_ h.wv λ_ _ e=>a7 K6 (s.tup (iw h.hm e))) (a7 K6 ht)
 intro e he;rw [a9];rcases bQ.mp he with e' | e'
 .obtain⟨a,b,ys,c1,d1,n1⟩:=h.we e e';exact⟨a,b,ys,by rw [aj n1];exact s _ _ (by rw [aj (λq=>by rw [q,h.hm] at c1;cases c1)];exact c1),∅,n1⟩
 rw [bF.mp e'];exact⟨hz,hr,xs,by rw [aj nc];exact hc,hx,nc⟩
def nv:aK ["rules","steps","name","ways","met","at","way","number","place","part"] ["rules","steps","name"] (av LR):=iM rfl rfl rfl rfl (by decide +kernel)
def Mr (F:iB K "way_back" "way_back" LR f fd)(T:Txt mg):bR P w K mg base gk 1 f fd ["rules","steps","name"] (Kl K):=by
 refine F.ok nv (λvs H Q E h=>?_) (λeX A outer s H vs Q E hr h=>?_)
 .obtain⟨R,d,rs,aa,ps,st,name,rk,rfl,_⟩:=h;rfl
 obtain⟨R,d,rs,aa,ps,st,name,rk,rfl,hR,cy,bE,S,Y9,Gu,V2,q⟩:=h;have hu:=gh hr;refine⟨_,ai (az (i:=3) nv.nd rfl (bC rfl) (a_ (ab (bo (ab (pv 2) (ab (a_ ag) ag))) ag)))
  (ai (az (i:=4) nv.nd rfl (bC rfl) g8)
  (ai (az (i:=5) nv.nd rfl (bC rfl) ao)
  (ai (kS cg (aX nU (pv 5) (aD aG rfl T.len cY (ab (pv 3) ag)) (bJ _))
   (ai (az (i:=6) nv.nd rfl (bC rfl) (aL aZ (aL bB (pv 3) (pv 5) (λ_ _=>rfl)) ao (λ_ _=>rfl)))
   (ai (bL cg rfl (a8 (fq hu (pv 1) (aL aZ (aL bB (pv 3) (pv 5) (λ_ _=>rfl)) ao (λ_ _=>rfl)) (λ_ _=>rfl))) (g7 rfl (aB (aq (i:=7) nv.nd rfl (bC rfl)) (aB (aq (i:=8) nv.nd rfl (bC rfl)) b_)))
    (ai (az (i:=9) nv.nd rfl (bC rfl) (aL aZ (aL aZ (aL bB (pv 0) (pv 7) (λ_ _=>rfl)) ao (λ_ _=>rfl)) (pv 8) (λ_ _=>rfl)))
    (ai (bI (aX hJ (pv 9) (pv 2) (bJ _)) (ak iW) aQ)
    (ak (bI (eJ (eK hu (pv 9) (pv 4)))
     (ai (iJ hu (pv 4) (pv 9) f_ rfl) (ak (cI (g9 gF gW gX bU (pv 3) (ab (bo (ab (pv 9) (ab (aI dH (pv 6) (a_ (ab (bo (ab (pv 7) (ab (pv 8) ag))) ag))) ag))) ag))))) aQ)))))
   (ak (Mg (i:=5) nv.nd rfl (bC rfl) ao MO)))))
  (ak (aN (a_ ag)))))),?_⟩
 nofun
 have BO:(ps.map (·.1)).length=ps.length:=au _;refine⟨_,rfl,rq,λl0 Sz=>?_⟩;have s1:=af Sz (.lst []);have e1:upd H l0 (.lst []) l0=some (.lst []):=ae;generalize upd H l0 (.lst [])=H1 at s1 e1;refine⟨iP,λt0 ht0=>?_⟩;have s2:=af ht0 (.tup [.str name,.ref l0]);have e2:aS K (upd H1 t0 (.tup [.str name,.ref l0])) t0 [.str name,.ref l0]:=aS.of ae;generalize upd H1 t0 (.tup [.str name,.ref l0])=H2 at s2 e2;refine⟨qg,λD hD=>?_⟩;have s3:=af hD (.lst [.ref t0]);have e3:upd H2 D (.lst [.ref t0]) D=some (.lst ([t0].map V.ref)):=ae;have nl0:l0≠D:=aw (s2 _ _ e1) hD;generalize upd H2 D (.lst [.ref t0])=H3 at s3 e3;intro m hm;have s4:=af hm (.dK []);have e4:upd H3 m (.dK []) m=some (.dK []):=ae;generalize upd H3 m (.dK [])=H4 at s4 e4;have fD:H D=none:=(s1.trans s2).free hD;have fm:H m=none:=((s1.trans s2).trans s3).free hm;have W0:Eh K (ps.map (·.1)) rk name H H4 D m [t0] [(name,l0)] [] []:=⟨((s1.trans s2).trans s3).trans s4,s4 _ _ e3,e4,rfl,kr,by simp,rfl,.cons ((s3.trans s4).tup e2) .nil,λe he=>by
  rw [bF.mp he];exact⟨Gu,aF _,[],s4 _ _ (s3 _ _ (s2 _ _ e1)),by simp,nl0⟩⟩
 refine⟨λmm σ H5=>∃(mv:List Addr)(j9:List (Str×Addr)) (ms:List Str)(kvs:List (aR×V)) (at_:Nat)(y6 y7 y8 y9:Option V),σ=[aM R,aM d,some (.str name),aM D,aM m,some (.int (at_:Int)),y6,y7,y8,y9]/\Eh K (ps.map (·.1)) rk name H H5 D m mv j9 ms kvs /\
  at_<=j9.length/\mm=1002 - at_,⟨1002,[t0],[(name,l0)],[],[],0,none,none,none,none,rfl,W0,by simp,rfl⟩,?_⟩
 rintro mm σ H5 ⟨mv,j9,ms,kvs,at_,y6,y7,y8,y9,rfl,W,hat,rfl⟩;obtain⟨lw,lk,lm⟩:=W.len;have aad:=W.wl;refine⟨_,rfl,_,rfl,D,_,rfl,.inl (aH.of W.hD),_,_,rfl,rfl,_,rfl,?_⟩;refine cf (λc=>?_) (λc=>?_)
 .have c':=cZ c;rw [au,lw] at c';have kj:at_ < j9.length:=by omega
  obtain⟨n,l,en⟩:∃n l,j9[at_]?=some (n,l):=⟨(j9[at_]).1,(j9[at_]).2,dG kj⟩;obtain⟨t1,et1,BN⟩:=Paired.at_ W.wv at_ (n,l) en;have at1:jZ (mv.map V.ref) (at_:Int)=some (.ref t1):=bZ (by rw [bz,et1];rfl);obtain⟨hn,hrn,xs,hl,hxl,My⟩:=W.we (n,l) (b9 en);dsimp only at hn hrn hl My;obtain⟨pn,yh,zc⟩:=cX.mp hn;have vn:=ie ps S.n1 pn yh;rw [zc] at vn;obtain⟨X0,an,bn⟩:=S.lst pn yh;rw [zc] at bn;refine⟨λσ H5=>∃(mv:List Addr)(j9:List (Str×Addr)) (ms:List Str)(kvs:List (aR×V))(y6 y7 y8 y9:Option V),σ=[aM R,aM d,some (.str name),aM D,aM m,some (.int ((at_+1:Nat):Int)),y6,y7,y8,y9]/\Eh K (ps.map (·.1)) rk name H H5 D m mv j9 ms kvs/\at_+1<=j9.length,?_,?_⟩
  .rintro σ H6 ⟨mv,j9,ms,kvs,y6,y7,y8,y9,rfl,W2,h2⟩;exact⟨1002 - (at_+1),∅,mv,j9,ms,kvs,at_+1,_,_,_,_,rfl,W2,h2,rfl⟩
  refine⟨_,rfl,_,rfl,D,_,_,_,rfl,rfl,aH.of W.hD,at1,t1,_,_,_,rfl,rfl,BN,rfl,?_⟩;have hg:cq H5 d (.str n) (some (.ref pn.2)):=by
   have:=cq.r (k:=Sum.inr n) (Rd.same S.hd W.sm);rw [vn] at this;exact this
  refine⟨_,rfl,_,rfl,_,rfl,D,_,_,_,rfl,rfl,aH.of W.hD,at1,t1,_,_,_,rfl,rfl,BN,rfl,d,_,rfl,hg,pn.2,rfl,⟨_,aH.of (W.sm _ _ an)⟩,?_⟩;refine cJ (xs:=X0.map V.ref) (λi σ H6=>∃(mv:List Addr)(j9:List (Str×Addr)) (ms:List Str)(kvs:List (aR×V))(y7 y8 y9:Option V),σ=[aM R,aM d,some (.str name),aM D,aM m,some (.int (at_:Int)),aM l,y7,y8,y9]/\Eh K (ps.map (·.1)) rk name H H6 D m mv j9 ms kvs /\
   at_+1<=j9.length/\∃e∈j9,e.2=l) ⟨mv,j9,ms,kvs,_,_,_,rfl,W,kj,(n,l),b9 en,rfl⟩ ?_ ?_ ?_
  .rintro i σ H6 _ ⟨mv,j9,ms,kvs,y7,y8,y9,rfl,W2,_⟩;exact aH.of (W2.sm _ _ an)
  .rintro i x σ H6 ex ⟨mv,j9,ms,kvs,y7,y8,y9,rfl,W2,h2,e0,V1,WJ⟩
   ac_nf0
   rw [bz] at ex;obtain⟨ti,ZC,rfl⟩:=cC.mp ex;have lbn:=aU bn;have lti:=(bu.mp ZC).1;obtain⟨⟨k,j⟩,ZM⟩:∃e,(st n)[i]?=some e:=⟨(st n)[i]'∅,dG ∅⟩;obtain⟨ti',Ra,hti⟩:=Paired.at_ bn i (k,j) ZM;rw [ZC] at Ra;cases Ra;obtain⟨ru,z,er,ez,hz,hrk⟩:=V2 n hn (k,j) (b9 ZM);obtain⟨r,G5,p,v1,v2⟩:=Paired.at_ cy k ru er;have atr:jZ (rs.map V.ref) (k:Int)=some (.ref r):=bZ (by rw [bz,G5];rfl);have Xo:jZ (ru.2.map V.str) (j:Int)=some (.str z):=bZ (by rw [bz,ez];rfl);obtain⟨lw2,Of,lm2⟩:=W2.len;have YE:=W2.wl;refine⟨ti,_,rfl,W2.sm.tup hti,rfl,_,_,rfl,_,_,rfl,rfl,?_⟩;refine⟨_,rfl,_,rfl,R,_,_,_,rfl,rfl,W2.sm.seq hR,atr,r,_,_,_,rfl,rfl,W2.sm.tup v1,rfl,_,rfl,p,_,_,_,rfl,rfl,W2.sm.tup v2,Xo,?_⟩;refine⟨_,rfl,_,rfl,rfl,_,rfl,?_⟩;have nz:z≠name:=λe=>by rw [e] at hrk;omega
   refine cf (λc=>absurd (cZ c) (λe=>nz (by injection e))) (λ_=>?_);have mem:(bw kvs (Sum.inr z)).isSome=true↔z∈ms:=by rw [d_,W2.keys];exact cN
   refine⟨_,rfl,_,rfl,m,_,rfl,cq.k (k:=Sum.inr z) W2.hm,_,rfl,?_⟩;refine cf (λc=>?_) (λc=>?_)
   .have nm:z∉ms:=λh=>by rw [mem.mpr h] at c;exact absurd c (by decide)
    refine⟨_,rfl,_,rfl,m,_,rfl,pM.k (k:=Sum.inr z) W2.hm (bM ∅),?_⟩;obtain⟨_,_,IH,tU,aak,UO⟩:=W2.we e0 V1;rw [WJ] at tU UO;have Sl:D≠m:=λe=>by have:=W2.hD;rw [e,W2.hm] at this;cases this
    have nlm:l≠m:=λe=>by rw [e,W2.hm] at tU;cases tU
    have Ng:upd H6 m (.dK (bT kvs (Sum.inr z) (.bl true))) D=some (.lst (mv.map V.ref)):=by rw [aj Sl];exact W2.hD
    have hlu:upd H6 m (.dK (bT kvs (Sum.inr z) (.bl true))) l=some (.lst IH):=by rw [aj nlm];exact tU
    refine⟨_,rfl,.inl ⟨rfl,_,aH.of Ng⟩,_,rfl,_,rfl,_,rfl,_,rfl,iP,λt4 C6=>?_⟩;have Yh:=af C6 (.tup [.int (k:Int),.int (j:Int)]);generalize upd (upd H6 m (.dK (bT kvs (Sum.inr z) (.bl true)))) t4 (.tup [.int (k:Int),.int (j:Int)])=H7 at Yh;refine⟨qg,λl4 hl4=>?_⟩;have Ye:=af hl4 (.lst [.ref t4]);have e5':upd H7 l4 (.lst [.ref t4]) l4=some (.lst [.ref t4]):=ae;generalize upd H7 l4 (.lst [.ref t4])=H8 at Ye e5';have Oa:=Yh.trans Ye;refine⟨l,l4,IH,[.ref t4],rfl,rfl,Oa _ _ hlu,e5',fits (by simp;omega),λc0 Zn=>?_⟩;have Yc:=af Zn (.lst (IH++[.ref t4]));have e6':upd H8 c0 (.lst (IH++[.ref t4])) c0=some (.lst (IH++[.ref t4])):=ae;have nc0:c0≠D:=(aw (Oa _ _ Ng) Zn).symm;generalize upd H8 c0 (.lst (IH++[.ref t4]))=H9 at Yc e6';refine⟨iP,λt5 Qz=>?_⟩;have Um:=af Qz (.tup [.str z,.ref c0]);have Z_:aS K (upd H9 t5 (.tup [.str z,.ref c0])) t5 [.str z,.ref c0]:=aS.of ae;generalize upd H9 t5 (.tup [.str z,.ref c0])=A1 at Um Z_;have sA:=(Oa.trans Yc).trans Um;refine⟨D,_,_,rfl,rfl,sA _ _ Ng,bM (by rw [au];omega),?_⟩;exact⟨mv++[t5],j9++[(z,c0)],ms++[z],_,_,_,_,rfl,W2.more fD fm hz ∅ nm sA Z_ (Um _ _ e6') (by rw [a9];simp;omega) nc0,by rw [a9];omega,e0,h_ _ V1,WJ⟩
   exact⟨mv,j9,ms,kvs,_,_,_,rfl,W2,h2,e0,V1,WJ⟩
  rintro σ H6 ⟨mv,j9,ms,kvs,y7,y8,y9,rfl,W2,h2,_⟩;exact⟨_,rfl,_,_,rfl,rfl,mv,j9,ms,kvs,_,_,_,_,rfl,W2,h2⟩
 refine⟨rq,λD9 K6=>q D9 _ (W.sm.free K6) (W.sm.trans (af K6 _)) ae⟩
end
end hU
namespace L2
open PySem PySem.Spec PyProof.Rows
section
variable {prog:Program}{w:World}{A:Around}{E:Value->Shared->Prop}{s:Shared}
def yH (a b c:Value):argsOk "min" ⟨[a],[("key",b),("default",c)]⟩:=by unfold argsOk;kernel_rfl
def tX {l:Addr}{kf dv:Value}{Q:Value->Shared->Prop}(hh:A.handled=none)(hl:s.heap.IsList l #[])(h:∀h' tk,(∀b o,s.heap.get? b=some o->h'.get? b=some o)->Q dv { s with heap:=h',toks:=tk }) :
  wpAny (model prog w) A (call (.builtin "min") [.ref l] [("key",kf),("default",dv)]) Q E s:=by
 have Gu:(toString "min" ++ toString ".loop":String) = "min.loop" := by decide
 refine wpAny_call (codeAny_call_builtin F.plain_min F.entry_min ?_);have core:wpAny (model prog w) A.in1 (Builtin.«min» ⟨[.ref l],[("key",kf),("default",dv)]⟩) (λfin s'=>match fin with
   | .done f=>(match (Except.ok f:Result) with | .ok (.ret v)=>Q v s' | .ok _=>False | .error e=>E e s')
   | .again c'=>c'.quiet=true/\codeAny (model prog w) A c' (λr s'=>match r with | .ok (.ret v)=>Q v s' | .ok _=>False | .error e=>E e s') s') E s:=by
  show wpAny _ A.in1 (Builtin.Builtins.bindParams "min" ["key","default"] 0 ⟨[],[("key",kf),("default",dv)]⟩ >>= _) _ _ s;refine aE (wpAny_of_eq (show Builtin.Builtins.bindParams "min" ["key","default"] 0 ⟨[],[("key",kf),("default",dv)]⟩=pure [some kf,some dv] from rfl) ?_);refine aE (aP ?_);refine aE (oQ hl ?_);refine aE (jq ?_);rw [Gu];obtain⟨ol,h1,h2⟩:=id hl;generalize hG:s.heap.push { cls:=.type "list_iterator",data:=.fields #[.ref l,.int 0 0] }=G;have k1:∀b o,s.heap.get? b=some o->G.get? b=some o:=λb o e=>by rw [<-hG];exact cu _ e
  have hi:G.get? s.heap.objs.size=some { cls:=.type "list_iterator",data:=.fields #[.ref l,.int 0 0] }:=by rw [<-hG];exact dZ _ rfl
  refine aP ⟨oH F.plain_min_loop _,qS F.entry_min_loop ?_⟩;rw [rf F.plain_min_loop _];show wpAny _ A.in1 (seqItems? (.ref G.objs.size) >>= _) _ _ _;refine aE (qP (dZ _ rfl) rfl ?_);show wpAny _ A.in1 (tryCatch (pyNext (.ref s.heap.objs.size)) _ >>= _) _ _ _;refine aE (wpAny_tryCatch (vq (show A.in1.handled=none from hh) ⟨_,cu _ hi,rfl,rfl⟩ ⟨ol,cu _ (k1 _ _ h1),h2⟩ (by simp) λh' eb=>?_));refine aE (wpAny_rule (aP ?_));exact h h' _ λb o e=>eb b o (cv (bN e)) (cu _ (k1 b o e))
 simp only [checkBuiltinCall,F.kind_min];cases Vw:Manifest.signature? "min" with
 | none=>exact aP core
 | some sig =>
  have V7:Bind.checkArgs "min" sig ⟨[.ref l],[("key",kf),("default",dv)]⟩=pure ():=by have:=yH (.ref l) kf dv;simpa only [argsOk,Vw] using this
  simp only [V7];exact aP core
end
def O8 (K:ba)(t:TA)(td:TE):TE:=λσ H Q=>t σ H λvs H1=>td σ H1 λdv H2=>∃a,vs=[.ref a]/\aH K H2 a []/\Q dv H2
def Jh {X:Cx}{p pos lp Ve Gb:Pos}{e e2:Expr}{t:TA}{td:TE}(hc:X.calm=true)(hg:Gl X "min")(hm:X.mg "min"=none)(VT:Gl X "len")(VM:X.mg "len"=none)(ha:PA X [e] t)(hd:PE X e2 td)
  (he:backTo pos (starEach [e] X.env)=(false,eval e X.env)::backTo pos (starEach [] X.env):=by rfl)(hp:(backTo pos (starEach [e] X.env)).any (·.1)=false:=by rfl) :
  PE X (.Call (.Name "min" p) [e] [⟨some "key",.Name "len" lp,Ve⟩,⟨some "default",e2,Gb⟩] pos) (O8 X.K t td):=by
 intro ah s σ H Q I h;refine qL (jV I hg hm boot_min ?_);refine callWith_kw (cQ (ha pos ah s σ H _ I h) λus s1 ⟨vs,H1,I1,r1,q1⟩=>kws_cons (jV I1 VT VM cY (kws_cons (cQ (hd ah s1 σ H1 _ I1 q1) λu2 s2 ⟨dv,H2,I2,r2,a,ev,hs,q⟩=>kws_nil ?_)))) he hp rfl rfl;subst ev;obtain⟨u,rfl,rx⟩:=vals1 r1;cases (show u=Value.ref a from rx);obtain⟨aT,rv,pl,hz⟩:=I2.list hs;cases rv;exact tX (I2.ok.hd hc) pl.isList λh' tk kk=>⟨dv,H2,I2.kept (t':=tk) kk,r2,q⟩
open PySem
def DK {K:ba}{H:Hp}{p D:Addr}{ls:List Addr}{σ:St}{x:Str}{Qp:Hp->Prop}(hp:H p=some (.lst (ls.map V.ref)))(hl:∀l∈ls,H l=some (.lst []))(hD:H D=none)(q:∀H2,aA H H2->H2 D=some (.lst [])->Qp H2) :
  ∃W:Nat->Nat->List V->St->Hp->Prop,(∃m,W 0 m [] (eU [x] [] σ) (upd H D (.lst []))) /\
 ∀i m ys σ' H,W i m ys σ' H->((ke K p).stop i H/\Qp H)\/((ke K p).go i H/\∃m',m' < m/\∀x H',(ke K p).mP i H x H'->dN 0 x σ' H' λσ2 H2=>gS 0 σ2 H2 λx H'=>∃k,HG K x H' k/\(λb H3 =>
  if b=true then gS 0 σ2 H3 λy H4=>H4 D=some (.lst ys)/\ys.length < sizeLine/\W (i+1) m' (ys++[y]) σ2 (upd H4 D (.lst (ys++[y]))) else W (i+1) m' ys σ2 H3) k H'):=by
 refine cM (tif:=λσ H Q=>gS 0 σ H λx H'=>∃k,HG K x H' k/\Q k H') (xs:=ls.map V.ref) (λi ys σ2 H5=>ys=[]/\(∃y0,σ2=[y0])/\aA H H5/\H5 D=some (.lst [])) ⟨rfl,⟨none,rfl⟩,af hD _,ae⟩ (λi ys σ2 H5 _ h=>aH.of (h.2.2.1 _ _ hp)) (λi x ys σ2 H5 ex h=>?_) (λys σ2 H5 h=>?_)
 .obtain⟨rfl,⟨y0,rfl⟩,s5,e5⟩:=h;rw [bz] at ex;obtain⟨l,el,rfl⟩:=cC.mp ex;refine goN ?_;refine⟨_,rfl,false,.inl ⟨[],aH.of (s5 _ _ (hl l (b9 el))),rfl⟩,?_⟩;refine cT ?_;exact⟨rfl,⟨_,rfl⟩,s5,e5⟩
 obtain⟨rfl,_,s5,e5⟩:=h;exact q H5 s5 e5
end L2
namespace hU
open PySem L2 M11
section
def HN (aa:List ar)(rk:Str->Nat):Prop:=∀bH,w6 aa bH->yN aa aa.length bH->∀n k j,OT aa (hd aa) (λz=>decide (z∈bH.map (·.1))) n k j->∀ru z,aa[k]?=some ru->ru.2[j]?=some z->rk z < rk n
def EJ (K:ba):Sp:=λvs H Q _=>∃(R:Addr)(rs:List Addr)(aa:List ar)(rk:Str->Nat),vs=[.ref R]/\aH K H R (rs.map V.ref)/\bK K H rs aa/\aa.length<=1000/\(∀ru∈aa,ru.2.length<=8)/\HN aa rk /\
 ∀(D:Addr)(H':Hp),H D=none->aA H H'->H' D=some (.lst [])->Q (.ref D) H'
def zC:aK ["rules","steps","loops"] ["rules"] (av EY):=iM rfl rfl rfl rfl (by decide +kernel)
def Js (F:iB K "find_loop" "find_loop" EY f fd)(T:Txt mg)(GS:aC P w K mg base 2 "steps_with_like_rows" ["rules"] (Bh K))(GW:aC P w K mg base 1 "way_back" ["rules","steps","name"] (Kl K)):bR P w K mg base gk 3 f fd ["rules"] (EJ K):=by
 refine F.ok zC (λvs H Q E h=>?_) (λeX A outer s H vs Q E hr h=>?_)
 .obtain⟨R,rs,aa,rk,rfl,_⟩:=h;rfl
 obtain⟨R,rs,aa,rk,rfl,hR,cy,bE,h8,hnl,q⟩:=h;refine⟨_,ai (az (i:=1) zC.nd rfl (Or.inr rfl) (bp GS hr rfl (ab (pv 0) ag)))
  (ai (i9 (iy:=2) ["name"] [(0,"rules"),(1,"steps")] zC.nd rfl rfl rfl (BD (pv 1)) (br rfl rfl) (by decide +kernel) rfl (by decide +kernel)
   (λ_ _ _ _ _=>aq (i:=0) (show (["name","rules","steps"]:List Str).Nodup by decide +kernel) rfl (bC rfl)) (λ_ _ _ _ _=>b8)
   (λ_ _ _ _ _=>bp (GW.mono (by decide:1<=2)) hr rfl (ab (pv 1) (ab (pv 2) (ab (pv 0) ag)))))
  (ak (aN (Jh rfl rfl T.min rfl T.len (ab (bD ["loop"] [] rfl (a8 (pv 2)) (br rfl rfl) (by decide +kernel) rfl (by decide +kernel)
   (λ_ _ _ _ _=>aq (i:=0) (show (["loop"]:List Str).Nodup by decide +kernel) rfl (bC rfl)) (λ_ _ _ _ _=>ip (Cz K (pv 0) (λ_=>rfl))) (λ_ _ _ _ _=>pv 0)) ag) (a_ ag))))),?_⟩
 nofun
 refine⟨_,rfl,R,rs,aa,rfl,hR,cy,bE,h8,λd ps st bH H1 fd1 s1 e1 S1 m1 Oz emp Dw hits=>?_⟩;have lps:ps.length<=1000:=by
  have h1:=congrArg List.length m1;have h2:=iO (aa.map (·.1)) [];simp only [jo,au] at h2;rw [au] at h1;have h3:(hd aa).length=(wQ [] (aa.map (·.1))).length:=rfl;omega
 have V2:Down aa (ps.map (·.1)) st rk:=λn hn e he=>by
  rw [m1] at hn ⊢;have hit:=(hits n e.1 e.2 hn).mp he;obtain⟨ru,z,er,_,ez,hz,_⟩:=id hit;exact⟨ru,z,er,ez,hz,hnl bH emp Dw n e.1 e.2 hit ru z er ez⟩
 refine⟨_,rfl,d,_,rfl,e1,λo D hD=>?_⟩;have UK:∀p∈ps,p.2≠d:=λp hp z=>by
  obtain⟨ts,a,_⟩:=S1.lst p hp;rw [z,e1] at a;cases a
 have s2:aA H (upd H1 d (.kn o (.dK (ps.map jJ)))):=λb u hb=>by
  rw [aj (λz=>by rw [z,fd1] at hb;cases hb)];exact s1 b u hb
 have S2:Ei K ps st (upd H1 d (.kn o (.dK (ps.map jJ)))) d:=⟨.inr ⟨o,ae⟩,S1.n1,S1.n2,λp hp=>by
  obtain⟨ts,a,b⟩:=S1.lst p hp;exact⟨ts,by rw [aj (UK p hp)];exact a,Paired.e_ b λ_ _ z=>iw e1 z⟩⟩
 have e2:upd H1 d (.kn o (.dK (ps.map jJ))) d=some (.kn o (.dK (ps.map jJ))):=ae;generalize upd H1 d (.kn o (.dK (ps.map jJ)))=H2 at hD s2 S2 e2 ⊢;refine tq (λi ys σ2 H3=>∃ls:List Addr,ys=ls.map V.ref/\ls.length=i/\(∀l∈ls,H3 l=some (.lst [])/\l≠D)/\(∃y0,σ2=[y0,aM R,aM d])/\aA H2 H3/\H3 D=some (.lst ys))
  ⟨[],rfl,rfl,by simp,⟨none,rfl⟩,af hD _,ae⟩ (λi ys σ2 H3 _ h=>?_) (λi kv ys σ2 H3 ex h=>?_) (λys σ2 H3 h=>?_)
 .obtain⟨_,_,_,_,_,sm,_⟩:=h;exact sm _ _ e2
 .obtain⟨ls,rfl,Zb,hl,⟨y0,rfl⟩,sm,ji⟩:=h;rw [bz] at ex;obtain⟨p,ep,rfl⟩:=cC.mp ex;have hp:=b9 ep;have li:=(bu.mp ep).1;refine goN (yl ?_);have s3:=s2.trans sm;refine⟨_,rfl,_,rfl,_,rfl,R,d,rs,aa,ps,st,p.1,rk,rfl,s3.seq hR,cy.same s3,bE,S2.same sm,lps,j8 hp,V2,λD4 H4 f4 s4 e4=>?_⟩;have Ed:=s4 _ _ ji;have YB:D4≠D:=λz=>by rw [z,ji] at f4;cases f4
  refine⟨Ed,bM (by rw [au];omega),ls++[D4],by rw [bG];rfl,by rw [a9,Zb];rfl,λl VP=>?_,⟨_,rfl⟩,λb u hb=>?_,ae⟩
  .rcases bQ.mp VP with h | h
   .obtain⟨a1,a2⟩:=hl l h;exact⟨by rw [aj a2];exact s4 _ _ a1,a2⟩
   rw [bF.mp h];exact⟨by rw [aj YB];exact e4,YB⟩
  rw [aj (λz=>by rw [z,hD] at hb;cases hb)];exact s4 _ _ (sm b u hb)
 obtain⟨ls,rfl,Zb,hl,_,sm,ji⟩:=h;have s3:=s2.trans sm;refine⟨_,rfl,D,rfl,⟨_,aH.of ji⟩,λD5 Ov=>?_⟩;refine DK ji (λl VP=>(hl l VP).1) Ov λH5 s5 e5=>?_;refine⟨rq,λD6 Wg=>⟨D5,rfl,aH.of (af Wg _ _ _ e5),?_⟩⟩;exact q D6 _ ((s3.trans s5).free Wg) ((s3.trans s5).trans (af Wg _)) ae
end
end hU
namespace L2
open PySem
def A4 {K:ba}{T:Addr}{pos:Pos}{qu:Str}{H H':Hp}{a:Addr}{xs:List V}(s:cW T H H')(t:Tab T pos qu H)(h:aS K H a xs):aS K H' a xs:=by
 obtain⟨ps,b,_⟩:=t;rcases h with (h | ⟨u,h⟩) | h
 .exact .inl (.inl (s _ _ (λz=>by rw [z,b] at h;cases h) h))
 .exact .inl (.inr ⟨u,s _ _ (λz=>by rw [z,b] at h;cases h) h⟩)
 exact .inr h
def Bt {K:ba}{T:Addr}{pos:Pos}{qu:Str}{H H':Hp}{a:Addr}{xs:List V}(s:cW T H H')(t:Tab T pos qu H)(h:aH K H a xs):aH K H' a xs:=by
 obtain⟨ps,b,_⟩:=t;rcases h with (h | ⟨u,h⟩) | h
 .exact .inl (.inl (s _ _ (λz=>by rw [z,b] at h;cases h) h))
 .exact .inl (.inr ⟨u,s _ _ (λz=>by rw [z,b] at h;cases h) h⟩)
 exact .inr h
def A5 {T T':Addr}{pos pos':Pos}{qu Ia:Str}{H H':Hp}(s:cW T H H')(t:Tab T pos qu H)(h:Tab T' pos' Ia H)(n:T'≠T):Tab T' pos' Ia H':=by
 obtain⟨ps,b,_⟩:=t;obtain⟨Bz,a,o,c⟩:=h;refine⟨Bz,s _ _ n a,o,c.imp id ?_⟩;rintro⟨c',e,g⟩;exact⟨c',e,s _ _ (λz=>by rw [z,b] at g;cases g) g⟩
def sY {K:ba}{H:Hp}{p D:Addr}{zs:List Str}{σ:St}{js:List (Nat×Str)}{cs:List (Option V)}{tif:TT}{te:TE}{Qp:Hp->Prop}(hσ:eU ["name"] js σ=none::cs)(hp:aH K H p (zs.map V.str))(hD:H D=none)
  (ht:∀z∈zs,∀H2 Q,aA H H2->Q false H2->tif (some (.str z)::cs) H2 Q)(q:∀H2,aA H H2->H2 D=some (.lst [])->Qp H2) :
  ∃W:Nat->Nat->List V->St->Hp->Prop,(∃m,W 0 m [] (eU ["name"] js σ) (upd H D (.lst []))) /\
 ∀i m ys σ' H,W i m ys σ' H->((ke K p).stop i H/\Qp H)\/((ke K p).go i H/\∃m',m' < m/\∀x H',(ke K p).mP i H x H'->dN 0 x σ' H' λσ2 H2=>tif σ2 H2 λb H3 =>
  if b=true then te σ2 H3 λy H4=>H4 D=some (.lst ys)/\ys.length < sizeLine/\W (i+1) m' (ys++[y]) σ2 (upd H4 D (.lst (ys++[y]))) else W (i+1) m' ys σ2 H3):=by
 refine cM (xs:=zs.map V.str) (λi ys σ2 H5=>ys=[]/\(∃y0,σ2=y0::cs)/\aA H H5/\H5 D=some (.lst [])) ⟨rfl,⟨none,hσ⟩,af hD _,ae⟩ (λi ys σ2 H5 _ h=>h.2.2.1.seq hp) (λi x ys σ2 H5 ex h=>?_) (λys σ2 H5 h=>?_)
 .obtain⟨rfl,⟨y0,rfl⟩,s5,e5⟩:=h;rw [bz] at ex;obtain⟨z,ez,rfl⟩:=cC.mp ex;refine goN ?_;refine ht z (b9 ez) H5 _ s5 ?_;refine cT ?_;exact⟨rfl,⟨_,rfl⟩,s5,e5⟩
 obtain⟨rfl,_,s5,e5⟩:=h;exact q H5 s5 e5
end L2
namespace hU
open PySem L2 M11
section
structure Good (aa:List ar)(rk:Str->Nat)(b:Str->Int):Prop where
 least:∀g,fj M11.bl aa (yY aa) g->jc M11.bl aa g->∀h∈hd aa,∃n,g h=some n/\n<=60
 met:∀jI ms,aa[0]?=some jI->jI.1∈ms->HP aa aa.length ms->∀h∈hd aa,h∈ms
 loop:HN aa rk
 Tc:yP aa b
 most:∀h∈hd aa,b h<=60
def l_ (T1 T2:Addr)(H H':Hp):Prop:=∀b o,b≠T1->b≠T2->H b=some o->H' b=some o
def rF (K:ba)(T1 T2:Addr):Sp:=λvs H Q _=>∃(R S:Addr)(rs ss:List Addr)(aa str:List ar)(rk:Str->Nat)(b:Str->Int),vs=[.ref R,.ref S]/\aH K H R (rs.map V.ref)/\bK K H rs aa/\aa.length<=1000/\(∀ru∈aa,ru.2.length<=8)/\aa≠[] /\
 aH K H S (ss.map V.ref)/\bK K H ss str/\str.length<=1000/\(∀ru∈str,ru.2.length<=8)/\(str.flatMap (·.2)).Nodup/\Good aa rk b/\Tab T1 rX.2.2.2 yT H/\Tab T2 Ak.2.2.2 KL H/\T1≠T2 /\
 ∀H',l_ T1 T2 H H'->Tab T1 rX.2.2.2 yT H'->Tab T2 Ak.2.2.2 KL H'->Q .fg H'
def iz:aK ["rules","strengths","least","endless","met","unmet","steps","greatest","vast"] ["rules","strengths"] (av vU):=iM rfl rfl rfl rfl (by decide +kernel)
def CH {T1 T2:Addr}{tm:Tok}(F:iB K "refuse_faults" "refuse_faults" vU f fd)(T:Txt mg)(hM:mg "MOST_RULES"=some (.int 60 tm))(GT:aC P w K mg base 1 "refuse_twice" ["strengths"] (Bg K))(GL:aC P w K mg base 3 "least_sizes" ["rules"] (qx K T1))
  (GH:aC P w K mg base 1 "heads_of" ["rules"] (jP K))(GM:aC P w K mg base 1 "names_met" ["rules"] (Kn K))(GF:aC P w K mg base 3 "find_loop" ["rules"] (EJ K))(GG:aC P w K mg base 3 "greatest_empty_sizes" ["rules"] (vM K T2)) :
  bR P w K mg base gk 4 f fd ["rules","strengths"] (rF K T1 T2):=by
 refine F.ok iz (λvs H Q E h=>?_) (λeX A outer s H vs Q E hr h=>?_)
 .obtain⟨R,S,rs,ss,aa,str,rk,b,rfl,_⟩:=h;rfl
 obtain⟨R,S,rs,ss,aa,str,rk,b,rfl,hR,cy,bE,h8,qF,hS,Ss,Vs,Vz,Vy,gd,JN,SI,nT,q⟩:=h;have hu:=gh hr;refine⟨_,ai (bI (iE (iV (pv 0) (λ_=>rfl))) (ak iW) aQ)
  (ai (cI (bp (GT.mono (by decide:1<=3)) hr rfl (ab (pv 1) ag)))
  (ai (az (i:=2) iz.nd rfl (Or.inr rfl) (bp GL hr rfl (ab (pv 0) ag)))
  (ai (i9 (iy:=3) ["name"] [(2,"least")] iz.nd rfl rfl rfl (a8 (bp (GH.mono (by decide:1<=3)) hr rfl (ab (pv 0) ag))) (br rfl rfl) (by decide +kernel) rfl (by decide +kernel)
   (λ_ _ _ _ _=>aq (i:=0) (show (["name","least"]:List Str).Nodup by decide +kernel) rfl (bC rfl)) (λ_ _ _ _ _=>ip (eJ (eK hu (pv 0) (pv 1)))) (λ_ _ _ _ _=>pv 0))
  (ai (bI (iV (pv 3) (λ_=>rfl)) (ak iW) aQ)
  (ai (az (i:=4) iz.nd rfl (Or.inr rfl) (bp (GM.mono (by decide:1<=3)) hr rfl (ab (pv 0) ag)))
  (ai (i9 (iy:=5) ["name"] [(4,"met")] iz.nd rfl rfl rfl (a8 (bp (GH.mono (by decide:1<=3)) hr rfl (ab (pv 0) ag))) (br rfl rfl) (by decide +kernel) rfl (by decide +kernel)
   (λ_ _ _ _ _=>aq (i:=0) (show (["name","met"]:List Str).Nodup by decide +kernel) rfl (bC rfl)) (λ_ _ _ _ _=>ip (eJ (eK hu (pv 0) (pv 1)))) (λ_ _ _ _ _=>pv 0))
  (ai (bI (iV (pv 5) (λ_=>rfl)) (ak iW) aQ)
  (ai (az (i:=6) iz.nd rfl (bC rfl) (bp GF hr rfl (ab (pv 0) ag)))
  (ai (bI (iV (pv 6) (λ_=>rfl)) (ak iW) aQ)
  (ai (az (i:=7) iz.nd rfl (Or.inr rfl) (bp GG hr rfl (ab (pv 0) ag)))
  (ai (i9 (iy:=8) ["name"] [(2,"least"),(7,"greatest")] iz.nd rfl rfl rfl (a8 (bp (GH.mono (by decide:1<=3)) hr rfl (ab (pv 0) ag))) (br rfl rfl) (by decide +kernel) rfl (by decide +kernel)
   (λ_ _ _ _ _=>aq (i:=0) (show (["name","least","greatest"]:List Str).Nodup by decide +kernel) rfl (bC rfl)) (λ_ _ _ _ _=>ip (aX xU (aD (DN rfl) rfl T.max PyProof.Rows.boot_max (ab (fq hu (pv 1) (pv 0) (λ_ _=>rfl)) (ab (xQ hu (pv 2) (pv 0) ao ⟨rfl,rfl,rfl,rfl⟩) ag))) (Jj (v:=.int 60) rfl hM ⟨tm,rfl⟩) (bJ _))) (λ_ _ _ _ _=>pv 0))
  (ak (bI (iV (pv 8) (λ_=>rfl)) (ak iW) aQ))))))))))))),?_⟩
 nofun
 have ll:=aU cy;obtain⟨jI,Ol⟩:∃jI,aa[0]?=some jI:=by
  cases aa with
  | nil=>exact absurd rfl qF
  | cons a r=>exact⟨a,rfl⟩
 have eR:(rs.map V.ref).isEmpty=false:=by
  have l0:=(bu.mp Ol).1;cases rs with
  | nil=>simp at ll;omega
  | cons a r=>rfl
 refine⟨_,rfl,true,.inl ⟨_,hR,by rw [eR];rfl⟩,?_⟩;refine cT ?_;refine⟨_,rfl,S,ss,str,rfl,hS,Ss,Vs,Vz,Vy,λH1 s1=>?_⟩;have RX:=JN.same s1;have t21:=SI.same s1;refine⟨_,rfl,R,rs,aa,rfl,s1.seq hR,cy.same s1,bE,h8,RX,λdl kl ksl gl H2 fl s2 t12 el kkl vl stl sel _=>?_⟩;have Il:=Bt s2 RX (s1.seq hR);have C8:=(cy.same s1).keep λ_ _ z=>A4 s2 RX z;have t22:=A5 s2 RX t21 nT.symm;have hl:=gd.least gl stl sel;have S02:l_ T1 T2 H H2:=λb o n1 _ hb=>s2 b o n1 (s1 b o hb);refine⟨_,rfl,R,rs,aa,rfl,Il,C8,bE,λD3 H3 f3 s3 e3=>⟨D3,rfl,⟨_,aH.of e3⟩,λD4 hD4=>sY rfl (aH.of e3) hD4 (λz hz H' Q' s' hQ=>?_) λH4 s4 e4=>?_⟩⟩
 .obtain⟨n,en,_⟩:=hl z hz;have hg:cq H' dl (.str z) (some (.int n)):=by
   have:=cq.k (k:=Sum.inr z) (s' _ _ (s3 _ _ el));rw [vl,en] at this;exact this
  exact⟨_,rfl,_,rfl,dl,_,rfl,hg,_,rfl,hQ⟩
 refine⟨_,rfl,false,.inl ⟨[],aH.of e4,rfl⟩,?_⟩;refine cT ?_;have Ja:=s3.trans s4;refine⟨_,rfl,R,rs,aa,jI,rfl,Ja.seq Il,C8.same Ja,Ol,bE,h8,λdm km ms H5 f5 s5 em kkm Cr _ mc5=>?_⟩;have Uo:=Ja.trans s5;refine⟨_,rfl,R,rs,aa,rfl,Uo.seq Il,C8.same Uo,bE,λD6 H6 f6 s6 e6=>⟨D6,rfl,⟨_,aH.of e6⟩,λD7 Wf=>sY rfl (aH.of e6) Wf (λz hz H' Q' s' hQ=>?_) λH7 s7 e7=>?_⟩⟩
 .have hm:=gd.met jI ms Ol Cr mc5 z hz;have hv:(bw km (Sum.inr z)).isSome=true:=by rw [d_,kkm];exact cN.mpr hm
  refine⟨_,rfl,_,rfl,dm,_,rfl,cq.k (k:=Sum.inr z) (s' _ _ (s6 _ _ em)),_,rfl,?_⟩;rw [hv];exact hQ
 refine⟨_,rfl,false,.inl ⟨[],aH.of e7,rfl⟩,?_⟩;refine cT ?_;have L0:=(Uo.trans s6).trans s7;refine⟨_,rfl,R,rs,aa,rk,rfl,L0.seq Il,C8.same L0,bE,h8,gd.loop,λD8 H8 f8 s8 e8=>?_⟩;refine⟨_,rfl,false,.inl ⟨[],aH.of e8,rfl⟩,?_⟩;refine cT ?_;have Kt:=L0.trans s8;have t18:=t12.same Kt;have Pj:=t22.same Kt;refine⟨_,rfl,R,rs,aa,b,rfl,Kt.seq Il,C8.same Kt,bE,h8,gd.Tc,Pj,λdg kg ksg gg H9 f9 s9 t29 eg kkg vg jg _ _=>?_⟩;have hR9:=Bt s9 Pj (Kt.seq Il);have VA:=(C8.same Kt).keep λ_ _ z=>A4 s9 Pj z;have T_:=A5 s9 Pj t18 nT;have ZL:=Kt _ _ el;have el9:=s9 _ _ (λz=>by obtain⟨ps,a,_⟩:=Pj;rw [<-z,ZL] at a;cases a) ZL;refine⟨_,rfl,R,rs,aa,rfl,hR9,VA,bE,λXM A1 f10 wb Ef=>⟨XM,rfl,⟨_,aH.of Ef⟩,λD11 Wh=>sY rfl (aH.of Ef) Wh (λz hz H' Q' s' hQ=>?_) λDX Jb Ir=>?_⟩⟩
 .obtain⟨n,en,aam⟩:=hl z hz;have JL:cq H' dl (.str z) (some (.int n)):=by
   have:=cq.k (k:=Sum.inr z) (s' _ _ (wb _ _ el9));rw [vl,en] at this;exact this
  have ZO:=s' _ _ (wb _ _ eg);obtain⟨v,C5,hv2⟩:∃v:Int,((gg z).map V.int).getD (.int 0)=.int v/\v<=60:=by
   cases e:gg z with
   | none=>exact⟨0,rfl,by decide⟩
   | some v=>exact⟨v,rfl,Int.le_trans (jg z v e).2.1 (gd.most z hz)⟩
  have VT:cq H' dg (.str z) ((gg z).map V.int):=by
   have:=cq.k (k:=Sum.inr z) ZO;rw [vg] at this;exact this
  refine⟨_,rfl,_,rfl,dl,_,rfl,JL,_,rfl,dg,rfl,.inl ⟨_,.inl ZO⟩,_,rfl,_,VT,?_⟩;rw [C5];refine⟨n,v,rfl,_,_,rfl,rfl,_,rfl,?_⟩;rw [b0 (by split <;> omega)]
  exact hQ
 refine⟨_,rfl,false,.inl ⟨[],aH.of Ir,rfl⟩,?_⟩;refine cT ?_;have LZ:=wb.trans Jb;exact q DX (λc o n1 n2 hc=>LZ c o (s9 c o n2 (Kt c o (S02 c o n1 n2 hc)))) (T_.same LZ) (t29.same LZ)
end
end hU
namespace M11
open PySem L2
abbrev Be:=Str×Str×Nat×Nat
def gT (cS:List Be):List (Str×Str):=cS.map λb=>(b.1,b.2.1)
def om (cS:List Be)(n:Str):List Str:=(cS.filter λb=>decide (b.1=n)).map (·.2.1)
def qi (names:List Str)(cS:List Be)(z:Str):List Str:=if z∈names then om cS z else [z]
inductive xl (aa:List ar) (names:List Str)(b:Str->Bool):List Be->Prop
 | nil:xl aa names b []
 | snoc {cS:List Be}{k j:Nat}{ru:ar}{z w:Str}:xl aa names b cS->aa[k]?=some ru->ru.2[j]?=some z->j < Dn b ru.2->w∈qi names cS z->(ru.1,w)∉gT cS->xl aa names b (cS++[(ru.1,w,k,j)])
def AB {cS:List Be}{n w:Str}:w∈om cS n↔(n,w)∈gT cS:=by
 unfold om gT;rw [cX,cX];constructor
 .rintro⟨b,hb,rfl⟩;obtain⟨h1,h2⟩:=lV.mp hb;exact⟨b,h1,by rw [cZ h2]⟩
 rintro⟨b,hb,e⟩;cases e;exact⟨b,lV.mpr ⟨hb,bh rfl⟩,rfl⟩
def BR (cS:List Be)(b:Be)(n:Str):om (cS++[b]) n=om cS n++(if b.1=n then [b.2.1] else []):=by
 unfold om;rw [oX,bG];by_cases c:b.1=n
 .rw [ax c];simp [c]
 rw [ay c];simp [c]
end M11
namespace hU
open PySem L2 M11
def J0:Stmt->List Stmt
 | .ClassDef _ _ _ b _ _ _ _ _ _ _=>b
 | _=>[]
abbrev P9 (st:Stmt) (i:Nat):Stmt:=(J0 st).getD i (.Pass ⟨0,0,0,0⟩)
abbrev zQ:Stmt:=P9 zP 0
abbrev E4:Stmt:=P9 zP 1
abbrev zJ:Stmt:=P9 zP 2
abbrev vY:Stmt:=P9 EZ 0
section
structure BC (K:ba)(C:Addr):Prop where
 cls:DZ K C
 a1:eV K C "empties"
 a2:eV K C "empty"
 a3:eV K C "begins"
 a4:eV K C "firsts"
structure tZ (K:ba)(C:Addr)(H0 H:Hp)(a e d bg:Addr)(kE:List (aR×V))(bH:List (Str×Nat))(ps:List (Str×Addr))(cS:List Be):Prop where
 sm:aA H0 H
 ia:∃dx fs,H a=some (.ins C dx fs)/\fs.lookup ("empty":Str)=some (.ref e)/\fs.lookup ("begins":Str)=some (.ref bg)/\fs.lookup ("firsts":Str)=some (.ref d)/\fs.lookup ("find_begins":Str)=none/\fs.lookup ("words_of_part":Str)=none
 he:H e=some (.dK kE)
 hd:H d=some (.dK (ps.map jJ))
 n1:(ps.map (·.1)).Nodup
 n2:(ps.map (·.2)).Nodup
 dk:∀p∈ps,(∃kvs,H p.2=some (.dK kvs)/\kvs.map (·.1)=(om cS p.1).map Sum.inr)/\H0 p.2=none/\p.2≠e/\p.2≠d
 lb:∃ts,H bg=some (.lst (ts.map V.ref))/\Paired (λt (b:Be)=>aS K H t [.str b.1,.str b.2.1,.int (b.2.2.1:Int),.int (b.2.2.2:Int)]) ts cS
 fb:H0 bg=none
 em:∃e1 ts,(∃dx fs,H a=some (.ins C dx fs)/\fs.lookup ("empties":Str)=some (.ref e1))/\H e1=some (.lst (ts.map V.ref))/\pK K H ts bH/\e1≠bg
def tZ.same {C:Addr}{H0 H H':Hp}{a e d bg:Addr}{kE:List (aR×V)}{bH:List (Str×Nat)}{ps:List (Str×Addr)}{cS:List Be}(h:tZ K C H0 H a e d bg kE bH ps cS)(s:aA H H'):tZ K C H0 H' a e d bg kE bH ps cS:=by
 refine⟨h.sm.trans s,?_,s _ _ h.he,s _ _ h.hd,h.n1,h.n2,λp hp=>?_,?_,h.fb,?_⟩
 .obtain⟨dx,fs,q,r⟩:=h.ia;exact⟨dx,fs,s _ _ q,r⟩
 .obtain⟨⟨kvs,q,r⟩,t⟩:=h.dk p hp;exact⟨⟨kvs,s _ _ q,r⟩,t⟩
 .obtain⟨ts,q,r⟩:=h.lb;exact⟨ts,s _ _ q,Paired.e_ r λ_ _ z=>s.tup z⟩
 obtain⟨e1,ts,⟨dx,fs,q1,q2⟩,q3,q4,q5⟩:=h.em;exact⟨e1,ts,⟨dx,fs,s _ _ q1,q2⟩,s _ _ q3,q4.keep λ_ _ z=>s.tup z,q5⟩
def Bj (K:ba)(C:Addr):Sp:=λvs H Q _=>∃(H0:Hp)(a e d bg:Addr)(kE:List (aR×V))(bH:List (Str×Nat))(ps:List (Str×Addr))(cS:List Be)(z:Str),vs=[.ref a,.str z]/\tZ K C H0 H a e d bg kE bH ps cS /\
 ∀(D:Addr)(H':Hp),H D=none->aA H H'->H' D=some (.lst ((qi (ps.map (·.1)) cS z).map V.str))->Q (.ref D) H'
def IT:aK ["self","part"] ["self","part"] (av zJ):=iM rfl rfl rfl rfl (by decide +kernel)
def FI {C:Addr}(F:iB K "words_of_part" "BeginTable.words_of_part" zJ f fd)(T:Txt mg)(B:BC K C):bR P w K mg base gk 1 f fd ["self","part"] (Bj K C):=by
 refine F.ok IT (λvs H Q E h=>?_) (λeX A outer s H vs Q E hr h=>?_)
 .obtain⟨H0,a,e,d,bg,kE,bH,ps,cS,z,rfl,_⟩:=h;rfl
 obtain⟨H0,a,e,d,bg,kE,bH,ps,cS,z,rfl,S,q⟩:=h;have hu:=gh hr;obtain⟨dx,fs,ea,f1,f2,f3,f4,f5⟩:=S.ia;refine⟨_,ak (aN (rT (eJ (jf hu (pv 1) (fP (pv 0) rfl))) (bc (mM rfl) rfl T.lst gH (ab (fq hu (fP (pv 0) rfl) (pv 1) (λ_ _=>rfl)) ag)) (a_ (ab (pv 1) ag)))),?_⟩;dsimp only [yw];have mem:(bw (ps.map jJ) (Sum.inr z)).isSome=true↔z∈ps.map (·.1):=by rw [d_,nV];exact cN
 refine⟨_,rfl,_,rfl,a,C,dx,fs,_,rfl,ea,B.cls,B.a4,f3,d,_,rfl,cq.k (k:=Sum.inr z) S.hd,_,rfl,?_⟩;refine cf (λc=>?_) (λc=>?_)
 .have hz:=mem.mp c;obtain⟨p,hp,ep⟩:=cX.mp hz;obtain⟨⟨kvs,hk,kk⟩,_⟩:=S.dk p hp;have vn:=ie ps S.n1 p hp;rw [ep] at vn;have hg:cq H d (.str z) (some (.ref p.2)):=by
   have:=cq.k (k:=Sum.inr z) S.hd;rw [vn] at this;exact this
  refine⟨_,rfl,a,C,dx,fs,_,rfl,ea,B.cls,B.a4,f3,_,rfl,d,_,rfl,hg,p.2,kvs,rfl,hk,λD hD=>?_⟩;refine q D _ hD (af hD _) ?_;rw [ae,keys_str kk,ep];unfold qi;rw [ax hz]
 refine⟨_,rfl,qg,λD hD=>?_⟩;refine q D _ hD (af hD _) ?_;rw [ae];unfold qi;rw [ay (λh=>c (mem.mpr h))];rfl
def tZ.more {C:Addr}{H0 H H2:Hp}{a e d bg t:Addr}{kE kvs:List (aR×V)}{bH:List (Str×Nat)}{ps:List (Str×Addr)}{cS:List Be}{p:Str×Addr}{wd:Str}{k j:Nat}{ts:List Addr}(h:tZ K C H0 H a e d bg kE bH ps cS)(hp:p∈ps)(hk:H p.2=some (.dK kvs))(kk:kvs.map (·.1)=(om cS p.1).map Sum.inr)
  (hn:(p.1,wd)∉gT cS)(hb:H bg=some (.lst (ts.map V.ref)))(Oq:Paired (λt (b:Be)=>aS K H t [.str b.1,.str b.2.1,.int (b.2.2.1:Int),.int (b.2.2.2:Int)]) ts cS)
  (s:aA (upd H p.2 (.dK (bT kvs (Sum.inr wd) (.bl true)))) H2)(ht:aS K H2 t [.str p.1,.str wd,.int (k:Int),.int (j:Int)]) :
  tZ K C H0 (upd H2 bg (.lst (ts.map V.ref++[.ref t]))) a e d bg kE bH ps (cS++[(p.1,wd,k,j)]):=by
 have Sk:bg≠p.2:=λz=>by rw [z,hk] at hb;cases hb
 have GO:H2 bg=some (.lst (ts.map V.ref)):=s _ _ (by rw [aj Sk];exact hb);obtain⟨_,fp,Yt,Yu⟩:=h.dk p hp;have up:∀c o,c≠bg->c≠p.2->H c=some o->upd H2 bg (.lst (ts.map V.ref++[.ref t])) c=some o:=λc o n1 n2 q=>by
  rw [aj n1];exact s _ _ (by rw [aj n2];exact q)
 refine⟨λc o hc=>up c o (λz=>by rw [z,h.fb] at hc;cases hc) (λz=>by rw [z,fp] at hc;cases hc) (h.sm c o hc),?_,up _ _ (λz=>by have:=h.he;rw [z,hb] at this;cases this) Yt.symm h.he,up _ _ (λz=>by have:=h.hd;rw [z,hb] at this;cases this) Yu.symm h.hd,h.n1,h.n2,λp' nZ=>?_,⟨ts++[t],by rw [ae,bG];rfl,?_⟩,h.fb,?_⟩
 .obtain⟨dx,fs,q,r⟩:=h.ia;exact⟨dx,fs,up _ _ (λz=>by rw [z,hb] at q;cases q) (λz=>by rw [z,hk] at q;cases q) q,r⟩
 .obtain⟨⟨mH,q,r⟩,t'⟩:=h.dk p' nZ;refine⟨?_,t'⟩;by_cases z:p'=p
  .rw [z];refine⟨bT kvs (Sum.inr wd) (.bl true),by rw [aj Sk.symm];exact s _ _ ae,?_⟩;rw [iI (by rw [kk];exact λq=>hn (AB.mp (cN.mp q))),kk,BR,ax rfl,bG];rfl
  have n1:p'.1≠p.1:=λq'=>z (by
   have w1:=ie ps h.n1 p' nZ;have w2:=ie ps h.n1 p hp;rw [q',w2] at w1;injection w1 with w3;injection w3 with w4;exact Prod.ext q' w4.symm)
  have n2:p'.2≠p.2:=λq'=>by
   obtain⟨i,hi,ei⟩:=qN.mp nZ;obtain⟨j',hj,ej⟩:=qN.mp hp;have JK:i=j':=by
    refine(vb (xs:=ps.map (·.2)) (h₀:=by simpa using hi) (h₁:=by simpa using hj) h.n2).mp ?_;rw [oS,oS,ei,ej];exact q'
   subst JK;exact z (ei.symm.trans ej)
  refine⟨mH,up _ _ (λz=>by rw [z,hb] at q;cases q) n2 q,?_⟩;rw [r,BR,ay (λq'=>n1 q'.symm),iR]
 .exact hZ (Paired.e_ Oq λ_ _ z=>a7 GO (s.tup (iw hk z))) (a7 GO ht)
 obtain⟨e1,te,⟨dx,fs,q1,q2⟩,q3,q4,q5⟩:=h.em;exact⟨e1,te,⟨dx,fs,up _ _ (λz=>by rw [z,hb] at q1;cases q1) (λz=>by rw [z,hk] at q1;cases q1) q1,q2⟩,up _ _ q5 (λz=>by rw [z,hk] at q3;cases q3) q3,q4.keep λ_ _ z=>a7 GO (s.tup (iw hk z)),q5⟩
def Nk (l m:List Be)(n:Str):om (l++m) n=om l n++om m n:=by
 unfold om;rw [oX,bG]
def II {names:List Str}(l m:List Be){z x:Str}(h:x∈qi names l z):x∈qi names (l++m) z:=by
 unfold qi at h ⊢
 split
 .rename_i c
  rw [ax c] at h;rw [Nk];exact h_ _ h
 rename_i c
 rw [ay c] at h;exact h
def Nj (cS:List Be)(n:Str):(om cS n).length<=cS.length:=by
 unfold om;rw [au];exact rp _ _
def NQ {n i:Nat}(h:i < n):(cnt n)[i]?=some (.int (i:Int)):=by
 unfold cnt;rw [bz,List.getElem?_range h];rfl
def B3 (n:Nat):(cnt n).length=n:=by unfold cnt;rw [au,vf]
def EM (K:ba)(C:Addr):Sp:=λvs H Q _=>∃(H0:Hp)(a e d bg r:Addr)(kE:List (aR×V))(bH:List (Str×Nat))(ps:List (Str×Addr))(cS:List Be) (k:Nat)(ru:ar)(aa:List ar),vs=[.ref a,.int (k:Int),.ref r]/\tZ K C H0 H a e d bg kE bH ps cS/\Cc K H0 r ru/\aa[k]?=some ru/\ru.2.length<=8 /\
 ru.1∈ps.map (·.1)/\(∀wU:List Be,xl aa (ps.map (·.1)) (λz=>(bw kE (Sum.inr z)).isSome) wU->wU.length<=900000)/\xl aa (ps.map (·.1)) (λz=>(bw kE (Sum.inr z)).isSome) cS /\
 ∀(wU:List Be)(H':Hp),tZ K C H0 H' a e d bg kE bH ps wU->xl aa (ps.map (·.1)) (λz=>(bw kE (Sum.inr z)).isSome) wU->cS.length<=wU.length->(wU.length=cS.length->wU=cS/\∀j z,j < Dn (λz=>(bw kE (Sum.inr z)).isSome) ru.2->ru.2[j]?=some z->∀wd∈qi (ps.map (·.1)) cS z,(ru.1,wd)∈gT cS)->Q .fg H'
def vR:aK ["self","number","rule","own","place","word"] ["self","number","rule"] (av E4):=iM rfl rfl rfl rfl (by decide +kernel)
def Jv {C fW:Addr}{Zu:FuncData}(F:iB K "find_begins" "BeginTable.find_begins" E4 f fd)(T:Txt mg)(B:BC K C)(GP:aC P w K mg base 1 "first_places" ["parts","empty"] (xy K))(FW:bR P w K mg base gk 1 fW Zu ["self","part"] (Bj K C))(MW:Meth K C "words_of_part" fW)(BW:Binds K Zu ["self","part"] []) :
  bR P w K mg base gk 2 f fd ["self","number","rule"] (EM K C):=by
 refine F.ok vR (λvs H Q E h=>?_) (λeX A outer s H vs Q E hr h=>?_)
 .obtain⟨H0,a,e,d,bg,r,kE,bH,ps,cS,k,ru,aa,rfl,_⟩:=h;rfl
 obtain⟨H0,a,e,d,bg,r,kE,bH,ps,cS,k,ru,aa,rfl,S,⟨p,v1,v2⟩,er,h8,hh,hbd,V6,q⟩:=h;have hu:=gh hr;refine⟨_,ai (az (i:=3) vR.nd rfl (bC rfl) (fq hu (fP (pv 0) rfl) (aL aZ (pv 2) ao (λ_ _=>rfl)) (λ_ _=>rfl)))
  (ak (bL cg rfl (a8 (bp GP hr rfl (ab (aL aZ (pv 2) ao (λ_ _=>rfl)) (ab (fP (pv 0) rfl) ag)))) (aq (i:=4) vR.nd rfl (bC rfl))
   (ak (bL cg rfl (a8 (BE (pv 0) B.cls MW FW hr BW .nil ux (ab (aL aZ (aL aZ (pv 2) ao (λ_ _=>rfl)) (pv 4) (λ_ _=>rfl)) ag))) (aq (i:=5) vR.nd rfl (bC rfl))
    (ak (bI (eJ (eK hu (pv 5) (pv 3)))
     (ai (iJ hu (pv 3) (pv 5) f_ rfl)
     (ak (cI (g9 gF gW gX bU (fP (pv 0) rfl) (ab (bo (ab (aL aZ (pv 2) ao (λ_ _=>rfl)) (ab (pv 5) (ab (pv 1) (ab (pv 4) ag))))) ag))))) aQ)))))),?_⟩
 nofun
 obtain⟨pn,yh,zc⟩:=cX.mp hh;have vn:=ie ps S.n1 pn yh;rw [zc] at vn;obtain⟨dx,fs,ea,f1,f2,f3,f4,f5⟩:=S.ia;have hg:cq H d (.str ru.1) (some (.ref pn.2)):=by
  have:=cq.k (k:=Sum.inr ru.1) S.hd;rw [vn] at this;exact this
 refine⟨_,rfl,a,C,dx,fs,_,rfl,ea,B.cls,B.a4,f3,_,rfl,r,_,_,_,rfl,rfl,S.sm.tup v1,rfl,d,_,rfl,hg,?_⟩;refine⟨_,rfl,r,_,_,_,rfl,rfl,S.sm.tup v1,rfl,_,rfl,a,C,dx,fs,_,rfl,ea,B.cls,B.a2,f1,p,e,ru.2,kE,rfl,S.sm.tup v2,∅,S.he,λD5 H5 f6 s5 e5=>⟨D5,rfl,⟨_,aH.of e5⟩,?_⟩⟩;obtain⟨ts0,hb0,_⟩:=S.lb;have nDb:D5≠bg:=λz=>by rw [z,hb0] at f6;cases f6
 have fle:=GY (λz=>(bw kE (Sum.inr z)).isSome) ru.2;generalize hb:(λz=>(bw kE (Sum.inr z)).isSome)=b at *;generalize hn:Dn b ru.2=n at *;refine cJ (xs:=cnt n) (λi σ H6=>∃(fc:List Be)(y4 y5:Option V),σ=[aM a,some (.int (k:Int)),aM r,some (.ref pn.2),y4,y5]/\tZ K C H0 H6 a e d bg kE bH ps fc/\H6 D5=some (.lst (cnt n))/\xl aa (ps.map (·.1)) b fc/\cS.length<=fc.length /\
  (fc.length=cS.length->fc=cS/\∀j z,j < i->ru.2[j]?=some z->∀wd∈qi (ps.map (·.1)) cS z,(ru.1,wd)∈gT cS)) ⟨cS,none,none,rfl,S.same s5,e5,V6,aF _,λ_=>⟨rfl,λj z hj=>∅⟩⟩ ?_ ?_ ?_
 .rintro i σ H6 _ ⟨fc,y4,y5,rfl,S2,e6,_⟩;exact aH.of e6
 .intro i x σ H6 ex jW
  ac_nf0
  obtain⟨fc,y4,y5,rfl,S2,e6,Xf,l2,c2⟩:=jW;have li:i < n:=by have:=(bu.mp ex).1;rw [B3] at this;exact this
  rw [NQ li] at ex;cases ex;have lz:i < ru.2.length:=by omega
  obtain⟨z,ez⟩:∃z,ru.2[i]?=some z:=⟨ru.2[i],dG lz⟩;have Xo:jZ (ru.2.map V.str) (i:Int)=some (.str z):=bZ (by rw [bz,ez];rfl);obtain⟨S_,tV,Rn,g1,g2,g3,g4,g5⟩:=S2.ia;refine goN ?_
  ac_nf
  refine⟨_,rfl,a,S_,tV,rfl,Rn,g5,_,rfl,r,_,_,_,rfl,rfl,S2.sm.tup v1,rfl,_,rfl,p,_,_,_,rfl,rfl,S2.sm.tup v2,Xo,H0,a,e,d,bg,kE,bH,ps,fc,z,rfl,S2,λD6 H7 f7 s7 e7=>⟨D6,rfl,⟨_,aH.of e7⟩,?_⟩⟩;obtain⟨xb,GO,_⟩:=S2.lb;have nD6:D6≠bg:=λz=>by rw [z,GO] at f7;cases f7
  generalize Y2:qi (ps.map (·.1)) fc z=ws at *;refine cJ (xs:=ws.map V.str) (λm σ H8=>∃(l:List Be)(y5:Option V),σ=[aM a,some (.int (k:Int)),aM r,some (.ref pn.2),some (.int (i:Int)),y5]/\tZ K C H0 H8 a e d bg kE bH ps (fc++l)/\H8 D5=some (.lst (cnt n))/\H8 D6=some (.lst (ws.map V.str))/\xl aa (ps.map (·.1)) b (fc++l) /\
   (l=[]->∀wd∈ws.take m,(ru.1,wd)∈gT fc)) ⟨[],_,rfl,by rw [iR];exact S2.same s7,s7 _ _ e6,e7,by rw [iR];exact Xf,λ_ wd h=>by simp at h⟩ ?_ ?_ ?_
  .rintro m σ H8 _ ⟨l,y5,rfl,S3,e8,e9,_⟩;exact aH.of e9
  .intro m x σ H8 ex jW
   ac_nf0
   obtain⟨l,y5,rfl,S3,e8,e9,Rz,c3⟩:=jW;rw [bz] at ex;obtain⟨wd,ew,rfl⟩:=cC.mp ex;obtain⟨⟨kvs,hk,kk⟩,fp,Yt,Yu⟩:=S3.dk pn yh;obtain⟨RU,SG,QY⟩:=S3.lb;have lim:=hbd _ Rz;have ltk:kvs.length<=900000:=by
    have h1:=congrArg List.length kk;rw [au,au] at h1;have:=Nj (fc++l) pn.1;omega
   have ltt:=aU QY;have mem:(bw kvs (Sum.inr wd)).isSome=true↔(ru.1,wd)∈gT (fc++l):=by rw [d_,kk,cN,AB,zc]
   refine goN ?_
   ac_nf
   refine⟨_,rfl,_,rfl,pn.2,_,rfl,cq.k (k:=Sum.inr wd) hk,_,rfl,?_⟩;refine cf (λc=>?_) (λc=>?_)
   .have nm:(ru.1,wd)∉gT (fc++l):=λh=>by rw [mem.mpr h] at c;exact absurd c (by decide)
    refine⟨_,rfl,_,rfl,_,_,rfl,pM.k (k:=Sum.inr wd) hk (bM ∅),?_⟩;obtain⟨dx3,Im,WM,k1,k2,k3,k4,k5⟩:=S3.ia;have nap:a≠pn.2:=λz=>by rw [z,hk] at WM;cases WM
    have Sk:bg≠pn.2:=λz=>by rw [z,hk] at SG;cases SG
    have NC:upd H8 pn.2 (.dK (bT kvs (Sum.inr wd) (.bl true))) a=some (.ins C dx3 Im):=by rw [aj nap];exact WM
    have Zo:upd H8 pn.2 (.dK (bT kvs (Sum.inr wd) (.bl true))) bg=some (.lst (RU.map V.ref)):=by rw [aj Sk];exact SG
    refine⟨_,rfl,a,C,dx3,Im,_,rfl,NC,B.cls,B.a3,k2,.inl ⟨rfl,_,aH.of Zo⟩,_,rfl,r,_,_,_,rfl,rfl,iw hk (S3.sm.tup v1),rfl,_,rfl,_,rfl,_,rfl,zl4,λt4 C6=>?_⟩;have s4:=af C6 (.tup [.str ru.1,.str wd,.int (k:Int),.int (i:Int)]);have e4:aS K (upd (upd H8 pn.2 (.dK (bT kvs (Sum.inr wd) (.bl true)))) t4 (.tup [.str ru.1,.str wd,.int (k:Int),.int (i:Int)])) t4 [.str ru.1,.str wd,.int (k:Int),.int (i:Int)]:=aS.of ae;generalize upd (upd H8 pn.2 (.dK (bT kvs (Sum.inr wd) (.bl true)))) t4 (.tup [.str ru.1,.str wd,.int (k:Int),.int (i:Int)])=H9 at s4 e4;refine⟨bg,_,_,rfl,rfl,s4 _ _ Zo,bM (by rw [au];omega),?_⟩;have nm':(pn.1,wd)∉gT (fc++l):=by rw [zc];exact nm
    have S4:=S3.more (k:=k) (j:=i) yh hk kk nm' SG QY s4 (by rw [zc];exact e4);have KQ:∀D ys,H8 D=some (.lst ys)->D≠bg->upd H9 bg (.lst (RU.map V.ref++[.ref t4])) D=some (.lst ys):=λD ys hD nb=>by
     rw [aj nb];exact s4 _ _ (by rw [aj (λz=>by rw [z,hk] at hD;cases hD)];exact hD)
    rw [lW,zc] at S4;refine⟨l++[(ru.1,wd,k,i)],_,rfl,S4,KQ _ _ e8 nDb,KQ _ _ e9 nD6,?_,λh=>by simp at h⟩;rw [<-lW];refine .snoc Rz er ez (by rw [hn];exact li) (II fc l (by rw [Y2];exact b9 ew)) nm
   refine⟨l,_,rfl,S3,e8,e9,Rz,λhl x hx=>?_⟩;rw [cP,ew] at hx;rcases bQ.mp hx with h | h
   .exact c3 hl x h
   rw [Option.toList_some,bF] at h;subst h;have hm:(ru.1,x)∈gT (fc++l):=mem.mp (by
    cases hq:(bw kvs (Sum.inr x)).isSome with
    | true=>rfl
    | false=>exact absurd (by rw [hq];rfl) c)
   rw [hl,iR] at hm;exact hm
  rintro σ H8 ⟨l,y5,rfl,S3,e8,e9,Rz,c3⟩;rw [au,cE] at c3;refine⟨fc++l,_,_,rfl,S3,e8,Rz,by rw [a9];omega,λQN=>?_⟩;rw [a9] at QN;have Sz:l=[]:=zh.mp ∅;obtain⟨Nb,pC⟩:=c2 ∅;rw [Sz,iR];refine⟨Nb,λj z' hj Wv wd Y4=>?_⟩;by_cases cj:j < i
  .exact pC j z' cj Wv wd Y4
  have:j=i:=by omega
  subst this;rw [ez] at Wv;cases Wv;have:=c3 Sz wd (by rw [<-Y2,Nb];exact Y4);rw [Nb] at this;exact this
 rintro σ H6 ⟨fc,y4,y5,rfl,S2,e6,Xf,l2,c2⟩;rw [B3] at c2;exact q fc H6 S2 Xf l2 c2
end
end hU
namespace L2
open PySem M11
def yz {K:ba}{H:Hp}{p D:Addr}{zs:List Str}{σ:St}{x:Str}{Qp:Hp->Prop}(hp:aH K H p (zs.map V.str))(hz:zs.length<=10000)(hD:H D=none)
  (q:∀ts (ps:List (Str×Addr)) H2,aA H H2->H2 D=some (.lst (ts.map V.ref))->ps.map (·.1)=zs->Paired (λt (p:Str×Addr)=>aS K H2 t [.str p.1,.ref p.2]) ts ps->(∀p∈ps,H2 p.2=some (.dK [])/\H p.2=none/\p.2≠D)->(ps.map (·.2)).Nodup->Qp H2) :
  ∃W:Nat->Nat->List V->St->Hp->Prop,(∃m,W 0 m [] (eU [x] [] σ) (upd H D (.lst []))) /\
 ∀i m ys σ' H,W i m ys σ' H->((ke K p).stop i H/\Qp H)\/((ke K p).go i H/\∃m',m' < m/\∀x H',(ke K p).mP i H x H'->dN 0 x σ' H' λσ2 H2=>iu σ2 H2 λb H3 =>
  if b=true then tP (gY (gS 0) (gY (Ew) rB)) σ2 H3 λy H4=>H4 D=some (.lst ys)/\ys.length < sizeLine/\W (i+1) m' (ys++[y]) σ2 (upd H4 D (.lst (ys++[y]))) else W (i+1) m' ys σ2 H3):=by
 refine cM (xs:=zs.map V.str) (λi ys σ2 H2=>∃(ts:List Addr)(ps:List (Str×Addr)),ys=ts.map V.ref/\ts.length=i/\ps.map (·.1)=zs.take i/\Paired (λt (p:Str×Addr)=>aS K H2 t [.str p.1,.ref p.2]) ts ps /\
   (∀p∈ps,H2 p.2=some (.dK [])/\H p.2=none/\p.2≠D)/\(ps.map (·.2)).Nodup/\(∃y0,σ2=[y0])/\aA H H2/\H2 D=some (.lst ys))
  ⟨[],[],rfl,rfl,rfl,.nil,by simp,by simp,⟨none,rfl⟩,af hD _,ae⟩ (λi ys σ2 H2 _ h=>?_) (λi x ys σ2 H2 ex h=>?_) (λys σ2 H2 h=>?_)
 .obtain⟨_,_,_,_,_,_,_,_,_,sm,_⟩:=h;exact sm.seq hp
 .obtain⟨ts,ps,rfl,ht,hm,ql,hl,hn,⟨y0,rfl⟩,sm,hd⟩:=h;rw [bz] at ex;obtain⟨z,ez,rfl⟩:=cC.mp ex;have li:=(bu.mp ez).1;refine goN (yl ?_);refine⟨_,rfl,λl tU=>⟨iP,λt jl=>?_⟩⟩;have My:l≠D:=(aw hd tU).symm;have nt:t≠l:=λe=>by rw [e,ae] at jl;cases jl
  have QA:H2 t=none:=by rw [aj nt] at jl;exact jl
  have ntD:t≠D:=(aw hd QA).symm;have vO:aA H2 (upd (upd H2 l (.dK [])) t (.tup [.str z,.ref l])):=(af tU _).trans (af jl _);have ji:=vO _ _ hd;have el:upd (upd H2 l (.dK [])) t (.tup [.str z,.ref l]) l=some (.dK []):=by rw [aj nt.symm,ae]
  have et:aS K (upd (upd H2 l (.dK [])) t (.tup [.str z,.ref l])) t [.str z,.ref l]:=aS.of ae;generalize upd (upd H2 l (.dK [])) t (.tup [.str z,.ref l])=H4 at vO ji el et;refine⟨ji,bM (by rw [au];omega),ts++[t],ps++[(z,l)],by rw [bG];rfl,by rw [a9,ht];rfl,by rw [bG,hm,cP,ez];rfl,?_,?_,?_,⟨_,rfl⟩,?_,ae⟩
  .exact hZ (Paired.e_ ql λt' h' z=>a7 ji (vO.tup z)) (a7 ji et)
  .intro p' nZ;rcases bQ.mp nZ with h | h
   .obtain⟨a1,a2,a3⟩:=hl p' h;exact⟨by rw [aj a3];exact vO _ _ a1,a2,a3⟩
   rw [bF.mp h];exact⟨by rw [aj My];exact el,sm.free tU,My⟩
  .rw [bG];refine j7.mpr ⟨hn,by simp,λa ha b hb e=>?_⟩;rw [t_,bF] at hb;obtain⟨p',nZ,rfl⟩:=cX.mp ha;have:=(hl p' nZ).1;rw [e,hb] at this;rw [show H2 l=none from tU] at this;cases this
  intro b o hb;rw [aj (λz=>by rw [z,hD] at hb;cases hb)];exact vO _ _ (sm b o hb)
 obtain⟨ts,ps,rfl,ht,hm,ql,hl,hn,_,sm,hd⟩:=h;rw [au,cE] at hm;exact q ts ps H2 sm hd hm ql hl hn
def ix {K:ba}{H:Hp}{D a C dx:Addr}{xs:List V}{fs:List (Str×V)}{o:HO}(hD:H D=some (.ins C dx fs))(h:aS K H a xs):aS K (upd H D o) a xs:=by
 rcases h with (h | ⟨u,h⟩) | h
 .exact .inl (.inl (by rw [aj (λz=>by rw [z,hD] at h;cases h)];exact h))
 .exact .inl (.inr ⟨u,by rw [aj (λz=>by rw [z,hD] at h;cases h)];exact h⟩)
 exact .inr h
def yy {K:ba}{H:Hp}{R D:Addr}{rs:List Addr}{es:List (Str×Nat)}{σ:St}{x1 x2:Str}{Qp:Hp->Prop}(hR:aH K H R (rs.map V.ref))(cy:Paired (λt (e:Str×Nat)=>aS K H t [.str e.1,.int (e.2:Int)]) rs es)(bE:es.length<=1000)(hD:H D=none)
  (q:∀ts H2,aA H H2->H2 D=some (.lst (ts.map V.ref))->Paired (λt h=>aS K H2 t [.str h,.bl true]) ts (es.map (·.1))->Qp H2) :
  ∃W:Nat->Nat->List V->St->Hp->Prop,(∃m,W 0 m [] (eU [x1,x2] [] σ) (upd H D (.lst []))) /\
 ∀i m ys σ' H,W i m ys σ' H->((ke K R).stop i H/\Qp H)\/((ke K R).go i H/\∃m',m' < m/\∀x H',(ke K R).mP i H x H'->AA K 2 (jB (dN 0) (jB (dN 1) Dj)) x σ' H' λσ2 H2=>iu σ2 H2 λb H3 =>
  if b=true then tP (gY (gS 0) (gY (tC (.bl true)) rB)) σ2 H3 λy H4=>H4 D=some (.lst ys)/\ys.length < sizeLine/\W (i+1) m' (ys++[y]) σ2 (upd H4 D (.lst (ys++[y]))) else W (i+1) m' ys σ2 H3):=by
 have ll:=aU cy;refine cM (xs:=rs.map V.ref) (λi ys σ2 H2=>∃ts:List Addr,ys=ts.map V.ref/\ts.length=i/\Paired (λt h=>aS K H2 t [.str h,.bl true]) ts ((es.take i).map (·.1))/\(∃y0 y1,σ2=[y0,y1])/\aA H H2/\H2 D=some (.lst ys))
  ⟨[],rfl,rfl,.nil,⟨none,none,rfl⟩,af hD _,ae⟩ (λi ys σ2 H2 _ h=>?_) (λi x ys σ2 H2 ex h=>?_) (λys σ2 H2 h=>?_)
 .obtain⟨_,_,_,_,_,sm,_⟩:=h;exact sm.seq hR
 .obtain⟨ts,rfl,ht,hp,⟨y0,y1,rfl⟩,sm,hd⟩:=h;rw [bz] at ex;obtain⟨r,er,rfl⟩:=cC.mp ex;have lr:=(bu.mp er).1;obtain⟨ru,e1⟩:∃ru,es[i]?=some ru:=⟨es[i]'∅,dG ∅⟩;obtain⟨r',Rf,v1⟩:=Paired.at_ cy i ru e1;rw [er] at Rf;cases Rf;have li:=(bu.mp e1).1;refine⟨r,_,rfl,sm.tup v1,rfl,_,_,rfl,_,_,rfl,rfl,?_⟩;refine yl ?_;refine⟨_,rfl,iP,λt jl=>⟨?_,bM (by rw [au];omega),ts++[t],?_,?_,?_,⟨_,_,rfl⟩,?_,ae⟩⟩
  .rw [aj (aw hd jl)];exact hd
  .rw [bG];rfl
  .rw [a9,ht];rfl
  .rw [cP,e1,bG];have ji:upd H2 t (.tup [.str ru.1,.bl true]) D=some (.lst (ts.map V.ref)):=by rw [aj (aw hd jl)];exact hd
   exact hZ (Paired.e_ hp λt' h' z=>a7 ji ((af jl _).tup z)) (a7 ji (aS.of ae))
  intro b o hb;rw [aj (λz=>by rw [z,hD] at hb;cases hb)];exact af jl _ _ _ (sm b o hb)
 obtain⟨ts,rfl,ht,hp,_,sm,hd⟩:=h;rw [au,ll,cE] at hp;exact q ts H2 sm hd hp
end L2
namespace M11
open PySem L2
def xl.sub {aa:List ar}{names:List Str}{b:Str->Bool}{cS:List Be}(h:xl aa names b cS):∀q∈gT cS,q.1∈aa.map (·.1)/\q.2∈aa.flatMap (·.2):=by
 induction h with
 | nil=>intro q hq;cases hq
 | @snoc cS k j ru z wd hb er ez _ hw _ ih =>
  intro q hq;unfold gT at hq;rw [bG] at hq;rcases bQ.mp hq with hq | hq
  .exact ih q hq
  rw [t_,bF] at hq;rw [hq];have hm:=b9 er;refine⟨j8 hm,?_⟩;unfold qi at hw
  split at hw
  .exact(ih (z,wd) (AB.mp hw)).2
  rw [bF.mp hw];exact qX.mpr ⟨ru,hm,b9 ez⟩
def xl.nd {aa:List ar}{names:List Str}{b:Str->Bool}{cS:List Be}(h:xl aa names b cS):(gT cS).Nodup:=by
 induction h with
 | nil=>exact kr
 | @snoc cS k j ru z wd hb er ez _ hw hn ih =>
  unfold gT;rw [bG];refine j7.mpr ⟨ih,by simp,λx hx y hy e=>?_⟩;rw [t_,bF] at hy;rw [e,hy] at hx;exact hn hx
theorem xN (m:List Str):∀l:List Str,(l.flatMap λn=>m.map λwd=>(n,wd)).length=l.length * m.length
 | []=>by simp
 | n::l=>by
  rw [mU,a9,xN m l,au,dY,Nat.add_mul];omega
def xl.len {aa:List ar}{names:List Str}{b:Str->Bool}{cS:List Be}(h:xl aa names b cS)(hl:aa.length<=100)(h8:∀ru∈aa,ru.2.length<=8):cS.length<=80000:=by
 have h1:=gO (gT cS) ((aa.map (·.1)).flatMap λn=>(aa.flatMap (·.2)).map λwd=>(n,wd)) h.nd λq hq=>by
  obtain⟨a,c⟩:=h.sub q hq;exact qX.mpr ⟨q.1,a,cX.mpr ⟨q.2,c,rfl⟩⟩
 rw [xN] at h1;have h2:=hU.jC aa 100 hl h8;unfold gT at h1;rw [au,au] at h1;have h3:aa.length * (aa.flatMap (·.2)).length<=100 * 800:=Nat.mul_le_mul hl h2;omega
def Kg (aa:List ar) (names:List Str)(b:Str->Bool) (n:Nat)(cS:List Be):Prop:=∀k ru,k < n->aa[k]?=some ru->∀j z,j < Dn b ru.2->ru.2[j]?=some z->∀wd∈qi names cS z,(ru.1,wd)∈gT cS
end M11
namespace hU
open PySem L2 M11
section
def Br (K:ba)(C:Addr):Sp:=λvs H Q _=>∃(H0:Hp)(a dx R:Addr)(rs:List Addr)(aa:List ar),vs=[.ref a,.ref R]/\aA H0 H/\H0 a=none/\H a=some (.ins C dx [])/\aH K H0 R (rs.map V.ref)/\bK K H0 rs aa/\aa.length<=100/\(∀ru∈aa,ru.2.length<=8) /\
 ∀(e d bg:Addr)(kE:List (aR×V))(bH:List (Str×Nat))(ps:List (Str×Addr))(cS:List Be)(H':Hp),tZ K C H0 H' a e d bg kE bH ps cS->ps.map (·.1)=hd aa->w6 aa bH->yN aa aa.length bH->(∀z,(bw kE (Sum.inr z)).isSome=decide (z∈bH.map (·.1))) ->
  xl aa (hd aa) (λz=>decide (z∈bH.map (·.1))) cS->Kg aa (hd aa) (λz=>decide (z∈bH.map (·.1))) aa.length cS->Q .fg H'
def nJ:aK ["self","rules","number","many","rule"] ["self","rules"] (av zQ):=iM rfl rfl rfl rfl (by decide +kernel)
def FU {C fF:Addr}{Zx:FuncData}(F:iB K "__init__" "BeginTable.__init__" zQ f fd)(T:Txt mg)(B:BC K C)(GE:aC P w K mg base 1 "found_empties" ["rules"] (o6 K))(GH:aC P w K mg base 1 "heads_of" ["rules"] (jP K))
  (FF:bR P w K mg base gk 2 fF Zx ["self","number","rule"] (EM K C))(MF:Meth K C "find_begins" fF)(BF:Binds K Zx ["self","number","rule"] []):bR P w K mg base gk 3 f fd ["self","rules"] (Br K C):=by
 refine F.ok nJ (λvs H Q E h=>?_) (λeX A outer s H vs Q E hr h=>?_)
 .obtain⟨H0,a,dx,R,rs,aa,rfl,_⟩:=h;rfl
 obtain⟨H0,a,dx,R,rs,aa,rfl,s0,f0,ea,hR,cy,bE,h8,q⟩:=h;refine⟨_,ai (g6 (pv 0) (bp (GE.mono (by decide:1<=2)) hr rfl (ab (pv 1) ag)) rfl)
  (ai (g6 (pv 0) (bc (dS rfl) rfl T.AN gi (ab (bD ["name","number"] [] rfl (a8 (fP (pv 0) rfl)) (br rfl rfl) (by decide +kernel) rfl (by decide +kernel)
   (λ_ _ _ _ _=>fR (n:=2) K rfl (aB (aq (i:=0) (show (["name","number"]:List Str).Nodup by decide +kernel) rfl (bC rfl)) (aB (aq (i:=1) (show (["name","number"]:List Str).Nodup by decide +kernel) rfl (bC rfl)) b_))) (λ_ _ _ _ _=>b8)
   (λ_ _ _ _ _=>bo (ab (pv 0) (ab f_ ag)))) ag)) rfl)
  (ai (g6 (pv 0) (a_ ag) rfl)
  (ai (g6 (pv 0) (bc (dS rfl) rfl T.AN gi (ab (bD ["name"] [] rfl (a8 (bp (GH.mono (by decide:1<=2)) hr rfl (ab (pv 1) ag))) (br rfl rfl) (by decide +kernel) rfl (by decide +kernel)
   (λ_ _ _ _ _=>aq (i:=0) (show (["name"]:List Str).Nodup by decide +kernel) rfl (bC rfl)) (λ_ _ _ _ _=>b8)
   (λ_ _ _ _ _=>bo (ab (pv 0) (ab g8 ag)))) ag)) rfl)
  (ai (az (i:=3) nJ.nd rfl (bC rfl) (ka iD ao))
  (ak (kS cg (aX nU (pv 3) (aD aG rfl T.len cY (ab (fP (pv 0) rfl) ag)) (bJ _))
   (ai (az (i:=3) nJ.nd rfl (bC rfl) (aD aG rfl T.len cY (ab (fP (pv 0) rfl) ag)))
   (ak (bL cg rfl (nQ rfl T.JS (ab (pv 1) ag)) (g7 rfl (aB (aq (i:=2) nJ.nd rfl (bC rfl)) (aB (aq (i:=4) nJ.nd rfl (bC rfl)) b_)))
    (ak (cI (BE (pv 0) B.cls MF FF hr BF .nil ux (ab (pv 2) (ab (pv 4) ag)))))))))))))),?_⟩
 nofun
 have ll:=aU cy;refine⟨_,rfl,R,rs,aa,rfl,s0.seq hR,cy.same s0,∅,h8,λD1 Cp bH H1 f1 s1 e1 w1 emp Dw=>?_⟩;have WN:=s1 _ _ ea;refine⟨_,rfl,a,C,dx,[],rfl,WN,B.cls,B.a1,(by show 0 < 1000;decide),?_⟩;have e2:upd H1 a (.ins C dx (eG "empties" (.ref D1) [])) D1=some (.lst (Cp.map V.ref)):=by rw [aj (λz=>by rw [z,WN] at e1;cases e1)];exact e1
 have w2:pK K (upd H1 a (.ins C dx (eG "empties" (.ref D1) []))) Cp bH:=w1.keep λ_ _ z=>ix WN z;have E7:aA H0 (upd H1 a (.ins C dx (eG "empties" (.ref D1) []))):=λc o hc=>by rw [aj (λz=>by rw [z,f0] at hc;cases hc)];exact s1 _ _ (s0 c o hc)
 have Rn:upd H1 a (.ins C dx (eG "empties" (.ref D1) [])) a=some (.ins C dx (eG "empties" (.ref D1) [])):=ae;generalize upd H1 a (.ins C dx (eG "empties" (.ref D1) []))=H2 at e2 w2 E7 Rn;have lets:=emp.len;refine⟨_,rfl,a,C,dx,_,_,rfl,Rn,B.cls,B.a1,rfl,D1,rfl,⟨_,aH.of e2⟩,λD2 jb=>yy (aH.of e2) w2 ∅ jb λxb H3 s3 e3 p3=>?_⟩;have kp:Paired (λt (kv:aR×V)=>aS K H3 t [kV kv.1,kv.2]) xb ((bH.map (·.1)).map λh=>((Sum.inr h:aR),V.bl true)):=cx p3 λ_ _ z=>z;refine⟨D2,xb,_,rfl,e3,kp,λe he=>?_⟩;have CT:∀z,(bw (df ((bH.map (·.1)).map λh=>((Sum.inr h:aR),V.bl true)) []) (Sum.inr z)).isSome=decide (z∈bH.map (·.1)):=λz=>by
  rw [m_];by_cases c:z∈bH.map (·.1)
  .rw [ax c,bh c];rfl
  rw [ay c,b0 c];rfl
 generalize df ((bH.map (·.1)).map λh=>((Sum.inr h:aR),V.bl true)) []=kE at CT;have xJ:=(E7.trans s3).trans (af he (.dK kE));have NC:=af he (.dK kE) _ _ (s3 _ _ Rn);have SU:upd H3 e (.dK kE) e=some (.dK kE):=ae;have Ja:aA H2 (upd H3 e (.dK kE)):=s3.trans (af he (.dK kE));generalize upd H3 e (.dK kE)=H4 at xJ NC SU Ja;have W9:=Ja _ _ e2;have wE4:pK K H4 Cp bH:=w2.keep λ_ _ z=>Ja.tup z;refine⟨_,rfl,a,C,dx,_,rfl,NC,B.cls,B.a2,(by show 1 < 1000;decide),?_⟩;generalize VY:eG "empty" (.ref e) (eG "empties" (.ref D1) [])=K7;have Rl:upd H4 a (.ins C dx K7) e=some (.dK kE):=by rw [aj (λz=>by rw [z,NC] at SU;cases SU)];exact SU
 have xI:aA H0 (upd H4 a (.ins C dx K7)):=λc o hc=>by rw [aj (λz=>by rw [z,f0] at hc;cases hc)];exact xJ c o hc
 have ZV:upd H4 a (.ins C dx K7) a=some (.ins C dx K7):=ae;have W8:upd H4 a (.ins C dx K7) D1=some (.lst (Cp.map V.ref)):=by rw [aj (λz=>by rw [z,NC] at W9;cases W9)];exact W9
 have XW:pK K (upd H4 a (.ins C dx K7)) Cp bH:=wE4.keep λ_ _ z=>ix NC z;generalize upd H4 a (.ins C dx K7)=H5 at Rl xI ZV W8 XW;refine⟨rq,λbg M_=>?_⟩;have fbg:H0 bg=none:=xI.free M_;have SV:upd H5 bg (.lst []) bg=some (.lst []):=ae;have E6:=xI.trans (af M_ (.lst []));have Nz:=af M_ (.lst []) _ _ Rl;have Ip:=af M_ (.lst []) _ _ ZV;have UW:D1≠bg:=aw W8 M_;have Ta:=af M_ (.lst []) _ _ W8;have XU:pK K (upd H5 bg (.lst [])) Cp bH:=XW.keep λ_ _ z=>(af M_ (.lst [])).tup z;generalize upd H5 bg (.lst [])=H6 at SV E6 Nz Ip Ta XU;refine⟨_,rfl,a,C,dx,_,rfl,Ip,B.cls,B.a3,(by rw [<-VY];show 2 < 1000;decide),?_⟩;generalize Zi:eG "begins" (.ref bg) K7=JQ;have Ny:upd H6 a (.ins C dx JQ) e=some (.dK kE):=by rw [aj (λz=>by rw [z,Ip] at Nz;cases Nz)];exact Nz
 have ZS:upd H6 a (.ins C dx JQ) bg=some (.lst []):=by rw [aj (λz=>by rw [z,Ip] at SV;cases SV)];exact SV
 have HZ:aA H0 (upd H6 a (.ins C dx JQ)):=λc o hc=>by rw [aj (λz=>by rw [z,f0] at hc;cases hc)];exact E6 c o hc
 have ZU:upd H6 a (.ins C dx JQ) a=some (.ins C dx JQ):=ae;have dE7:upd H6 a (.ins C dx JQ) D1=some (.lst (Cp.map V.ref)):=by rw [aj (λz=>by rw [z,Ip] at Ta;cases Ta)];exact Ta
 have XT:pK K (upd H6 a (.ins C dx JQ)) Cp bH:=XU.keep λ_ _ z=>ix Ip z;generalize upd H6 a (.ins C dx JQ)=H7 at Ny ZS HZ ZU dE7 XT;refine⟨_,rfl,R,rs,aa,rfl,HZ.seq hR,cy.same HZ,∅,λD4 H8 f8 s8 e8=>?_⟩;have JC:=iO (aa.map (·.1)) [];simp only [jo,au] at JC;refine⟨D4,rfl,⟨_,aH.of e8⟩,λD5 Ov=>yz (aH.of e8) ∅ Ov λts ps H9 s9 e9 m9 p9 l9 n9=>?_⟩;have n1:(ps.map (·.1)).Nodup:=by rw [m9];exact pH _ kr
 have Gb:Paired (λt (kv:aR×V)=>aS K H9 t [kV kv.1,kv.2]) ts (ps.map jJ):=cx p9 λ_ _ z=>z;refine⟨D5,ts,_,rfl,e9,Gb,λd tN=>?_⟩;have Rh:df (ps.map jJ) []=ps.map jJ:=oq _ [] (by
  rw [pO,nV];exact wo n1)
 rw [Rh];have N_:=s8.trans s9;have sd:=af tN (.dK (ps.map jJ));have zR:=N_.trans sd;have qp:upd H9 d (.dK (ps.map jJ)) d=some (.dK (ps.map jJ)):=ae;have MA:∀p∈ps,upd H9 d (.dK (ps.map jJ)) p.2=some (.dK [])/\p.2≠d:=λp hp=>⟨sd _ _ (l9 p hp).1,λz=>by have:=(l9 p hp).1;rw [z,tN] at this;cases this⟩;generalize upd H9 d (.dK (ps.map jJ))=A1 at zR qp MA;have AL:=zR _ _ ZU;have wM:=zR _ _ Ny;have NB:=zR _ _ ZS;have Uq:=HZ.trans zR;have NM:=zR _ _ dE7;have TB:pK K A1 Cp bH:=XT.keep λ_ _ z=>zR.tup z;refine⟨_,rfl,a,C,dx,_,rfl,AL,B.cls,B.a4,(by rw [<-Zi,<-VY];show 3 < 1000;decide),?_⟩;have fp:∀p∈ps,H0 p.2=none/\p.2≠e:=λp hp=>by
  have Zr:H8 p.2=none:=(l9 p hp).2.1;refine⟨(HZ.trans s8).free Zr,λz=>?_⟩;have:=s8 _ _ Ny;rw [<-z,Zr] at this;cases this
 have hfs:∃fs,eG "firsts" (.ref d) JQ=fs/\fs.lookup ("empty":Str)=some (.ref e)/\fs.lookup ("begins":Str)=some (.ref bg)/\fs.lookup ("firsts":Str)=some (.ref d)/\fs.lookup ("find_begins":Str)=none/\fs.lookup ("words_of_part":Str)=none/\fs.lookup ("empties":Str)=some (.ref D1):=by
  refine⟨_,rfl,?_⟩;rw [<-Zi,<-VY];refine⟨?_,?_,?_,?_,?_,?_⟩ <;> rfl
 obtain⟨fs,efs,k1,k2,k3,k4,k5,k6⟩:=hfs;rw [efs];have El:tZ K C H0 (upd A1 a (.ins C dx fs)) a e d bg kE bH ps []:=by
  refine⟨λc o hc=>by rw [aj (λz=>by rw [z,f0] at hc;cases hc)];exact Uq c o hc,⟨dx,fs,ae,k1,k2,k3,k4,k5⟩,?_,?_,n1,n9,λp hp=>⟨⟨[],?_,rfl⟩,(fp p hp).1,(fp p hp).2,(MA p hp).2⟩,⟨[],?_,.nil⟩,fbg,⟨D1,Cp,⟨dx,fs,ae,k6⟩,by rw [aj (λz=>by rw [z,AL] at NM;cases NM)];exact NM,TB.keep λ_ _ z=>ix AL z,UW⟩⟩
  .rw [aj (λz=>by rw [z,AL] at wM;cases wM)];exact wM
  .rw [aj (λz=>by rw [z,AL] at qp;cases qp)];exact qp
  .have:=(MA p hp).1;rw [aj (λz=>by rw [z,AL] at this;cases this)];exact this
  rw [aj (λz=>by rw [z,AL] at NB;cases NB)];exact NB
 generalize upd A1 a (.ins C dx fs)=DX at El;have eb:(λz=>(bw kE (Sum.inr z)).isSome)=λz=>decide (z∈bH.map (·.1)):=funext CT;refine⟨1,rfl,?_⟩;refine⟨λmm σ yK=>∃(cS:List Be) (many:Int)(y2 y4:Option V),σ=[aM a,aM R,y2,some (.int many),y4]/\tZ K C H0 yK a e d bg kE bH ps cS/\xl aa (hd aa) (λz=>decide (z∈bH.map (·.1))) cS/\-1<=many/\many<=cS.length /\
  (many=cS.length->Kg aa (hd aa) (λz=>decide (z∈bH.map (·.1))) aa.length cS)/\(mm:Int)=80001 - many,⟨80002,[],-1,none,none,rfl,El,.nil,∅,by simp,by simp,∅⟩,?_⟩
 rintro mm σ yK ⟨cS,many,y2,y4,rfl,Iz,NU,b1,b2,cl,em⟩;obtain⟨S_,tV,q1,q2,q3,q4,q5,q6⟩:=Iz.ia;obtain⟨tb,Ot,GO⟩:=Iz.lb;have lb:=aU GO;have ME:=NU.len bE h8;refine⟨_,rfl,_,rfl,a,C,S_,tV,_,rfl,q1,B.cls,B.a3,q3,bg,_,rfl,.inl (aH.of Ot),_,_,rfl,rfl,_,rfl,?_⟩;refine cf (λc=>?_) (λc=>?_)
 .have c':=cZ c;rw [au,lb] at c';refine⟨λσ Cd=>∃(fc:List Be)(y2 y4:Option V),σ=[aM a,aM R,y2,some (.int (cS.length:Int)),y4]/\tZ K C H0 Cd a e d bg kE bH ps fc/\xl aa (hd aa) (λz=>decide (z∈bH.map (·.1))) fc/\cS.length<=fc.length /\
   (fc.length=cS.length->fc=cS/\Kg aa (hd aa) (λz=>decide (z∈bH.map (·.1))) aa.length cS),?_,?_⟩
  .rintro σ Cd ⟨fc,y2,y4,rfl,HJ,DR,Sn,Hr⟩;have:=DR.len bE h8;refine⟨(80001 - cS.length:Int).toNat,∅,fc,_,_,_,rfl,HJ,DR,∅,∅,λz=>?_,∅⟩;obtain⟨JU,Dz⟩:=Hr ∅;rw [JU];exact Dz
  refine⟨_,rfl,a,C,S_,tV,_,rfl,q1,B.cls,B.a3,q3,bg,_,rfl,.inl (aH.of Ot),?_⟩;rw [au,lb];refine⟨_,rfl,R,_,rfl,Iz.sm.seq hR,?_⟩;refine k0 (xs:=rs.map V.ref) (λi σ Cd=>∃(fc:List Be)(y2 y4:Option V),σ=[aM a,aM R,y2,some (.int (cS.length:Int)),y4]/\tZ K C H0 Cd a e d bg kE bH ps fc/\xl aa (hd aa) (λz=>decide (z∈bH.map (·.1))) fc/\cS.length<=fc.length /\
   (fc.length=cS.length->fc=cS/\Kg aa (hd aa) (λz=>decide (z∈bH.map (·.1))) i cS)) ⟨cS,_,_,rfl,Iz,NU,aF _,λ_=>⟨rfl,λk ru hk=>∅⟩⟩ ?_ ?_ ?_
  .rintro i σ Cd _ ⟨fc,y2,y4,rfl,HJ,_⟩;exact HJ.sm.seq hR
  .rintro i x σ Cd t ex ⟨fc,y2,y4,rfl,HJ,DR,Sn,Hr⟩ ht
   ac_nf0
   rw [bz] at ex;obtain⟨r,er,rfl⟩:=cC.mp ex;obtain⟨ru,sP,rv⟩:=cy.get er;have lP:=b9 sP;have RE:=HJ.same (af ht (.tup [.int (i:Int),.ref r]));have Qv:aS K (upd Cd t (.tup [.int (i:Int),.ref r])) t [.int (i:Int),.ref r]:=aS.of ae;generalize upd Cd t (.tup [.int (i:Int),.ref r])=H14 at RE Qv;obtain⟨dx4,Oy,r1,r2,r3,r4,r5,r6⟩:=RE.ia;refine⟨t,_,rfl,Qv,rfl,_,_,rfl,_,_,rfl,rfl,?_⟩;refine⟨_,rfl,a,dx4,Oy,rfl,r1,r5,_,rfl,_,rfl,H0,a,e,d,bg,r,kE,bH,ps,fc,i,ru,aa,rfl,RE,rv,sP,h8 ru lP,by rw [m9];exact(iq _ _ _).mpr (.inr (j8 lP)),?_,?_,?_⟩
   .intro wU Ik;have:=Ik.len bE h8;omega
   .rw [m9,eb];exact DR
   rw [m9,eb];intro Xh H15 XB Xg l15 Xd;refine⟨Xh,_,_,rfl,XB,Xg,∅,λhl3=>?_⟩;obtain⟨x1,x2⟩:=Hr ∅;obtain⟨x3,x4⟩:=Xd ∅;refine⟨x3.trans x1,λk Cv hk Wz j z hj ez wd hw=>?_⟩;by_cases ck:k < i
   .exact x2 k Cv ck Wz j z hj ez wd hw
   have:k=i:=by omega
   subst this;rw [sP] at Wz;cases Wz;rw [<-x1] at hw ⊢;exact x4 j z hj ez wd hw
  rintro σ Cd ⟨fc,y2,y4,rfl,HJ,DR,Sn,Hr⟩;rw [au,ll] at Hr;exact⟨fc,_,_,rfl,HJ,DR,Sn,Hr⟩
 have c':=of_decide_eq_false (q8.mpr c);rw [au,lb] at c';exact q e d bg kE bH ps cS yK Iz m9 emp Dw CT NU (cl ∅)
end
end hU
namespace L2
open PySem PySem.W
section
variable {X:Cx}{ah:List (Addr×Obj)}{σ:St}{H:Hp}{s:Shared}{a:Addr}{kvs:List (aR×V)}{k:aR}{u:Value}{A:Around}{E:Value->Shared->Prop}
def NK {z:V}{r:Value}{Q:Value->Shared->Prop}(I:Inv X ah σ H s)(e:H a=some (.dK kvs))(hl:kvs.length < sizeLine)(ry:RelV (kV k) u)(rz:RelV z r)
  (h1:∀v w' s',bw kvs k=some v->Inv X ah σ H s'->RelV v w'->Q w' s')(h2:bw kvs k=none->∀s',Inv X ah σ (upd H a (.dK (bT kvs k z))) s'->Q r s') :
  wpAny (model X.prog X.w) A (call (.builtin "dict.setdefault") [.ref a,u,r]) Q E s:=by
 obtain⟨zl,hd,vs,rel,dd⟩:=yq I.cw e;refine call_meetsIn PySem.F.slot_dict_setdefault dd.typeIs PySem.F.entry_dict_setdefault (PySem.F.args_dict_setdefault_3 _ _ _) (kt_meets_setdefault (bA X.prog X.w) a (l7 ry) hd r)
  ⟨vs,dd,by rw [<-rel.length];exact zl,λv hv=>?_,λhn h' Iu hs=>?_⟩
 .have rv:=rel.val k;rw [hv] at rv;cases e2:bw kvs k with
  | none=>rw [e2] at rv;cases rv
  | some x=>rw [e2] at rv;exact h1 x v _ e2 (I.tok _) rv
 have Gv:bw kvs k=none:=by
  have rv:=rel.val k;rw [hn] at rv;cases e2:bw kvs k with
  | none=>rfl
  | some x=>rw [e2] at rv;cases rv
 have he:∃q,h'.get? a=some q:=let ⟨q,_,_,hq,_⟩:=Iu;⟨q,hq⟩;exact h2 Gv _ (qI I (by rw [e];exact True.intro) hs he (sU (by have:=gb kvs k z;omega) hd (rel.put k rz) Iu))
end
section
variable {X:Cx}{o e f:Expr}{apos hV:Pos}{td ty tx:TE}
def LI (td ty tx:TE):TE:=λσ H Q=>td σ H λx H1=>∃a,x=.ref a/\Tg H1 a/\ty σ H1 λy H2=>tx σ H2 λz H3=>∃kvs k,H3 a=some (.dK kvs)/\y=kV k/\kvs.length < sizeLine /\
 (∀v,bw kvs k=some v->Q v H3)/\(bw kvs k=none->Q z (upd H3 a (.dK (bT kvs k z))))
def Fq (ho:PE X o td)(he:PE X e ty)(hf:PE X f tx)(m:M2 X o "setdefault" apos e f hV):PE X (.Call (.Attribute o "setdefault" apos) [e,f] [] hV) (LI td ty tx):=by
 intro ah s σ H Q I h;refine wpAny_Call_method m.base m.xg m.line zj PySem.F.slot_dict_setdefault PySem.F.type_dict_setdefault (cQ (ho ah s σ H _ I h) λu s1 ⟨x,H1,I1,rx,a,ex,d,q1⟩=>?_);subst ex;obtain rfl:u=Value.ref a:=rx;obtain⟨t1,t2,_⟩:=Ar I1 d;refine⟨t1,t2,?_⟩;rw [m.trees];refine ro rfl (vi (oU (cQ (he ah s1 σ H1 _ I1 q1) λiv s2 ⟨y,H2,I2,ry,q2⟩ =>
  oU (cQ (hf ah s2 σ H2 _ I2 q2) λfv s3 ⟨z,H3,I3,rz,kvs,k,ea,ey,hl,q3,q4⟩=>Calls.spliced_nil ?_))))
 subst ey;exact NK I3 ea hl ry rz (λv w' s4 l I4 zT=>⟨v,_,I4,zT,q3 v l⟩) λl s4 I4=>⟨z,_,I4,rz,q4 l⟩
end
end L2
namespace hU
open PySem L2 M11
section
def PJ {ps:List (Str×Addr)}(n1:(ps.map (·.1)).Nodup)(n2:(ps.map (·.2)).Nodup){p p':Str×Addr}(hp:p∈ps)(nZ:p'∈ps)(z:p'≠p):p'.1≠p.1/\p'.2≠p.2:=by
 refine⟨λq=>z ?_,λq=>z ?_⟩
 .have w1:=ie ps n1 p' nZ;have w2:=ie ps n1 p hp;rw [q,w2] at w1;injection w1 with w3;injection w3 with w4;exact Prod.ext q w4.symm
 obtain⟨i,hi,ei⟩:=qN.mp nZ;obtain⟨j,hj,ej⟩:=qN.mp hp;have JK:i=j:=by
  refine(vb (xs:=ps.map (·.2)) (h₀:=by simpa using hi) (h₁:=by simpa using hj) n2).mp ?_;rw [oS,oS,ei,ej];exact q
 subst JK;exact ei.symm.trans ej
structure IB (ps:List (Str×Addr))(st:Str->List Int)(H:Hp)(d:Addr):Prop where
 hd:H d=some (.dK (ps.map jJ))
 n1:(ps.map (·.1)).Nodup
 n2:(ps.map (·.2)).Nodup
 lst:∀p∈ps,H p.2=some (.lst ((st p.1).map V.int))
def IB.same {ps:List (Str×Addr)}{st:Str->List Int}{H H':Hp}{d:Addr}(h:IB ps st H d)(s:aA H H'):IB ps st H' d:=⟨s _ _ h.hd,h.n1,h.n2,λp hp=>s _ _ (h.lst p hp)⟩
def B9 (st:Str->List Int)(n:Str) (k:Int):Str->List Int:=λz=>if z=n then st z++[k] else st z
def IB.more {ps:List (Str×Addr)}{st:Str->List Int}{H:Hp}{d:Addr}(h:IB ps st H d){p:Str×Addr}(hp:p∈ps) (k:Int):IB ps (B9 st p.1 k) (upd H p.2 (.lst ((st p.1).map V.int++[.int k]))) d:=by
 have a:=h.lst p hp;have nd:d≠p.2:=λz=>by have:=h.hd;rw [z,a] at this;cases this
 refine⟨by rw [aj nd];exact h.hd,h.n1,h.n2,λp' nZ=>?_⟩;by_cases z:p'=p
 .rw [z,ae];have e1:B9 st p.1 k p.1=st p.1++[k]:=ax rfl;rw [e1,bG];rfl
 obtain⟨a1,a2⟩:=PJ h.n1 h.n2 hp nZ z;have e1:B9 st p.1 k p'.1=st p'.1:=ay a1;rw [aj a2,e1];exact h.lst p' nZ
def EH (K:ba):Sp:=λvs H Q _=>∃(R:Addr)(rs:List Addr)(aa:List ar),vs=[.ref R]/\aH K H R (rs.map V.ref)/\bK K H rs aa/\aa.length<=1000 /\
 ∀(d:Addr)(ps:List (Str×Addr))(H':Hp),H d=none->aA H H'->IB ps (λn=>nums aa n aa.length) H' d->ps.map (·.1)=hd aa->(∀p∈ps,H p.2=none)->Q (.ref d) H'
def vQ:aK ["rules","numbers","number","rule"] ["rules"] (av EW):=iM rfl rfl rfl rfl (by decide +kernel)
def Jq (F:iB K "numbers_by_name" "numbers_by_name" EW f fd)(T:Txt mg)(GH:aC P w K mg base 1 "heads_of" ["rules"] (jP K)):bR P w K mg base gk 2 f fd ["rules"] (EH K):=by
 refine F.ok vQ (λvs H Q E h=>?_) (λeX A outer s H vs Q E hr h=>?_)
 .obtain⟨R,rs,aa,rfl,_⟩:=h;rfl
 obtain⟨R,rs,aa,rfl,hR,cy,bE,q⟩:=h;have hu:=gh hr;refine⟨_,ai (az (i:=1) vQ.nd rfl (bC rfl) (bc (dS rfl) rfl T.AN gi (ab
   (bD ["name"] [] rfl (a8 (bp GH hr rfl (ab (pv 0) ag))) (br rfl rfl) (by decide +kernel) rfl (by decide +kernel)
    (λ_ _ _ _ _=>aq (i:=0) (show (["name"]:List Str).Nodup by decide +kernel) rfl (bC rfl)) (λ_ _ _ _ _=>b8)
    (λ_ _ _ _ _=>bo (ab (pv 0) (ab (a_ ag) ag)))) ag)))
  (ai (bL cg rfl (nQ rfl T.JS (ab (pv 0) ag)) (g7 rfl (aB (aq (i:=2) vQ.nd rfl (bC rfl)) (aB (aq (i:=3) vQ.nd rfl (bC rfl)) b_)))
   (ak (cI (g9 gF gW gX bU (fq hu (pv 1) (aL aZ (pv 3) ao (λ_ _=>rfl)) (λ_ _=>rfl)) (ab (pv 2) ag)))))
  (ak (aN (pv 1)))),?_⟩
 nofun
 have ll:=aU cy;refine⟨_,rfl,R,rs,aa,rfl,hR,cy,bE,λD2 H3 f3 s3 e3=>?_⟩;have JC:=iO (aa.map (·.1)) [];simp only [jo,au] at JC;refine⟨D2,rfl,⟨_,aH.of e3⟩,λD3 yj=>s_ (aH.of e3) ∅ yj λts ps H4 s4 e4 m4 p4 l4 n4=>?_⟩;have n1:(ps.map (·.1)).Nodup:=by rw [m4];exact pH _ kr
 have Gb:Paired (λt (kv:aR×V)=>aS K H4 t [kV kv.1,kv.2]) ts (ps.map jJ):=cx p4 λ_ _ z=>z;refine⟨D3,ts,_,rfl,e4,Gb,λd tN=>?_⟩;have Rh:df (ps.map jJ) []=ps.map jJ:=oq _ [] (by
  rw [pO,nV];exact wo n1)
 rw [Rh];have s5:=(s3.trans s4).trans (af tN (.dK (ps.map jJ)));have tM:=af tN (.dK (ps.map jJ));have y_:H d=none:=(s3.trans s4).free tN;have S5:IB ps (λn=>nums aa n 0) (upd H4 d (.dK (ps.map jJ))) d:=⟨ae,n1,n4,λp hp=>tM _ _ (l4 p hp).1⟩;have Oz:∀p∈ps,H p.2=none:=λp hp=>s3.free (l4 p hp).2.1;generalize upd H4 d (.dK (ps.map jJ))=H5 at s5 S5;clear tM;refine⟨_,rfl,R,_,rfl,s5.seq hR,?_⟩;refine k0 (xs:=rs.map V.ref) (λi σ H6=>∃(y2 y3:Option V),σ=[aM R,aM d,y2,y3]/\aA H H6/\IB ps (λn=>nums aa n i) H6 d) ⟨none,none,rfl,s5,S5⟩ ?_ ?_ ?_
 .rintro i σ H6 _ ⟨y2,y3,rfl,s6,_⟩;exact s6.seq hR
 .rintro i x σ H6 t ex ⟨y2,y3,rfl,s6,S6⟩ ht
  ac_nf0
  rw [bz] at ex;obtain⟨r,er,rfl⟩:=cC.mp ex;obtain⟨ru,sP,p,v1,v2⟩:=cy.get er;have lP:=b9 sP;have li:=(bu.mp sP).1;have uq:=af ht (.tup [.int (i:Int),.ref r]);have K2:aS K (upd H6 t (.tup [.int (i:Int),.ref r])) t [.int (i:Int),.ref r]:=aS.of ae;have s7:=s6.trans uq;have S7:=S6.same uq;generalize upd H6 t (.tup [.int (i:Int),.ref r])=H7 at K2 s7 S7;obtain⟨pn,yh,zc⟩:∃pn∈ps,pn.1=ru.1:=by
   have:ru.1∈ps.map (·.1):=by rw [m4];exact(iq _ _ _).mpr (.inr (j8 lP))
   obtain⟨pn,a,b⟩:=cX.mp this;exact⟨pn,a,b⟩
  have an:=S7.lst pn yh;have vn:=ie ps n1 pn yh;rw [zc] at vn;have hg:cq H7 d (.str ru.1) (some (.ref pn.2)):=by
   have:=cq.k (k:=Sum.inr ru.1) S7.hd;rw [vn] at this;exact this
  have ln:=xY aa pn.1 i;refine⟨t,_,rfl,K2,rfl,_,_,rfl,_,_,rfl,rfl,?_⟩;refine⟨_,rfl,_,rfl,r,_,_,_,rfl,rfl,s7.tup v1,rfl,d,_,rfl,hg,.inl ⟨rfl,_,aH.of an⟩,_,rfl,pn.2,_,_,rfl,rfl,an,bM (by rw [au];omega),?_⟩;have S8:=S7.more yh (i:Int);refine⟨_,_,rfl,λb o hb=>by rw [aj (λz=>by rw [z,Oz pn yh] at hb;cases hb)];exact s7 b o hb,S8.hd,S8.n1,S8.n2,λp' nZ=>?_⟩;have:=S8.lst p' nZ;rw [this]
  congr 3
  unfold B9;rw [CQ];by_cases c:p'.1=pn.1
  .rw [ax c,ax];unfold Oh;rw [sP,c,zc];simp
  rw [ay c,ay,iR];unfold Oh;rw [sP];intro z;have z2:=cZ z;injection z2 with z3;exact c (by rw [zc];exact z3.symm)
 rintro σ H6 ⟨y2,y3,rfl,s6,S6⟩;rw [au,ll] at S6;exact⟨_,rfl,q d ps H6 y_ s6 S6 m4 Oz⟩
def Km (K:ba):Sp:=λvs H Q _=>∃(R:Addr)(rs:List Addr)(aa:List ar),vs=[.ref R]/\aH K H R (rs.map V.ref)/\bK K H rs aa/\aa.length<=1000/\(∀ru∈aa,ru.2.length<=8) /\
 ∀(d:Addr)(H':Hp),H d=none->aA H H'->Q (.ref d) H'
structure Ej (H0 H:Hp)(d:Addr)(kvs:List (aR×V)) (n:Nat):Prop where
 hd:H d=some (.dK kvs)
 ln:kvs.length<=n
 lst:∀kv∈kvs,∃a xs,kv.2=.ref a/\H a=some (.lst xs)/\H0 a=none/\xs.length<=n
def Ej.same {H0 H H':Hp}{d:Addr}{kvs:List (aR×V)}{n:Nat}(h:Ej H0 H d kvs n)(s:aA H H'):Ej H0 H' d kvs n:=⟨s _ _ h.hd,h.ln,λkv hk=>let ⟨a,xs,e1,e2,e3,e4⟩:=h.lst kv hk;⟨a,xs,e1,s _ _ e2,e3,e4⟩⟩
def Ej.more {H0 H:Hp}{d a:Addr}{kvs:List (aR×V)}{n:Nat}{xs:List V}{y:V}(h:Ej H0 H d kvs (n+1))(ha:H a=some (.lst xs))(lx:xs.length<=n)(l2:∀kv∈kvs,∃a xs,kv.2=.ref a/\H a=some (.lst xs)/\H0 a=none/\xs.length<=n):Ej H0 (upd H a (.lst (xs++[y]))) d kvs (n+1):=by
 have nd:d≠a:=λz=>by have:=h.hd;rw [z,ha] at this;cases this
 refine⟨by rw [aj nd];exact h.hd,h.ln,λkv hk=>?_⟩;obtain⟨b,ys,e1,e2,e3,e4⟩:=l2 kv hk;by_cases c:b=a
 .exact⟨b,xs++[y],e1,by rw [c,ae],e3,by rw [a9];simp;omega⟩
 exact⟨b,ys,e1,by rw [aj c];exact e2,e3,∅⟩
def Lz {kvs:List (aR×V)}{k:aR}{v:V}(h:bw kvs k=some v):∃kv∈kvs,kv.2=v:=by
 unfold bw at h;obtain⟨kv,e1,e2⟩:=cC.mp h;exact⟨kv,List.mem_of_find?_eq_some e1,e2⟩
def um:aK ["rules","standings","number","rule","place","part"] ["rules"] (av LS):=iM rfl rfl rfl rfl (by decide +kernel)
def Ms (F:iB K "standings_by_part" "standings_by_part" LS f fd)(T:Txt mg):bR P w K mg base gk 1 f fd ["rules"] (Km K):=by
 refine F.ok um (λvs H Q E h=>?_) (λeX A outer s H vs Q E hr h=>?_)
 .obtain⟨R,rs,aa,rfl,_⟩:=h;rfl
 obtain⟨R,rs,aa,rfl,hR,cy,bE,h8,q⟩:=h;have hu:=gh hr;refine⟨_,ai (az (i:=1) um.nd rfl (bC rfl) g8)
  (ai (bL cg rfl (nQ rfl T.JS (ab (pv 0) ag)) (g7 rfl (aB (aq (i:=2) um.nd rfl (bC rfl)) (aB (aq (i:=3) um.nd rfl (bC rfl)) b_)))
   (ak (bL cg rfl (nP rfl T.JS (ab (aL aZ (pv 3) ao (λ_ _=>rfl)) ag)) (g7 rfl (aB (aq (i:=4) um.nd rfl (bC rfl)) (aB (aq (i:=5) um.nd rfl (bC rfl)) b_)))
    (ak (cI (g9 gF gW gX bU (Fq (pv 1) (pv 5) (a_ ag) ⟨rfl,rfl,rfl,rfl⟩) (ab (bo (ab (pv 2) (ab (pv 4) ag))) ag)))))))
  (ak (aN (pv 1)))),?_⟩
 nofun
 have ll:=aU cy;intro d tN;have s1:=af tN (.dK []);have S1:Ej H (upd H d (.dK [])) d [] (8 * 0):=⟨ae,aF _,λkv hk=>by cases hk⟩;generalize upd H d (.dK [])=H1 at s1 S1;refine⟨_,rfl,R,_,rfl,s1.seq hR,?_⟩;refine k0 (xs:=rs.map V.ref) (λi σ H6=>∃(kvs:List (aR×V))(y2 y3 y4 y5:Option V),σ=[aM R,aM d,y2,y3,y4,y5]/\aA H H6/\Ej H H6 d kvs (8 * i)) ⟨[],none,none,none,none,rfl,s1,S1⟩ ?_ ?_ ?_
 .rintro i σ H6 _ ⟨kvs,y2,y3,y4,y5,rfl,s6,_⟩;exact s6.seq hR
 .rintro i x σ H6 t ex ⟨kvs,y2,y3,y4,y5,rfl,s6,S6⟩ ht
  ac_nf0
  rw [bz] at ex;obtain⟨r,er,rfl⟩:=cC.mp ex;obtain⟨ru,sP,p,v1,v2⟩:=cy.get er;have lP:=b9 sP;have Ow:=h8 ru lP;have li:=(bu.mp sP).1;have uq:=af ht (.tup [.int (i:Int),.ref r]);have K2:aS K (upd H6 t (.tup [.int (i:Int),.ref r])) t [.int (i:Int),.ref r]:=aS.of ae;have s7:=s6.trans uq;have S7:=S6.same uq;generalize upd H6 t (.tup [.int (i:Int),.ref r])=H7 at K2 s7 S7;refine⟨t,_,rfl,K2,rfl,_,_,rfl,_,_,rfl,rfl,?_⟩;refine⟨_,rfl,r,_,_,_,rfl,rfl,s7.tup v1,rfl,p,_,rfl,s7.tup v2,?_⟩;refine pE (xs:=ru.2.map V.str) (λj σ H9=>∃(kvs:List (aR×V))(y4 y5:Option V),σ=[aM R,aM d,some (.int (i:Int)),aM r,y4,y5]/\aA H H9/\Ej H H9 d kvs (8 * i+j)) ⟨kvs,_,_,rfl,s7,S7⟩ ?_ ?_ ?_
  .rintro j σ H9 _ ⟨kvs,y4,y5,rfl,s9,_⟩;exact s9.tup v2
  .rintro j x σ H9 t2 pF ⟨kvs,y4,y5,rfl,s9,S9⟩ jl
   ac_nf0
   rw [bz] at pF;obtain⟨z,ez,rfl⟩:=cC.mp pF;have lj:=(bu.mp ez).1;have xH:=af jl (.tup [.int (j:Int),.str z]);have Gp:aS K (upd H9 t2 (.tup [.int (j:Int),.str z])) t2 [.int (j:Int),.str z]:=aS.of ae;have wb:=s9.trans xH;have Ls:=S9.same xH;generalize upd H9 t2 (.tup [.int (j:Int),.str z])=A1 at Gp wb Ls;refine⟨t2,_,rfl,Gp,rfl,_,_,rfl,_,_,rfl,rfl,?_⟩;have lk:=Ls.ln;refine⟨_,rfl,d,rfl,.inl ⟨kvs,.inl Ls.hd⟩,_,rfl,rq,λl hl=>?_⟩;have Jb:=af hl (.lst []);have Ir:upd A1 l (.lst []) l=some (.lst []):=ae;have fl:H l=none:=wb.free hl;have El:=Ls.same Jb;have sA:=wb.trans Jb;generalize upd A1 l (.lst [])=DX at Jb Ir El sA;have fin:∀(a:Addr)(xs:List V)(mH:List (aR×V))(yK:Hp),yK a=some (.lst xs)->H a=none->xs.length<=8 * i+j->Ej H yK d mH (8 * i+j+1)->(∀kv∈mH,∃a xs,kv.2=.ref a/\yK a=some (.lst xs)/\H a=none/\xs.length<=8 * i+j)->aA H yK ->
     ∀t4,yK t4=none->xs.length < sizeLine/\∃(kvs:List (aR×V))(y4 y5:Option V),[some (V.ref R),aM d,some (.int (i:Int)),aM r,some (.int (j:Int)),some (.str z)]=[aM R,aM d,some (.int (i:Int)),aM r,y4,y5]/\aA H (upd (upd yK t4 (.tup [.int (i:Int),.int (j:Int)])) a (.lst (xs++[.ref t4])))/\Ej H (upd (upd yK t4 (.tup [.int (i:Int),.int (j:Int)])) a (.lst (xs++[.ref t4]))) d kvs (8 * i+(j+1)) :=
    λa xs mH yK ea fa lx Iz Ea Kv t4 C6=>by
     have zS:=af C6 (.tup [.int (i:Int),.int (j:Int)]);refine⟨bM ∅,mH,_,_,rfl,λb o hb=>by rw [aj (λz=>by rw [z,fa] at hb;cases hb)];exact zS _ _ (Kv b o hb),?_⟩;exact(Iz.same zS).more (zS _ _ ea) lx λkv hk=>let ⟨b,ys,e1,e2,e3,e4⟩:=Ea kv hk;⟨b,ys,e1,zS _ _ e2,e3,e4⟩
   refine⟨kvs,Sum.inr z,El.hd,rfl,bM ∅,λv hv=>?_,λhn=>?_⟩
   .obtain⟨kv,hk,ek⟩:=Lz hv;obtain⟨a,xs,e1,e2,e3,e4⟩:=El.lst kv hk;rw [e1] at ek;subst ek;refine⟨.inl ⟨rfl,_,aH.of e2⟩,_,rfl,_,rfl,iP,λt4 C6=>?_⟩;obtain⟨g1,g2⟩:=fin a xs kvs DX e2 e3 e4 ⟨El.hd,∅,λkv hk=>let ⟨b,ys,e1,e2,e3,e4⟩:=El.lst kv hk;⟨b,ys,e1,e2,e3,∅⟩⟩ El.lst sA t4 C6;exact⟨a,_,_,rfl,rfl,af C6 _ _ _ e2,g1,g2⟩
   have nd:d≠l:=λz=>by have:=El.hd;rw [z,Ir] at this;cases this
   have Lg:upd DX d (.dK (bT kvs (Sum.inr z) (.ref l))) l=some (.lst []):=by rw [aj nd.symm];exact Ir
   have y_:H d=none:=tN;have Kv:aA H (upd DX d (.dK (bT kvs (Sum.inr z) (.ref l)))):=λb o hb=>by rw [aj (λz=>by rw [z,y_] at hb;cases hb)];exact sA b o hb
   have Ea:∀kv∈bT kvs (Sum.inr z) (.ref l),∃a xs,kv.2=.ref a/\upd DX d (.dK (bT kvs (Sum.inr z) (.ref l))) a=some (.lst xs)/\H a=none/\xs.length<=8 * i+j:=λkv hk=>by
    rw [xM _ hn] at hk;rcases bQ.mp hk with h | h
    .obtain⟨b,ys,e1,e2,e3,e4⟩:=El.lst kv h;exact⟨b,ys,e1,by rw [aj (λz=>by rw [z,El.hd] at e2;cases e2)];exact e2,e3,e4⟩
    rw [bF.mp h];exact⟨l,[],rfl,Lg,fl,by simp⟩
   have lp:=gb kvs (Sum.inr z:aR) (.ref l);have Iz:Ej H (upd DX d (.dK (bT kvs (Sum.inr z) (.ref l)))) d (bT kvs (Sum.inr z) (.ref l)) (8 * i+j+1):=⟨ae,∅,λkv hk=>let ⟨b,ys,e1,e2,e3,e4⟩:=Ea kv hk;⟨b,ys,e1,e2,e3,∅⟩⟩;generalize upd DX d (.dK (bT kvs (Sum.inr z) (.ref l)))=yK at Lg Kv Ea Iz;refine⟨.inl ⟨rfl,_,aH.of Lg⟩,_,rfl,_,rfl,iP,λt4 C6=>?_⟩;obtain⟨g1,g2⟩:=fin l [] _ yK Lg fl (by simp) Iz Ea Kv t4 C6;exact⟨l,_,_,rfl,rfl,af C6 _ _ _ Lg,g1,g2⟩
  rintro σ H9 ⟨kvs,y4,y5,rfl,s9,S9⟩;rw [au] at S9;refine⟨kvs,_,_,_,_,rfl,s9,S9.hd,by have:=S9.ln;omega,λkv hk=>let ⟨b,ys,e1,e2,e3,e4⟩:=S9.lst kv hk;⟨b,ys,e1,e2,e3,∅⟩⟩
 rintro σ H6 ⟨kvs,y2,y3,y4,y5,rfl,s6,S6⟩;exact⟨_,rfl,q d H6 tN s6⟩
end
end hU
namespace L2
open PySem PySem.Spec PyProof.Rows
open PySem
def gJ {X:Cx}(K:ba)(hK:X.K=K:=by rfl):jG X (compareOp .In) (Se K false):=by
 subst hK;exact lG
def DY (K:ba)(H:Hp):Nat->V->V->Prop
 | 0,x,y=>x=y/\wY x
 | n+1,x,y=>(x=y/\wY x)\/∃a b xs ys,x=.ref a/\y=.ref b/\((aH K H a xs/\aH K H b ys)\/(aS K H a xs/\aS K H b ys))/\Paired (DY K H n) xs ys
def DY.self {K:ba}{H:Hp}{x:V}(h:wY x):∀n,DY K H n x x
 | 0=>⟨rfl,h⟩
 | _+1=>.inl ⟨rfl,h⟩
def jF {A:Around}{s:Shared}{F:V->V->Prop}{xs ys:List V}{aT dF:List Value}(r:bf xs aT)(r2:bf ys dF)(p:Paired F xs ys)(hF:∀x y u v,F x y->RelV x u->RelV y v->SeqAt.EqAt A s u v true) (j:Nat)(h1:j < aT.toArray.size)(h2:j < dF.toArray.size) :
  SeqAt.EqAt A s aT.toArray[j] dF.toArray[j] true:=by
 have l1:=r.length;have l2:=r2.length;have k1:j < aT.length:=by simpa using h1
 have k2:j < dF.length:=by simpa using h2
 have g2:ys[j]?=some (ys[j]'∅):=dG ∅;obtain⟨x,g1,fx⟩:=Paired.at_ p j _ g2;obtain⟨u1,e1,q1⟩:=r.get g1;obtain⟨u2,e2,q2⟩:=r2.get g2;have f1:aT.toArray[j]=u1:=by
  have:=(bu.mp e1).2;simpa using this
 have f2:dF.toArray[j]=u2:=by
  have:=(bu.mp e2).2;simpa using this
 rw [f1,f2];exact hF _ _ _ _ fx q1 q2
theorem sV {X:Cx}{ah:List (Addr×Obj)}{σ:St}{H:Hp}{s:Shared}(I:Inv X ah σ H s):∀(n:Nat)(A:Around)(x y:V)(u v:Value),DY X.K H n x y->RelV x u->RelV y v->A.units+n < cLine->SeqAt.EqAt A s u v true
 | 0,A,x,y,u,v,⟨e,h⟩,ru,rv,_=>by subst e;exact sQ h ru rv
 | n+1,A,x,y,u,v,.inl ⟨e,h⟩,ru,rv,_=>by subst e;exact sQ h ru rv
 | n+1,A,x,y,u,v,.inr ⟨a,b,xs,ys,ex,ey,hs,p⟩,ru,rv,hu=>by
  subst ex;subst ey;cases (show u=Value.ref a from ru);cases (show v=Value.ref b from rv);by_cases e:a=b
  .subst e;exact .same _
  refine .of_refs e ?_;have lp:=aU p;rcases hs with ⟨ha,hb⟩ | ⟨ha,hb⟩
  .obtain⟨aT,r,pl,_⟩:=I.list ha;obtain⟨dF,r2,uw,_⟩:=I.list hb;have l1:=r.length;have l2:=r2.length;have q:=SeqAt.RcAt.lists (A:=A) (s:=s) (e:=λ_=>true) pl.isList uw.isList (by simp only [bX];omega) ∅ (λj h1 h2=>jF r r2 p (λx y u v d r1 r2=>sV I n A.in1 x y u v d r1 r2 (by rw [mn];omega)) j h1 h2);have e:((List.range aT.toArray.size).all λ_=>true)=true:=by simp
   rw [e] at q;exact q
  obtain⟨aT,r,pl,_⟩:=I.tuple ha;obtain⟨dF,r2,uw,_⟩:=I.tuple hb;have l1:=r.length;have l2:=r2.length;have q:=SeqAt.RcAt.tuples (A:=A) (s:=s) (e:=λ_=>true) pl uw ∅ (λj h1 h2=>jF r r2 p (λx y u v d r1 r2=>sV I n A.in1 x y u v d r1 r2 (by rw [mn];omega)) j h1 h2);have e1:((List.range (min aT.toArray.size dF.toArray.size)).all (λ_=>true) && aT.toArray.size == dF.toArray.size)=true:=by
   have:aT.toArray.size=dF.toArray.size:=by simp only [bX];omega
   rw [this];simp
  rw [e1] at q;exact q
def PD (K:ba)(b:Bool) (n:Nat):V->V->Hp->VK->Prop:=λx y H Q=>∃p q xs ys,x=.ref p/\y=.ref q/\aH K H p xs/\aH K H q ys/\Paired (DY K H n) xs ys/\Q (.bl b) H
section
variable {prog:Program}{w:World}{A:Around}{E:Value->Shared->Prop}{s:Shared}
abbrev HR (h:Heap)(z:Addr)(f0 f1:Value)(TI TO:Addr):Prop:=h.get? z=some { cls:=.type "zip",data:=.fields #[f0,f1,.bool false,.ref TI,.ref TO] }
end
structure Xy (h:Heap)(z TI TO i1 i2 l1 l2:Addr)(xs ys:Array Value) (i:Nat):Prop where
 hz:∃f0 f1,HR h z f0 f1 TI TO/\(f0=.none\/∃T:Nat,f0=rawInt T)
 hI:IsPair h TI (.ref i1) (.ref i2)
 hO:∃a b,IsPair h TO a b
 h1:h.IsTupleIter i1 l1 i
 h2:h.IsTupleIter i2 l2 i
 t1:h.IsTuple l1 xs
 t2:h.IsTuple l2 ys
def xr {h h':Heap}{l:Addr}{xs:Array Value}(t:h.IsTuple l xs)(k:∀o,h.get? l=some o->h'.get? l=some o):h'.IsTuple l xs:=by
 obtain⟨o,a,b,c⟩:=t;exact⟨o,k o a,b,c⟩
def u9 (h:Heap) (N:Nat)(xs ys bV:Array Value):Prop:=∃Ts:List Nat,bV.toList=Ts.map Value.ref/\Ts.Pairwise (· < ·)/\∀(j T:Nat),Ts[j]?=some T->N<=T/\∃x y:Value,IsPair h T x y/\xs[j]?=some x/\ys[j]?=some y
def u9.keep {h h':Heap}{N:Nat}{xs ys bV:Array Value}(a:u9 h N xs ys bV)(k:∀(T:Nat) o,N<=T->h.get? T=some o->h'.get? T=some o):u9 h' N xs ys bV:=by
 obtain⟨Ts,e1,e2,e3⟩:=a;refine⟨Ts,e1,e2,λj T hj=>?_⟩;obtain⟨l,x,y,p,q⟩:=e3 j T hj;exact⟨l,x,y,k T _ l p,q⟩
def u9.more {h:Heap}{N T0:Nat}{xs ys bV:Array Value}{x y:Value}(a:u9 h N xs ys bV)(lt:∀(Ts:List Nat),bV.toList=Ts.map Value.ref->∀T∈Ts,T < T0)(hN:N<=T0)(p:IsPair h T0 x y)(hx:xs[bV.size]?=some x)(hy:ys[bV.size]?=some y):u9 h N xs ys (bV.push (.ref T0)):=by
 obtain⟨Ts,e1,e2,e3⟩:=a;have el:Ts.length=bV.size:=by
  have:=congrArg List.length e1;rw [au] at this;rw [<-this];simp
 refine⟨Ts++[T0],by rw [Array.toList_push,e1,bG];rfl,List.pairwise_append.mpr ⟨e2,by simp,λT hT b hb=>by rw [bF.mp hb];exact lt Ts e1 T hT⟩,λj T hj=>?_⟩;by_cases c:j < Ts.length
 .rw [pS c] at hj;exact e3 j T hj
 rw [mY ∅] at hj;have c2:j - Ts.length=0:=by
  have:=(bu.mp hj).1;simp at this;omega
 rw [c2] at hj;cases hj;have:j=bV.size:=by omega
 rw [this];exact⟨hN,x,y,p,hx,hy⟩
def Xy.keep {h h':Heap}{z TI TO i1 i2 l1 l2:Addr}{xs ys:Array Value}{i:Nat}(st:Xy h z TI TO i1 i2 l1 l2 xs ys i)(k:∀b o,h.get? b=some o->h'.get? b=some o):Xy h' z TI TO i1 i2 l1 l2 xs ys i:=by
 obtain⟨⟨f0,f1,a,b⟩,hI,⟨c,d,hO⟩,h1,h2,t1,t2⟩:=st;exact⟨⟨f0,f1,k _ _ a,b⟩,k _ _ hI,⟨c,d,k _ _ hO⟩,h1.at λo q=>k _ _ q,h2.at λo q=>k _ _ q,xr t1 λo q=>k _ _ q,xr t2 λo q=>k _ _ q⟩
end L2
namespace HT
open PySem PyProof.Rows
section
variable {prog:Program}{w:World}{A:Around}{E:Value->Shared->Prop}{s:Shared}
def zW (n:Nat):Builtin.Slice.slicePlaces ((n:Int) - 1) (-1) (-1)=n:=by
 unfold Builtin.Slice.slicePlaces;have h1:¬((-1:Int) > 0):=by omega
 simp only [h1,if_false,Int.neg_neg,Int.ediv_one]
 split <;> omega
def Fm (xs:Array Value):((List.range xs.size).filterMap λ(k:Nat)=>xs[((xs.size:Int) - 1+(k:Int) * (-1)).toNat]?).toArray=xs.toList.reverse.toArray:=by
 have e:=PySem.W.krv_pick xs;unfold slicePick at e;rw [PySem.W.krv_bounds,PySem.W.krv_sliceRange,List.filterMap_map] at e;rw [<-e];have key:∀l:List Nat,(∀k∈l,k < xs.size)->(l.filterMap λ(k:Nat)=>xs[((xs.size:Int) - 1+(k:Int) * (-1)).toNat]?)=l.filterMap ((λx=>xs[x]?) ∘ λk=>xs.size - 1 - k):=by
  intro l
  induction l with
  | nil=>exact λ_=>rfl
  | cons k r ih =>
   intro h;have hk:=h k cH;have e2:((xs.size:Int) - 1+(k:Int) * (-1)).toNat=xs.size - 1 - k:=by omega
   rw [rh,rh,ih λm hm=>h m (dA _ hm),e2];rfl
 rw [key _ λk hk=>pN.mp hk]
def o7 {sl:Addr}{n:Nat}{u:Tok}{Q:Int×Int×Nat->Shared->Prop}(hs:s.heap.IsSliceOf sl .none .none (.int (-1) u))(h:Q ((n:Int) - 1,-1,n) s):wpAny (model prog w) A (Builtin.Slice.sliceApplied (.ref sl) (pure (n:Int))) Q E s:=by
 obtain⟨os,C9,GA,Ii⟩:=id hs;unfold Builtin.Slice.sliceApplied Builtin.Slice.sliceFields;refine aE (aE (iF C9 Ii (x:=.none) rfl (aE (iF C9 Ii (x:=.none) rfl (aE (iF C9 Ii (x:=.int (-1) u) rfl (aP ?_)))))));refine aE (slicePart_int ?_);show wpAny _ _ (if ((-1:Int) == 0)=true then _ else _) _ _ s;rw [ay (by decide)];refine aE (slicePart_none (aE (slicePart_none (aE (aP ?_)))));show wpAny _ _ (pure ((n:Int) - 1,(-1:Int),Builtin.Slice.slicePlaces ((n:Int) - 1) (-1) (-1))) _ _ s;rw [zW];exact aP h
def oh {t sl:Addr}{items:Array Value}{u:Tok}{Q:Value->Shared->Prop}(ht:IsTup s.heap t items)(hs:s.heap.IsSliceOf sl .none .none (.int (-1) u))
  (h:Q (.ref s.heap.objs.size) { s with heap:=s.heap.push { cls:=.type "tuple",data:=.seq items.toList.reverse.toArray } })(hsz:items.size<=sizeLine):wpAny (model prog w) A (getItem (.ref t) (.ref sl)) Q E s:=by
 have nY:sizeOk (.seq items.toList.reverse.toArray):=by
  show items.toList.reverse.toArray.size<=sizeLine;rw [bX,qM,rg];exact hsz
 obtain⟨os,C9,GA,Ii⟩:=id hs;have QZ:s.TypeIs (.ref sl) "slice" := ⟨os,C9,GA⟩;unfold getItem
 try with_reducible refine jM ?_
 first | refine aE (aP ?_) | skip
 refine aE (wpAny_sequenceKey ht.typeIs (by decide) ?_);refine aE (qO (name:=Str.ofString "__getitem__") ht.typeIs mZ
  (mr mZ ht.typeIs entry_tuple_getitem ?_ (args_tuple_getitem _ _)))
 show wpAny _ _ (Builtin.Tuple.tupleItemsOf (.ref t) >>= _) _ _ s;refine aE (tupleItemsOf_ ht ?_);refine aE (lS QZ ?_);rw [ax (by decide)];refine aE (o7 hs ?_);show wpAny _ _ (if (((items.size:Int) - 1 == 0) && ((-1:Int) == 1) && (items.size == items.size))=true then _ else _) _ _ s;rw [ay (by simp),Fm]
 first
  | exact aE (m:=Builtin.Tuple.tupleExact _) (jq (aP ⟨_,rfl,aP h⟩) nY)
  | exact aE (m:=Builtin.Tuple.tupleExact _) (jq (aE (aP (aP ⟨_,rfl,aP h⟩))) nY)
  | exact aE (aE (m:=Builtin.Tuple.tupleExact _) (jq (aP (aP ⟨_,rfl,aP h⟩)) nY))
  | exact aE (aE (m:=Builtin.Tuple.tupleExact _) (jq (aP ⟨_,rfl,aP h⟩) nY))
end
end HT
namespace L2
open PySem PySem.Spec PyProof.Rows
theorem Paired.Fc {α β:Type}{F:α->β->Prop}:∀{a:List α}{c:List β},Paired F a c->Paired F a.reverse c.reverse
 | _,_,.nil=>.nil
 | _,_,.cons h t=>by rw [qK,qK];exact hZ (Paired.Fc t) h
def TQ (K:ba)(te:TE):TE:=λσ H Q=>te σ H λx H1=>∃a xs,x=.ref a/\aS K H1 a xs/\∀p,H1 p=none->Q (.ref p) (upd H1 p (.tup xs.reverse))
def Mj {X:Cx}{e:Expr}{te:TE}{p2 pos pu pc:Pos}(he:PE X e te):PE X (.Subscript e (.Slice none none (some (.UnaryOp .USub (.Constant (.int 1) 0 pc) pu)) p2) pos) (TQ X.K te):=by
 intro ah s σ H Q I h;refine Subscript_ (cQ (he ah s σ H _ I h) λv s1 ⟨x,H1,I1,r1,q1⟩=>?_);obtain⟨a,xs,rfl,hx,q⟩:=q1;cases (show v=Value.ref a from r1);refine wpAny_Slice ?_;rw [evalPart_none];refine aP (aP ?_);have hs:PO X (some (.UnaryOp .USub (.Constant (.int 1) 0 pc) pu)) _:=bS (ka iD ao);refine cQ (hs ah s1 σ H1 (λl H'=>l=some (-1)/\H'=H1) I1 ⟨_,rfl,_,rfl,rfl,rfl⟩) λvst s2 ⟨l,H2,I2,pl,q2⟩=>?_;obtain⟨rfl,rfl⟩:=q2;cases pl with
 | int i u =>
  have I3:Inv X ah σ H2 { s2 with heap:=s2.heap.push { cls:=.type "slice",data:=.fields #[.none,.none,.int (-1) u] } }:=I2.kept (t':=s2.toks) λb ob q=>cu _ q;obtain⟨aT,r,ht,hz⟩:=I3.tuple hx;have bE:=r.length;refine tail_any (T := "tuple") (ops:=[.ref a,.ref s2.heap.objs.size]) ht.typeIs mZ.lookup ?_ (by with_unfolding_all rfl);refine HT.oh ht (Heap.IsSliceOf.new ..) ?_ (by rw [bX];omega);refine⟨.ref _,_,I3.laid (t':=s2.toks) (o:=.tup xs.reverse) (λb ob q=>cu _ q) (aF _) ?_,rfl,q _ (I3.cw.fresh (aF _))⟩;exact⟨by rw [qM];exact hz,aT.reverse,Paired.Fc r,IsTup.new _ _⟩
open PySem
section
variable {prog:Program}{w:World}{A:Around}{E:Value->Shared->Prop}{s:Shared}
end
structure ZTn (h:Heap)(z TI TO i1 i2 l1 l2:Addr) (i:Nat):Prop where
 hz:∃f0 f1,HR h z f0 f1 TI TO/\(f0=.none\/∃T:Nat,f0=rawInt T)
 hI:IsPair h TI (.ref i1) (.ref i2)
 hO:∃a b,IsPair h TO a b
 h1:h.IsTupleIter i1 l1 i
 h2:h.IsTupleIter i2 l2 i
end L2
namespace HT
open PySem PySem.Spec PyProof.Rows
section
variable {prog:Program}{w:World}{A:Around}{E:Value->Shared->Prop}{s:Shared}
def oj {t sl:Addr}{items:Array Value}{vl vu:Value}{lo hi:Option Int}{Q:Value->Shared->Prop}(ht:IsTup s.heap t items)(hs:s.heap.IsSliceOf sl vl vu .none)(pl:IsPart vl lo)(pu:IsPart vu hi)
  (hw:gy items.size 0 lo=0/\gy items.size items.size hi=items.size)(h:Q (.ref t) s):wpAny (model prog w) A (getItem (.ref t) (.ref sl)) Q E s:=by
 obtain⟨os,C9,GA,Ii⟩:=id hs;have QZ:s.TypeIs (.ref sl) "slice" := ⟨os,C9,GA⟩;unfold getItem
 try with_reducible refine jM ?_
 first | refine aE (aP ?_) | skip
 refine aE (wpAny_sequenceKey ht.typeIs (by decide) ?_);refine aE (qO (name:=Str.ofString "__getitem__") ht.typeIs mZ
  (mr mZ ht.typeIs entry_tuple_getitem ?_ (args_tuple_getitem _ _)))
 show wpAny _ _ (Builtin.Tuple.tupleItemsOf (.ref t) >>= _) _ _ s;refine aE (tupleItemsOf_ ht ?_);refine aE (lS QZ ?_);rw [ax (by decide)];refine aE (ju hs pl pu ?_);have Vm:(((gy items.size 0 lo:Nat):Int) == 0 && (1:Int) == 1 && (gy items.size items.size hi - gy items.size 0 lo) == items.size)=true:=by
  rw [hw.1,hw.2];simp
 show wpAny _ _ (if (((gy items.size 0 lo:Nat):Int) == 0 && (1:Int) == 1 && (gy items.size items.size hi - gy items.size 0 lo) == items.size)=true then _ else _) _ _ s;rw [ax Vm];refine aE ?_;unfold Builtin.Tuple.tupleIsExact;refine aE (lS ht.typeIs (aP ?_));rw [ax (by decide)];refine aE (wpAny_rule ?_);exact aP ⟨_,rfl,aP h⟩
end
end HT
namespace L2
open PySem PySem.Spec PyProof.Rows
def Py (K:ba):V->Option Int->Option Int->Hp->VK->Prop:=λx lo hi H Q=>∃a xs,x=.ref a/\aS K H a xs/\∀p H',aA H H'->aS K H' p (d8 xs lo hi)->Q (.ref p) H'
def qy {X:Cx}:Lr X (Py X.K):=by
 intro ah s σ H x v vl vu lo hi sl Q I rx hs pl pu h;obtain⟨a,xs,rfl,hx,q⟩:=h;by_cases hw:HT.gy xs.length 0 lo=0/\HT.gy xs.length xs.length hi=xs.length
 .have ec:d8 xs lo hi=xs:=by
   unfold d8;rw [hw.1,hw.2,mj,jL,cE]
  cases rx;obtain⟨aT,r,ht,hz⟩:=I.tuple hx;have bE:aT.toArray.size=xs.length:=by rw [bX];exact r.length.symm
  refine⟨"tuple",_,mZ.lookup,ht.typeIs,?_⟩;exact HT.oj ht hs pl pu (by rw [bE];exact hw) ⟨.ref a,H,I,rfl,q a H (λ_ _ h=>h) (by rw [ec];exact hx)⟩
 exact LN ah s σ H _ v vl vu lo hi sl Q I rx hs pl pu ⟨a,xs,rfl,hx,hw,λp hp=>q p _ (af hp _) (aS.of ae)⟩
def PH (K:ba):R2:=λx y H Q=>∃a b xs ys,x=.ref a/\y=.ref b/\aS K H a xs/\aS K H b ys/\xs.length+ys.length<=sizeLine/\∀p H',aA H H'->aS K H' p (xs++ys)->Q (.ref p) H'
def wk {X:Cx}:jG X (binaryOp .Add) (PH X.K):=by
 intro ah s σ H x y v u Q I rx ry h;obtain⟨a,b,xs,ys,rfl,rfl,ha,hb,hz,q⟩:=h;by_cases hx:xs=[]
 .cases rx;cases ry;obtain⟨aT,r1,p1,_⟩:=I.tuple ha;obtain⟨dF,r2,p2,_⟩:=I.tuple hb;have e1:aT=[]:=r1.qB.mpr hx;obtain⟨⟨cls,dd,data,sl⟩,ho,hc,n,hd⟩:=id p1;obtain⟨⟨W_,OJ,data2,R7⟩,Ig,JM,n2,hd2⟩:=id p2;simp only at hc hd JM hd2;subst hc hd JM hd2;exact concat_meets ⟨_,ho,rfl⟩ ⟨_,Ig,rfl⟩ noFill_tuple_add seq_tuple_add zg zi (zk _ _)
   (tuple_addW0 a b aT.toArray dF.toArray n n2 dd OJ sl R7 (by simp [e1])) ⟨ho,Ig,.ref b,H,I,rfl,q b H (λ_ _ h=>h) (by rw [hx];exact hb)⟩
 refine Jo ah s σ H _ _ v u Q I rx ry ⟨a,b,xs,ys,rfl,rfl,ha,hb,hx,hz,λe=>q a H (λ_ _ h=>h) (by rw [e,iR];exact ha),λ_ p hp=>q p _ (af hp _) (aS.of ae)⟩
theorem lt_trans:∀a b c:List Nat,ltCps b a=false->ltCps c b=false->ltCps c a=false
 | [],b,[],_,_=>ltCps.eq_1
 | [],b,_::_,_,_=>ltCps.eq_3 _ _
 | x::r,[],c,h,_=>by rw [ltCps.eq_2] at h;cases h
 | x::r,y::t,[],_,k=>by rw [ltCps.eq_2] at k;cases k
 | x::r,y::t,z::u,h,k=>by
  rw [ltCps.eq_4,Bool.or_eq_false_iff,decide_eq_false_iff_not] at h k ⊢;refine⟨∅,?_⟩;by_cases e:z=x
  .have e1:y=x:=by omega
   subst e;subst e1;have h2:=h.2;have k2:=k.2;rw [oT,jn] at h2 k2 ⊢;exact lt_trans r t u h2 k2
  rw [kC.mpr e,qT]
def Fe (x:Str):Nat->Str
 | 0=>Str.empty
 | 1=>x
 | _=>x++x
def Jn {X:Cx}:jG X (binaryOp .Mult) (λa b H Q=>∃x n,a=.str x/\b=.int ((n:Nat):Int)/\n<=2/\x.length=1/\Q (.str (Fe x n)) H):=by
 intro ah s σ H a b v u Q I ra rb h;obtain⟨x,n,rfl,rfl,hn,hx,q⟩:=h;obtain⟨t,rfl⟩:=ra;obtain⟨t2,rfl⟩:=rb
 match n,hn,q with
 | 0,_,q=>exact PySem.P.mul_str_none (by decide) (by decide) ⟨.str Str.empty,H,I.tok _,⟨_,rfl⟩,q⟩
 | 1,_,q =>
  refine PySem.P.mul_str (by decide) (λ_ h=>by simp at h) (λ_ h=>by simp at h) ?_;rw [ay (by decide),ax (by rfl)];exact⟨.str x,H,I,⟨_,rfl⟩,q⟩
 | 2,_,q =>
  refine PySem.P.mul_str (by decide) (λ_ _=>by rw [hx];decide) (λ_ _=>by rw [hx];decide) ?_;rw [ay (by decide),ay (by rw [hx];decide)];have le:(Str.mk (#[]++x.cps++x.cps)).length<=sizeLine:=by
   show (#[]++x.cps++x.cps).size<=sizeLine;rw [Array.empty_append,Array.size_append];have:x.cps.size=1:=hx;rw [this];decide
  refine⟨le,⟨.str (x++x),H,I.tok _,⟨s.toks,?_⟩,q⟩⟩;show Value.str ⟨#[]++x.cps++x.cps⟩ _=Value.str ⟨x.cps++x.cps⟩ _;rw [Array.empty_append]
section
variable {prog:Program}{w:World}{A:Around}{E:Value->Shared->Prop}{s:Shared}
end
def O4 (K:ba)(te:TE):TE:=λσ H Q=>te σ H λx H1=>∃a xs,x=.ref a/\aH K H1 a xs/\∀p,H1 p=none->Q (.ref p) (upd H1 p (.lst xs.reverse))
def Jg {X:Cx}{e:Expr}{te:TE}{p2 pos pu pc:Pos}(he:PE X e te):PE X (.Subscript e (.Slice none none (some (.UnaryOp .USub (.Constant (.int 1) 0 pc) pu)) p2) pos) (O4 X.K te):=by
 intro ah s σ H Q I h;refine Subscript_ (cQ (he ah s σ H _ I h) λv s1 ⟨x,H1,I1,r1,q1⟩=>?_);obtain⟨a,xs,rfl,hx,q⟩:=q1;cases (show v=Value.ref a from r1);refine wpAny_Slice ?_;rw [evalPart_none];refine aP (aP ?_);have hs:PO X (some (.UnaryOp .USub (.Constant (.int 1) 0 pc) pu)) _:=bS (ka iD ao);refine cQ (hs ah s1 σ H1 (λl H'=>l=some (-1)/\H'=H1) I1 ⟨_,rfl,_,rfl,rfl,rfl⟩) λvst s2 ⟨l,H2,I2,pl,q2⟩=>?_;obtain⟨rfl,rfl⟩:=q2;cases pl with
 | int i u =>
  have I3:Inv X ah σ H2 { s2 with heap:=s2.heap.push { cls:=.type "slice",data:=.fields #[.none,.none,.int (-1) u] } }:=I2.kept (t':=s2.toks) λb ob q=>cu _ q;obtain⟨aT,r,ht,hz⟩:=I3.list hx;have bE:=r.length;refine tail_any (T := "list") (ops:=[.ref a,.ref s2.heap.objs.size]) ht.isList.typeIs slot_list_getitem.lookup ?_ (by with_unfolding_all rfl);refine wpAny_getItem_list_slice ht.isList (Heap.IsSliceOf.new ..) .none .none (.int (-1) u) (by simp) ?_ (by rw [bX];omega);rw [PySem.W.krv_pick];refine⟨.ref _,_,I3.laid (t':=s2.toks) (o:=.lst xs.reverse) (λb ob q=>cu _ q) (aF _) ?_,rfl,q _ (I3.cw.fresh (aF _))⟩;exact⟨by rw [qM];exact hz,aT.reverse,0,Paired.Fc r,dZ _ rfl⟩
open PySem PySem.W PyProof.Rows
section
variable {n:Nat}{lt:Nat->Nat->Bool}{cmp:Nat->Nat->(Bool->Shared->Prop)->Shared->Prop}{s:Shared}
structure Kc (n:Nat)(lt:Nat->Nat->Bool):Prop where
 trans:∀a b c,a < n->b < n->c < n->lt b a=false->lt c b=false->lt c a=false
 Xw:∀a b,a < n->b < n->lt a b=true->lt b a=false
structure OP (n:Nat)(p:Array Nat):Prop where
 pm:p.Perm (List.range n).toArray
theorem OP.size {p:Array Nat}(h:OP n p):p.size=n:=by
 have:=h.pm.size_eq;simpa using this
def OP.KY {p:Array Nat}(h:OP n p){i:Nat}(hi:i < n):p.getD i 0 < n:=by
 have hs:=h.size;have e:p.getD i 0=p[i]'∅:=by simp [Array.getD,hs,hi]
 rw [e];have:p[i]'∅∈(List.range n).toArray:=h.pm.mem_iff.mp (Array.getElem_mem _);simpa using this
abbrev at_ (p:Array Nat) (i:Nat):Nat:=p.getD i 0
def NW (lt:Nat->Nat->Bool)(p:Array Nat) (k:Nat):Prop:=∀i j,i<=j->j < k->lt (at_ p j) (at_ p i)=false
def N0 (lt:Nat->Nat->Bool)(p:Array Nat) (k:Nat):Prop:=∀i j,i<=j->j < k->lt (at_ p i) (at_ p j)=false
def Kc.YX (o:Kc n lt){a:Nat}(h:a < n):lt a a=false:=by
 cases e:lt a a with
 | false=>rfl
 | true=>rw [<-o.Xw a a h h e,e]
def NW.more {p:Array Nat}{m:Nat}(o:Kc n lt)(P:OP n p)(h:NW lt p m)(hm:1<=m)(hn:m < n)(c:lt (at_ p m) (at_ p (m - 1))=false):NW lt p (m+1):=by
 intro i j JK hj;by_cases e:j=m
 .subst e;by_cases e2:i=j
  .subst e2;exact o.YX (P.KY hn)
  exact o.trans _ (at_ p (j - 1)) _ (P.KY ∅) (P.KY ∅) (P.KY hn) (h i (j - 1) ∅ ∅) c
 exact h i j JK ∅
def N0.more {p:Array Nat}{m:Nat}(o:Kc n lt)(P:OP n p)(h:N0 lt p m)(hm:1<=m)(hn:m < n)(c:lt (at_ p (m - 1)) (at_ p m)=false):N0 lt p (m+1):=by
 intro i j JK hj;by_cases e:j=m
 .subst e;by_cases e2:i=j
  .subst e2;exact o.YX (P.KY hn)
  exact o.trans _ (at_ p (j - 1)) _ (P.KY hn) (P.KY ∅) (P.KY ∅) c (h i (j - 1) ∅ ∅)
 exact h i j JK ∅
end
def Inv.fh {X:Cx}{ah:List (Addr×Obj)}{σ:St}{H:Hp}{s:Shared}{h':Heap}{a:Addr}{o:HO}{t':Nat}(I:Inv X ah σ H s)(k:∀b u,b≠X.env.locals->s.heap.get? b=some u->h'.get? b=some u)
  (ns:∀m,s.heap.Ns X.env.locals m->h'.Ns X.env.locals m)(hp:s.heap.get? a=none)(hn:H a=none)(new:cR X.prog X.w (upd H a o) h' a o):Inv X ah σ (upd H a o) { s with heap:=h',toks:=t' }:=by
 have ne:∀b u,s.heap.get? b=some u->b≠a:=λb u q z=>by rw [z,hp] at q;cases q
 refine I.step (g':=s.gens) (d':=s.drawn) (ch:=[]) (λ_ z=>nomatch z) (λb u hb _ _ e _=>k b u hb e) (λb u hb _ _ e _=>⟨u.slots,k b u hb e⟩) (λb u _ e n=>by rw [aj (ne b u e)];exact n)
  (λb u _ e=>?_) (λb xs q=>by rw [aj (aw q hn)];exact q) (λb u xs q=>by rw [aj (aw q hn)];exact q) (λb ps q=>⟨#[],by rw [aj (aw q hn),q];simp⟩) ns (λb u e=>?_) I.bare
 .by_cases hb:b=X.env.locals
  .obtain⟨m,hm,_⟩:=I.loc;obtain⟨o',_,_,C_,_⟩:=ns m hm;exact⟨o',by rw [hb];exact C_⟩
  exact⟨u,k b u hb e⟩
 by_cases hb:b=a
 .subst hb;rw [ae] at e;cases e;exact new
 rw [aj hb] at e;refine(I.cw b u e).kO (λc v hc q=>k c v ?_ q) (λc q=>by rw [aj (aw q hn)];exact q) λc xs q=>by rw [aj (aw q hn)];exact q
 rintro rfl;rcases hc with rfl | hc
 .rw [I.free] at e;cases e
 rw [I.free] at hc;cases hc
def FD {P:Program}{w:World}{H:Hp}{h:Heap}{a:Addr}{o:HO}(x:cR P w H h a o):∃u,h.get? a=some u:=by
 cases o with
 | lst xs=>obtain⟨_,_,_,_,e⟩:=x;exact⟨_,e⟩
 | tup xs=>obtain⟨_,_,_,ob,e,_⟩:=x;exact⟨_,e⟩
 | dK kvs=>obtain⟨_,_,_,_,o,_,_,e,_⟩:=x;exact⟨_,e⟩
 | dT kvs=>obtain⟨_,_,_,_,o,_,_,e,_⟩:=x;exact⟨_,e⟩
 | set S n=>obtain⟨o,_,_,_,e,_⟩:=x;exact⟨_,e⟩
 | ins C dx fs=>obtain⟨_,_,_,e,_⟩:=x;exact⟨_,e⟩
 | own y=>obtain⟨_,e⟩:=x;exact⟨_,e⟩
 | xd fs=>obtain⟨_,⟨_,_,_,e,_⟩,_⟩:=x;exact⟨_,e⟩
 | Cw lo hi=>obtain⟨_,_,_,e⟩:=x;exact⟨_,e⟩
 | kn ob u=>obtain⟨e,_⟩:=x;exact⟨_,e⟩
 | tL ps=>exact⟨_,(show h.get? a=some _ from x)⟩
 | met f y=>exact⟨_,(show h.get? a=some _ from x)⟩
 | ext φ=>obtain⟨_,⟨_,e⟩,_⟩:=x;exact⟨_,e⟩
open PySem PySem.Spec PyProof.Rows PySem.W
section
variable {P:Program}{w:World}{A:Around}{E:Value->Shared->Prop}{s:Shared}
def Gh {f c' c d:Addr}{q:Str}{params:Arguments}{scope:Scope}{cl:List (Str×Addr)}{pm gU:Value}{p1 p2 p3:Pos}{xs xh:Str}{vs:List (aR×Value)}{z:Str}{t:Tok}{u:Value}{oc:Obj}{Q:Value->Shared->Prop}
  (QC:A.depth < recursionLimit)(nl:s.heap.NoLimit)(hf:s.heap.get? f=some (kla_obj "<lambda>" q params (.Subscript (.Name xs p1) (.Name xh p2) p3) scope cl pm c' gU))(hc:s.heap.CodeRec (.ref c') q)
  (hb:∀us:List Value,us.length=1->bindArgs (kla_fn "<lambda>" q params (.Subscript (.Name xs p1) (.Name xh p2) p3) scope cl pm (.ref c') gU) ⟨us,[]⟩=pure ([xh].zip us))
  (hk:scope.kind=.function)(V3:scope.isCoroutine=false)(M3:scope.isGenerator=false)(VL:∀x∈scope.names,x.2≠.cell)(hh:scope.names.lookup xh=some .local)(hs:scope.names.lookup xs=some .free)
  (pC:cl.lookup xs=some c)(ho:s.heap.get? c=some oc)(yW:oc.data=.cell (some (.ref d)))(dd:s.heap.DictOf (bA P w) d vs)(hv:valueAt vs (Sum.inr z)=some u)
  (d1:(xs == ("__debug__":Str))=false)(d2:(xh == ("__debug__":Str))=false)(d3:(xs == ("__classdict__":Str))=false)
  (h:∀h' tk,(∀b o,s.heap.get? b=some o->h'.get? b=some o)->Q u { s with heap:=h',toks:=tk }):wpAny (model P w) A (call (.ref f) [.str z t]) Q E s:=by
 refine wpAny_call (kla_callFunE QC hf rfl V3 M3 rfl hc ?_);rw [hb [.str z t] rfl];refine aP (wpAny_newFunctionEnv VL (λx hx=>?_) (λh₁ xf Y7=>⟨nl.fresh _ Y7,?_⟩) hk)
 .have:x=(xh,Value.str z t):=by simpa using hx
  rw [this];exact hh
 show codeAny _ _ (.expr (.Subscript (.Name xs p1) (.Name xh p2) p3) (envX q scope s.heap.objs.size f (.ref c') cl)) _ _;have k1:∀b o,s.heap.get? b=some o->h₁.get? b=some o:=λb o e=>Y7.extBut b o (cv (bN e)) (cu _ e);refine kla_codeExpr (A_ PySem.F.slot_dict_getitem.lookup (λ_ _=>rfl) ?_);refine wpAny_Name (wpAny_loadName_free hk hs pC ⟨oc,k1 _ _ ho,yW⟩ ?_ d3) d1;refine wpAny_Name (vk hk hh xf (show ([(xh,Value.str z t)]:List (Str×Value)).reverse.lookup xh=some (.str z t) by simp [List.lookup]) ?_) d2;have dd1:h₁.DictOf (bA P w) d vs:=by
  obtain⟨o,es,ep,g,r⟩:=dd;exact⟨o,es,ep,k1 _ _ g,r⟩
 refine⟨dd1.typeIs,wpAny_getItem_of (l7 (k:=Sum.inr z) ⟨t,rfl⟩) dd1.mapOf hv ?_⟩;exact h h₁ _ k1
end
section
variable {X:Cx}{params:Arguments}{body:Expr}{scope:Scope}{pos:Pos}{c T:Addr}
abbrev i_ (X:Cx)(params:Arguments)(body:Expr)(scope:Scope)(cl:List (Str×Addr))(c':Addr)(gU:Value):Obj:=kla_obj "<lambda>" (X.env.qual ++ "<lambda>") params body scope cl ((X.mg "__name__").getD .none) c' gU
def Pb (X:Cx)(params:Arguments)(body:Expr)(scope:Scope)(pos:Pos)(T:Addr):TE:=λσ H Q=>Tab T pos (X.env.qual ++ "<lambda>") H /\
 ∀f c' gU cl H',Ke X.env scope cl->cW T H H'->Tab T pos (X.env.qual ++ "<lambda>") H'->H f=none->H' f=some (pj f (i_ X params body scope cl c' gU))->H' c'=some (kc c' (X.env.qual ++ "<lambda>"))->Q (.ref f) H'
def Ji (sj:X.env.code=.ref c)(hC:codeHdIn X.K c T=true)(hB:tJ X.mg X.base)(n6:∀y,(y,NameKind.free)∈scope.names->X.env.scope.names.lookup y=some .cell)(Gz:defaultsOf params X.env=([],[]):=by rfl):PE X (.Lambda params body scope pos) (Pb X params body scope pos T):=by
 intro ah s σ H Q I h;obtain⟨⟨ps,hT,ht,GI⟩,q⟩:=h;refine kla_eval Gz ?_;obtain⟨cl,pC⟩:=wR (env:=X.env) (scope:=scope) λy hy=>I.ok.has y (.inl (n6 y hy));have Nc:s.heap.get? T=some (tabObj ps):=(show cR X.prog X.w H s.heap T (.tL ps) from I.cw T _ hT);have hg:=I.mod.glob.keeps I.bk;have C:=codeHd_of_K I.wC hC;obtain⟨bm,ob,b1,b2,b3,b4,b5,b6,b7⟩:=hB;have Xn:=I.bk _ _ b4;have US:bm≠T:=λz=>by
  have:=(I.bs _ _ b4).2;rw [z,hT] at this;cases this
 have UP:mainGlobals≠T:=λz=>by
  obtain⟨o,es,ep,e,d,_⟩:=hg;rw [z,Nc] at e;cases e;cases d
 have Q4:s.heap.BuiltinsAt X.mg T:=⟨bm,ob,b1,b2,b3,US,Xn,b5,b6,b7⟩;have HX:∀b v,H b=some v->b < s.heap.objs.size:=λb v e=>I.cw.lt e;rcases GI with QL | ⟨c',hf,lQ⟩
 .refine kla_makeFunction pC.eq I.ok.glob hg sj C Nc ht QL UP Q4 λc' gU h' tk hx M4 kj Gq Qx=>?_;have hcr:∃oc,h'.get? c'=some oc:=by
   obtain⟨c2,oc,vs,t,e,yW,_⟩:=Gq;cases e;exact⟨oc,yW⟩
  have sf:h'.objs.size > s.heap.objs.size:=q_ M4 kj;have keep:∀b o,b≠T->s.heap.get? b=some o->(h'.push (i_ X params body scope cl c' gU)).get? b=some o:=λb o n e=>cu _ (hx b o n e)
  let H':Hp:=upd (upd (upd H T (.tL (ps++#[rawInt pos.line,rawInt pos.col,.ref c']))) c' (kc c' (X.env.qual ++ "<lambda>"))) h'.objs.size (pj h'.objs.size (i_ X params body scope cl c' gU))
  have Aj:∀b v,H b=some v->b≠c'/\b≠h'.objs.size:=λb v e=>⟨cv (gL (HX b v e) M4),cv (mi (HX b v e) sf)⟩;have UR:c'≠h'.objs.size:=cv kj;have P4:=Aj T _ hT;have eT:H' T=some (.tL (ps++#[rawInt pos.line,rawInt pos.col,.ref c'])):=by
   show upd (upd (upd H T _) c' _) h'.objs.size _ T=_;rw [aj P4.2,aj P4.1,ae]
  have ec:H' c'=some (kc c' (X.env.qual ++ "<lambda>")):=by
   show upd (upd (upd H T _) c' _) h'.objs.size _ c'=_;rw [aj UR,ae]
  have ef:H' h'.objs.size=some (pj h'.objs.size (i_ X params body scope cl c' gU)):=ae;have eo:∀b,b≠T->b≠c'->b≠h'.objs.size->H' b=H b:=λb n1 n2 n3=>by
   show upd (upd (upd H T _) c' _) h'.objs.size _ b=_;rw [aj n3,aj n2,aj n1]
  have sT:cW T H H':=λb o n e=>by rw [eo b n (Aj b o e).1 (Aj b o e).2];exact e
  have I2:Inv X ah σ H' { s with heap:=h'.push (i_ X params body scope cl c' gU),toks:=tk }:=by
   refine I.call (g':=s.gens) (t':=tk) (d':=s.drawn) (ch:=[]) ⟨λb o e n _ _=>keep b o (λz=>by rw [z,hT] at n;cases n) e,λb o e n _ _=>⟨o.slots,keep b o (λz=>by rw [z,hT] at n;cases n) e⟩,λb o e n _=>?_,λb o e _=>?_,λb xs e=>?_,λb o u e=>?_,λb Bz e=>?_⟩ (λb v e=>?_) I.bare (λb hb=>nomatch hb)
   .have lb:=bN e;rw [eo b (λz=>by rw [z,hT] at n;cases n) (cv (gL lb M4)) (cv (mi lb sf))];exact n
   .by_cases z:b=T
    .exact⟨_,by rw [z];exact cu _ Qx⟩
    exact⟨o,keep b o z e⟩
   .exact sT b _ (λz=>by rw [z,hT] at e;cases e) e
   .exact sT b _ (λz=>by rw [z,hT] at e;cases e) e
   .by_cases z:b=T
    .subst z;rw [hT] at e;cases e;exact⟨_,eT⟩
    exact⟨#[],by rw [Array.append_empty];exact sT b _ z e⟩
   by_cases z1:b=h'.objs.size
   .subst z1;rw [ef] at e;cases e;exact qD (dZ _ rfl)
   by_cases z2:b=c'
   .subst z2;rw [ec] at e;cases e;refine yC ?_;obtain⟨c2,oc,vs,t,e',yW,hd,hv⟩:=Gq;cases e';exact⟨_,oc,vs,t,rfl,cu _ yW,hd,hv⟩
   by_cases z3:b=T
   .subst z3;rw [eT] at e;cases e;exact cu _ Qx
   rw [eo b z3 z2 z1] at e;refine(I.cw b v e).kO (λd o Dg e'=>?_) (λd e'=>sT d _ (λz=>by rw [z,hT] at e';cases e') e') λd ys e'=>sT d _ (λz=>by rw [z,hT] at e';cases e') e';rcases Dg with rfl | Dg
   .exact keep d o z3 e'
   exact keep d o (λz=>by rw [z,hT] at Dg;cases Dg) e'
  have fresh:H h'.objs.size=none:=I.cw.fresh (kI sf);exact⟨.ref h'.objs.size,H',I2,rfl,q _ c' gU cl H' pC sT ⟨_,eT,by rw [vm];exact jN _ ht,.inr ⟨c',by rw [vm];exact codeAmong_snoc _ ht QL,ec⟩⟩ fresh ef ec⟩
 refine kla_makeFunctionHit pC.eq I.ok.glob hg sj C Nc ht hf Q4 λgU h' tk hk hsz=>?_;have keep:∀b o,s.heap.get? b=some o->(h'.push (i_ X params body scope cl c' gU)).get? b=some o:=λb o e=>cu _ (hk b o e);have fresh:H h'.objs.size=none:=I.cw.fresh hsz;refine⟨.ref h'.objs.size,_,I.laid (a:=h'.objs.size) (o:=pj h'.objs.size (i_ X params body scope cl c' gU)) (t':=tk) keep hsz (qD (dZ _ rfl)),rfl,?_⟩;refine q _ c' gU cl _ pC (λb o _ e=>by rw [aj (aw e fresh)];exact e) ⟨ps,by rw [aj (aw hT fresh)];exact hT,ht,.inr ⟨c',hf,by rw [aj (aw lQ fresh)];exact lQ⟩⟩ fresh ae (by rw [aj (aw lQ fresh)];exact lQ)
end
theorem Ba:∀{zs:List Str}{aT:List Value},bf (zs.map V.str) aT->∀(i:Nat)(v:Value),aT[i]?=some v->∃z t,zs[i]?=some z/\v=.str z t
 | [],[],_,i,v,h=>by simp at h
 | z::r,u::aT,h,i,v,hi=>by
  cases h with
  | cons a b =>
   cases i with
   | zero =>
    cases hi;obtain⟨t,e⟩:=(show ∃t,u=Value.str z t from a);exact⟨z,t,rfl,e⟩
   | succ i=>exact Ba b i v hi
theorem uf:∀(ps:List (Str×Tok)),bf ((ps.map (·.1)).map V.str) (ps.map λp=>Value.str p.1 p.2)
 | []=>.nil
 | p::r=>.cons ⟨p.2,rfl⟩ (uf r)
theorem ug:∀{zs:List Str}{aT:List Value},bf (zs.map V.str) aT->∃ps:List (Str×Tok),ps.map (·.1)=zs/\aT=ps.map λp=>Value.str p.1 p.2
 | [],[],_=>⟨[],rfl,rfl⟩
 | z::r,u::aT,h=>by
  cases h with
  | cons a b =>
   obtain⟨t,e⟩:=(show ∃t,u=Value.str z t from a);obtain⟨ps,e1,e2⟩:=ug b;exact⟨(z,t)::ps,by rw [cO,e1],by rw [cO,e2,e]⟩
def zY {α β:Type}{f:α->β}{l m:List β}(h:l.Perm m):∀ps:List α,m=ps.map f->∃qs:List α,l=qs.map f/\qs.Perm ps:=by
 induction h with
 | nil =>
  intro ps e;cases ps with
  | nil=>exact⟨[],rfl,.nil⟩
  | cons p r=>cases e
 | cons x h ih =>
  intro ps e;cases ps with
  | nil=>cases e
  | cons p r =>
   rw [cO] at e;injection e with e1 e2;obtain⟨qs,a,b⟩:=ih r e2;exact⟨p::qs,by rw [cO,a,e1],b.cons p⟩
 | swap x y l =>
  intro ps e
  match ps,e with
  | [],e=>cases e
  | [_],e=>cases e
  | p::p2::r,e =>
   rw [cO,cO] at e;injection e with e1 e2;injection e2 with e3 e4;exact⟨p2::p::r,by rw [cO,cO,e1,e3,e4],.swap p p2 r⟩
 | trans h1 h2 i1 i2 =>
  intro ps e;obtain⟨qs,a,b⟩:=i2 ps e;obtain⟨rs,c,d⟩:=i1 qs a;exact⟨rs,c,d.trans b⟩
def Fv {g:Str->Int}{ps:List (Str×Tok)}{out:List Value}(h:KskOut false ((ps.map (·.1)).map g) (ps.map λp=>Value.str p.1 p.2) out) :
  ∃qs:List (Str×Tok),out=qs.map (λp=>Value.str p.1 p.2)/\(qs.map (·.1)).Perm (ps.map (·.1))/\(qs.map (·.1)).Pairwise λx y=>g x<=g y:=by
 obtain⟨rs,h1,h2,h3⟩:=h;have ez:((ps.map (·.1)).map g).zip (ps.map λp=>Value.str p.1 p.2)=ps.map λp=>(g p.1,Value.str p.1 p.2):=by
  rw [jm,List.zip_map,List.zip_eq_zipWith]
  induction ps with
  | nil=>rfl
  | cons p r ih=>simp_all
 rw [ez] at h1;obtain⟨qs,q1,q2⟩:∃qs:List (Str×Tok),rs=qs.map (λp=>(g p.1,Value.str p.1 p.2))/\qs.Perm ps:=by
  exact zY h1 ps rfl
 subst q1;refine⟨qs,by rw [h2,jm];rfl,q2.map _,?_⟩;rw [List.pairwise_map] at h3 ⊢;exact h3.imp λh=>by simpa using h
section
variable {X:Cx}{i:Nat}{xs xh:Str}{params:Arguments}{scope:Scope}{p pos yd kp p1 p2 p3:Pos}{e:Expr}{ta:TA}{c T:Addr}{k:Nat}
abbrev B6 (xs xh:Str)(p1 p2 p3:Pos):Expr:=.Subscript (.Name xs p1) (.Name xh p2) p3
def LF (X:Cx) (i:Nat)(yd:Pos)(T:Addr)(ta:TA):TE:=λσ H Q=>ta σ H λvs H1=>Tab T yd (X.env.qual ++ "<lambda>") H1/\∃(a:Addr) (zs:List Str)(d:Addr)(kvs:List (aR×V))(g:Str->Int),vs=[.ref a]/\aH X.K H1 a (zs.map V.str)/\zs.length < 64/\σ[i]?=some (some (.ref d))/\Rd H1 d (.dK kvs) /\
 (∀z∈zs,bw kvs (Sum.inr z)=some (.int (g z)))/\∀(l:Addr) (Lw:List Str)(H':Hp),cW T H1 H'->Tab T yd (X.env.qual ++ "<lambda>") H'->H1 l=none->Lw.Perm zs->Lw.Pairwise (λx y=>g x<=g y)->H' l=some (.lst (Lw.map V.str))->Q (.ref l) H'
def Fo (hr:fX (k+1) X.A)(sj:X.env.code=.ref c)(hC:codeHdIn X.K c T=true)(hB:tJ X.mg X.base)(hg:Gl X "sorted")(hm:X.mg "sorted"=none)(ha:PA X [e] ta)
  (hN:X.N[i]?=some xs)(hx:X.env.scope.names.lookup xs=some .cell)(n6:∀y,(y,NameKind.free)∈scope.names->X.env.scope.names.lookup y=some .cell)
  (hb:∀(q:Str)(cl:List (Str×Addr))(pm gU:Value)(c':Addr)(us:List Value),us.length=1->bindArgs (kla_fn "<lambda>" q params (B6 xs xh p1 p2 p3) scope cl pm (.ref c') gU) ⟨us,[]⟩=pure ([xh].zip us))
  (hk:scope.kind=.function)(V3:scope.isCoroutine=false)(M3:scope.isGenerator=false)(VL:∀x∈scope.names,x.2≠.cell)(hh:scope.names.lookup xh=some .local)(hs:scope.names.lookup xs=some .free)
  (d1:(xs == ("__debug__":Str))=false:=by decide)(d2:(xh == ("__debug__":Str))=false:=by decide)(d3:(xs == ("__classdict__":Str))=false:=by decide)
  (Gz:defaultsOf params X.env=([],[]):=by rfl)
  (he:backTo pos (starEach [e] X.env)=(false,eval e X.env)::backTo pos (starEach [] X.env):=by rfl)(hp:(backTo pos (starEach [e] X.env)).any (·.1)=false:=by rfl) :
  PE X (.Call (.Name "sorted" p) [e] [⟨some "key",.Lambda params (B6 xs xh p1 p2 p3) scope yd,kp⟩] pos) (LF X i yd T ta):=by
 intro ah s σ H Q I h;refine qL (jV I hg hm boot_sorted ?_);refine callWith_kw (cQ (ha pos ah s σ H _ I h) λus s1 ⟨vs,H1,I1,r1,JN,a,zs,d,kvs,g,ev,hq,h64,hσ,hd,hv,q1⟩=>?_) he hp rfl rfl;subst ev;have low:=Ji (X:=X) (params:=params) (body:=B6 xs xh p1 p2 p3) (scope:=scope) (pos:=yd) (c:=c) (T:=T) sj hC hB n6 Gz ah s1 σ H1
  (λfv H2=>∃f c' gU cl,fv=.ref f/\Ke X.env scope cl/\cW T H1 H2/\Tab T yd (X.env.qual ++ "<lambda>") H2/\H2 f=some (pj f (i_ X params (B6 xs xh p1 p2 p3) scope cl c' gU))/\H2 c'=some (kc c' (X.env.qual ++ "<lambda>"))) I1
  ⟨JN,λf c' gU cl H' a1 a2 a3 a4 a5 a6=>⟨f,c',gU,cl,rfl,a1,a2,a3,a5,a6⟩⟩
 refine kws_cons (cQ low λu2 s2 ⟨fv,H2,I2,r2,f,c',gU,cl,ef,pC,st,SI,hf,lQ⟩=>kws_nil ?_);subst ef;cases (show u2=Value.ref f from r2);obtain⟨u,rfl,rx⟩:=vals1 r1;cases (show u=Value.ref a from rx);obtain⟨pt,eT,_⟩:=id JN;have hq2:aH X.K H2 a (zs.map V.str):=by
  rcases hq with (h | ⟨o,h⟩) | h
  .exact .inl (.inl (st _ _ (λz=>by rw [z,eT] at h;cases h) h))
  .exact .inl (.inr ⟨o,st _ _ (λz=>by rw [z,eT] at h;cases h) h⟩)
  exact .inr h
 have hd2:Rd H2 d (.dK kvs):=by
  rcases hd with h | ⟨o,h⟩
  .exact .inl (st _ _ (λz=>by rw [z,eT] at h;cases h) h)
  exact .inr ⟨o,st _ _ (λz=>by rw [z,eT] at h;cases h) h⟩
 obtain⟨aT,rv,pl,hz⟩:=I2.list hq2;obtain⟨pzs,ez,ei⟩:=ug rv;have uw:=pl.isList;obtain⟨oa,ga,ca,na,da⟩:=id uw;obtain⟨m,xf,lk⟩:=id I2.loc;have Jy:∀b o,H2 b=some o->b≠X.env.locals:=λb o hb z=>by rw [z,I2.free] at hb;cases hb
 have PV:d≠X.env.locals:=by
  rcases hd2 with h | ⟨o,h⟩
  .exact Jy d _ h
  exact Jy d _ h
 have neA:a≠X.env.locals:=λz=>by
  obtain⟨o,es,ep,ho,BP,_⟩:=xf;rw [<-z,ga] at ho;cases ho;rw [da] at BP;cases BP
 obtain⟨ud,rd,lkd⟩:=lk i xs (.ref d) hN hσ (.inr (.inl hx));cases (show ud=Value.ref d from rd);obtain⟨cc,ecc,oc,QJ,QI⟩:∃cc,X.env.cells.lookup xs=some cc/\s2.heap.IsCell cc (some (.ref d)):=by
  rcases lkd with ⟨l,_⟩ | ⟨_,c2,e2,h2⟩
  .have l':X.env.scope.names.lookup xs=some .local:=l;rw [hx] at l';cases l'
  exact⟨c2,e2,h2⟩
 obtain⟨cc',ZQ⟩:=pC.all xs (wq hs);have e3:=pC.sub _ _ ZQ;rw [ecc] at e3;cases e3;have Oc:cc≠X.env.locals:=λz=>by
  obtain⟨o,es,ep,ho,BP,_⟩:=xf;rw [<-z,QJ] at ho;cases ho;rw [QI] at BP;cases BP
 obtain⟨gf,_⟩:=I2.cw f _ hf;obtain⟨gc,_⟩:=I2.cw c' _ lQ;obtain⟨zl,C7,dvs,rel,dd⟩:=ow I2.cw hd2;obtain⟨m0,F0⟩:=I2.fr;refine ksk_sorted (kz:=zs.map g) (f:=.ref f) (b:=false) (vs:=aT) (h₀:=IC.rV s2.heap) (L:=X.env.locals) (m:=m) (news:=(a,oa)::IC.ledger s2.heap X.env.locals a) (IC.Nm xf) (IC.x_ neA ga) uw (by rw [au,<-rv.length,au]) (by rw [<-rv.length,au];exact h64)
  (ksk_s1 _ _) (λx=>ksk_l1 _ _) (λx=>ksk_t1 f x) (λj v kk hj Ze oE tk own F N=>?_) λD h' tk out cnt F' N' lt' ko=>?_
 .obtain⟨z,t,SQ,rfl⟩:=Ba rv j v hj;rw [bz,SQ] at Ze;cases Ze;have keep:∀b u,b≠X.env.locals->s2.heap.get? b=some u->oE.get? b=some u:=λb u nb hb=>by
   by_cases e:b=a
   .subst e;rw [ga] at hb;cases hb;exact(N (b,oa) (by simp)).1
   exact(N (b,u) (h_ _ (dA _ (IC.jT.mpr ⟨nb,e,hb⟩)))).1
  have hvz:=hv z (b9 SQ);obtain⟨w',hw,zT⟩:=j4.some_of (v:=.int (g z)) (o:=valueAt dvs (Sum.inr z)) (by rw [<-hvz];exact rel.val (Sum.inr z));obtain⟨tw,rfl⟩:=(show ∃t,w'=Value.int (g z) t from zT);have OJ:oE.DictOf (bA X.prog X.w) d dvs:=by
   obtain⟨o,es,ep,g1,r⟩:=dd;exact⟨o,es,ep,keep _ _ PV g1,r⟩
  have gc2:oE.CodeRec (.ref c') (X.env.qual ++ "<lambda>"):=by
   obtain⟨c2,oc2,Kh,t2,e2,yW,ji,Oi⟩:=gc;cases e2;exact⟨_,oc2,Kh,t2,rfl,keep _ _ (Jy c' _ lQ) yW,ji,Oi⟩
  have nl:oE.NoLimit:=I2.mod.nolimit.keeps λb o e=>keep b o (cv (gL (bN e) F0.above)) (I2.bk b o e);exact Gh (s:={ s2 with heap:=oE,toks:=tk }) (A:=X.A.in1.in1) hr.depth nl (keep _ _ (Jy f _ hf) gf) gc2 (λus hl=>hb _ _ _ _ _ us hl) hk V3 M3 VL hh hs ZQ (keep _ _ Oc QJ) QI OJ hw d1 d2 d3
   λh3 tk3 YM=>KskEnd.intro (F.kept YM) (N.grown YM) λp hp=>hp
 have keep:∀b u,b≠X.env.locals->s2.heap.get? b=some u->h'.get? b=some u:=λb u nb hb=>by
  by_cases e:b=a
  .subst e;rw [ga] at hb;cases hb;exact(N' (b,oa) (by simp)).1
  exact(N' (b,u) (dA _ (dA _ (IC.jT.mpr ⟨nb,e,hb⟩)))).1
 have hD:s2.heap.get? D=none:=by
  cases e:s2.heap.get? D with
  | none=>rfl
  | some o =>
   exfalso;have nD:D≠X.env.locals:=(N' (D,_) cH).2.1;by_cases ea:D=a
   .have:=lt' (a,oa) cH;rw [ea] at this;exact absurd this (kK _)
   exact absurd (lt' (D,o) (dA _ (IC.jT.mpr ⟨nD,ea,e⟩))) (kK _)
 have fD:H2 D=none:=by
  cases e:H2 D with
  | none=>rfl
  | some u =>
   obtain⟨ob,g⟩:=FD (I2.cw D u e);rw [hD] at g;cases g
 have fD1:H1 D=none:=by
  cases e:H1 D with
  | none=>rfl
  | some u =>
   by_cases z:D=T
   .obtain⟨pt2,eT2,_⟩:=SI;rw [z,eT2] at fD;cases fD
   rw [st _ _ z e] at fD;cases fD
 rw [ei,<-ez] at ko;obtain⟨qs,eo,pe,ps⟩:=Fv ko;rw [ez] at pe;have gD:=(N' (D,_) cH).1;have lq:qs.length=zs.length:=by have:=pe.length_eq;rw [au] at this;exact this
 have sl:=af fD (.lst ((qs.map (·.1)).map V.str));refine⟨.ref D,_,I2.fh (t':=tk) keep (λm' hm=>?_) hD fD (show cR X.prog X.w _ _ _ (.lst ((qs.map (·.1)).map V.str)) from ⟨by rw [au,au];exact fits ∅,qs.map (λp=>Value.str p.1 p.2),cnt,uf qs,by rw [<-eo];simpa using gD⟩),rfl,q1 D (qs.map (·.1)) _ (λb o n hb=>sl _ _ (st b o n hb)) ?_ fD1 pe ps ae⟩
 .have:=F'.ns;have e:m'=m:=by
   obtain⟨o,es,ep,ho,BP,_,hf⟩:=hm;obtain⟨o2,es2,Rg,Ig,QU,_,QP⟩:=xf;rw [ho] at Ig;cases Ig;rw [BP] at QU;cases QU
   funext x
   rw [<-hf x,<-QP x]
  rw [e];exact this
 obtain⟨Sg,b1,b2,b3⟩:=SI;exact⟨Sg,sl _ _ b1,b2,b3.imp id λ⟨c3,e3,g3⟩=>⟨c3,e3,sl _ _ g3⟩⟩
end
open PySem M11
def AO {K:ba}{H:Hp}{p D d:Addr}{zs:List Str}{kvs:List (aR×V)}{g:G}{σ:St}{js:List (Nat×Str)}{Qp:Hp->Prop}(hσ:eU ["part"] js σ=[none,aM d])(hp:aS K H p (zs.map V.str))(hz:zs.length<=1000)
  (hd:Rd H d (.dK kvs))(hv:∀z,bw kvs (Sum.inr z)=(g z).map V.int)(ha:∀z∈zs,(g z).isSome=true)(hD:H D=none)(q:∀H2,aA H H2->H2 D=some (.lst ((zs.map λz=>(g z).getD 0).map V.int))->Qp H2) :
  ∃W:Nat->Nat->List V->St->Hp->Prop,(∃m,W 0 m [] (eU ["part"] js σ) (upd H D (.lst []))) /\
 ∀i m ys σ' H,W i m ys σ' H->((oC K p).stop i H/\Qp H)\/((oC K p).go i H/\∃m',m' < m/\∀x H',(oC K p).mP i H x H'->dN 0 x σ' H' λσ2 H2=>iu σ2 H2 λb H3 =>
  if b=true then A7 (gS 1) (gS 0) σ2 H3 λy H4=>H4 D=some (.lst ys)/\ys.length < sizeLine/\W (i+1) m' (ys++[y]) σ2 (upd H4 D (.lst (ys++[y]))) else W (i+1) m' ys σ2 H3):=by
 refine gQ (xs:=zs.map V.str) (λi ys σ2 H2=>ys=(((zs.take i).map λz=>(g z).getD 0).map V.int)/\(∃y0,σ2=[y0,aM d])/\aA H H2/\H2 D=some (.lst ys))
  ⟨rfl,⟨none,hσ⟩,af hD _,ae⟩ (λi ys σ2 H2 _ h=>h.2.2.1.tup hp) (λi x ys σ2 H2 ex h=>?_) (λys σ2 H2 h=>?_)
 .obtain⟨rfl,⟨y0,rfl⟩,sm,hd2⟩:=h;rw [bz] at ex;obtain⟨z,ez,rfl⟩:=cC.mp ex;have li:=(bu.mp ez).1;obtain⟨n,en⟩:=lX.mp (ha z (b9 ez));have hg:cq H2 d (.str z) (some (.int n)):=by
   have:=cq.r (k:=Sum.inr z) (hU.Rd.same hd sm);rw [hv,en] at this;exact this
  refine goN (yl ?_);refine⟨_,rfl,_,rfl,d,_,rfl,hg,hd2,bM (by rw [au,au,bO];omega),?_,⟨_,rfl⟩,?_,ae⟩
  .rw [cP,ez,bG,bG];show _=_++[V.int ((g z).getD 0)];rw [en];rfl
  intro b o hb;rw [aj (λz=>by rw [z,hD] at hb;cases hb)];exact sm b o hb
 obtain⟨rfl,_,sm,hd2⟩:=h;rw [au,cE] at hd2;exact q H2 sm hd2
end L2
namespace hU
open PySem L2 M11
section
def rE (K:ba):Sp:=λvs H Q _=>∃(d r:Addr)(kvs:List (aR×V))(g:G)(ru:ar),vs=[.ref d,.ref r]/\Rd H d (.dK kvs)/\(∀z,bw kvs (Sum.inr z)=(g z).map V.int)/\Cc K H r ru/\ru.2.length<=8/\(∀z∈ru.2,(g z).isSome=true)/\∀H',aA H H'->Q (.int (aV g ru)) H'
def zB:aK ["sizes","rule"] ["sizes","rule"] (av o8):=iM rfl rfl rfl rfl (by decide +kernel)
def xX (F:iB K "rule_size" "rule_size" o8 f fd)(T:Txt mg):bR P w K mg base gk 1 f fd ["sizes","rule"] (rE K):=by
 refine F.ok zB (λvs H Q E h=>?_) (λeX A outer s H vs Q E hr h=>?_)
 .obtain⟨d,r,kvs,g,ru,rfl,_⟩:=h;rfl
 obtain⟨d,r,kvs,g,ru,rfl,hd,hv,⟨p,v1,v2⟩,h8,al,q⟩:=h;have hu:=gh hr;refine⟨_,ak (aN (aI du ao (aD (uS rfl) rfl T.sum PyProof.Rows.boot_sum (ab (bD ["part"] [(0,"sizes")] rfl (fZ (aL aZ (pv 1) ao (λ_ _=>rfl))) (br rfl rfl) (by decide +kernel) rfl (by decide +kernel)
   (λ_ _ _ _ _=>aq (i:=0) (show (["part","sizes"]:List Str).Nodup by decide +kernel) rfl (bC rfl)) (λ_ _ _ _ _=>b8) (λ_ _ _ _ _=>fq hu (pv 1) (pv 0) (λ_ _=>rfl))) ag)))),?_⟩
 dsimp only [yw];refine⟨_,rfl,r,_,_,_,rfl,rfl,v1,rfl,p,rfl,⟨_,v2⟩,λD hD=>AO (g:=g) rfl v2 ∅ hd hv al hD λH2 s2 e2=>?_⟩;refine⟨D,_,rfl,aH.of e2,_,_,rfl,rfl,?_⟩;exact q H2 s2
end
end hU
namespace M11
open PySem
def w6.at_ {aa:List ar}{bH:List (Str×Nat)}(h:w6 aa bH):∀(i:Nat)(x:Str) (k:Nat),bH[i]?=some (x,k)->∃bq,aa[k]?=some (x,bq)/\∀p∈bq,p∈(bH.take i).map (·.1):=by
 induction h with
 | nil=>intro i x k e;simp at e
 | @snoc bH k2 ru h e n p ih =>
  intro i x k ei;by_cases hi:i < bH.length
  .rw [pS hi] at ei;obtain⟨bq,a,b⟩:=ih i x k ei;exact⟨bq,a,λq hq=>by rw [pT (kI hi)];exact b q hq⟩
  have li:=(bu.mp ei).1;rw [a9,gw] at li;have e2:i=bH.length:=by omega
  subst e2;rw [mY (aF _),Nat.sub_self] at ei;cases ei;exact⟨ru.2,e,λq hq=>by rw [List.take_left'];exact p q hq;rfl⟩
end M11
namespace hU
open PySem L2 M11
section
def sX {H:Hp}{p D d:Addr}{zs:List Str}{kvs:List (aR×V)}{σ:St}{js:List (Nat×Str)}{Qp:Hp->Prop}(hσ:eU ["part"] js σ=[none,aM d])(hp:aS K H p (zs.map V.str))(hz:zs.length<=1000)
  (hd:H d=some (.dK kvs))(ha:∀z∈zs,(Sum.inr z:aR)∈kvs.map (·.1))(hD:H D=none)(q:∀ys H2,ys.length=zs.length->aA H H2->H2 D=some (.lst ys)->Qp H2) :
  ∃W:Nat->Nat->List V->St->Hp->Prop,(∃m,W 0 m [] (eU ["part"] js σ) (upd H D (.lst []))) /\
 ∀i m ys σ' H,W i m ys σ' H->((oC K p).stop i H/\Qp H)\/((oC K p).go i H/\∃m',m' < m/\∀x H',(oC K p).mP i H x H'->dN 0 x σ' H' λσ2 H2=>iu σ2 H2 λb H3 =>
  if b=true then A7 (gS 1) (gS 0) σ2 H3 λy H4=>H4 D=some (.lst ys)/\ys.length < sizeLine/\W (i+1) m' (ys++[y]) σ2 (upd H4 D (.lst (ys++[y]))) else W (i+1) m' ys σ2 H3):=by
 refine gQ (xs:=zs.map V.str) (λi ys σ2 H2=>ys.length=i/\(∃y0,σ2=[y0,aM d])/\aA H H2/\H2 D=some (.lst ys))
  ⟨rfl,⟨none,hσ⟩,af hD _,ae⟩ (λi ys σ2 H2 _ h=>h.2.2.1.tup hp) (λi x ys σ2 H2 ex h=>?_) (λys σ2 H2 h=>?_)
 .obtain⟨rfl,⟨y0,rfl⟩,sm,hd2⟩:=h;rw [bz] at ex;obtain⟨z,ez,rfl⟩:=cC.mp ex;have li:=(bu.mp ez).1;obtain⟨v,ev⟩:=lX.mp ((d_ kvs (Sum.inr z)).mpr (ha z (b9 ez)));have hg:cq H2 d (.str z) (some v):=by
   have:=cq.k (k:=Sum.inr z) (sm _ _ hd);rw [ev] at this;exact this
  refine goN (yl ?_);refine⟨_,rfl,_,rfl,d,_,rfl,hg,hd2,bM ∅,by rw [a9];rfl,⟨_,rfl⟩,?_,ae⟩;intro b o hb;rw [aj (λz=>by rw [z,hD] at hb;cases hb)];exact sm b o hb
 obtain⟨e,_,sm,hd2⟩:=h;rw [au] at e;exact q ys H2 e sm hd2
def uk (K:ba):Sp:=λvs H Q _=>∃(R D:Addr)(rs ts:List Addr)(aa:List ar)(bH:List (Str×Nat)),vs=[.ref R,.ref D]/\aH K H R (rs.map V.ref)/\bK K H rs aa/\aa.length<=1000/\(∀ru∈aa,ru.2.length<=8)/\aH K H D (ts.map V.ref)/\pK K H ts bH/\w6 aa bH/\bH.length<=1000 /\
 ∀(d:Addr)(kvs:List (aR×V))(H':Hp),H d=none->aA H H'->H' d=some (.dK kvs)->kvs.map (·.1)=(bH.map (·.1)).map Sum.inr->Q (.ref d) H'
def lF:aK ["rules","empties","trees","name","number"] ["rules","empties"] (av rQ):=iM rfl rfl rfl rfl (by decide +kernel)
def Ab (F:iB K "empty_by_name" "empty_by_name" rQ f fd)(T:Txt mg):bR P w K mg base gk 1 f fd ["rules","empties"] (uk K):=by
 refine F.ok lF (λvs H Q E h=>?_) (λeX A outer s H vs Q E hr h=>?_)
 .obtain⟨R,D,rs,ts,aa,bH,rfl,_⟩:=h;rfl
 obtain⟨R,D,rs,ts,aa,bH,rfl,hR,cy,bE,h8,hD,Zk,QQ,QS,q⟩:=h;have hu:=gh hr;refine⟨_,ai (az (i:=2) lF.nd rfl (Or.inr rfl) g8)
  (ai (bL cg rfl (a8 (pv 1)) (fR (n:=2) K rfl (aB (aq (i:=3) lF.nd rfl (bC rfl)) (aB (aq (i:=4) lF.nd rfl (bC rfl)) b_)))
   (ak (iJ hu (pv 2) (pv 3) (bo (ab (pv 4) (ab (bc dQ rfl T.tup mX (ab (bD ["part"] [(2,"trees")] rfl (fZ (aL aZ (aL bB (pv 0) (pv 4) (λ_ _=>rfl)) ao (λ_ _=>rfl))) (br rfl rfl) (by decide +kernel) rfl (by decide +kernel)
    (λ_ _ _ _ _=>aq (i:=0) (show (["part","trees"]:List Str).Nodup by decide +kernel) rfl (bC rfl)) (λ_ _ _ _ _=>b8) (λ_ _ _ _ _=>fq hu (pv 1) (pv 0) (λ_ _=>rfl))) ag)) ag))) rfl)))
  (ak (aN (pv 2)))),?_⟩
 nofun
 refine λd y_=>?_;have s1:=af y_ (.dK []);have e1:upd H d (.dK []) d=some (.dK []):=ae;generalize upd H d (.dK [])=H1 at s1 e1;refine goN ?_
 ac_rfl
 have lt:=aU Zk;have ll:=aU cy;have nd:=QQ.nd;refine⟨_,rfl,D,rfl,⟨_,s1.seq hD⟩,cJ (xs:=ts.map V.ref) (λi σ H3=>∃(kvs:List (aR×V))(y3 y4:Option V),σ=[aM R,aM D,aM d,y3,y4]/\aA H H3/\H3 d=some (.dK kvs)/\kvs.map (·.1)=((bH.take i).map (·.1)).map Sum.inr) ⟨[],_,_,rfl,s1,e1,rfl⟩ ?_ ?_ ?_⟩
 .rintro i σ H3 _ ⟨kvs,y3,y4,rfl,s3,_⟩;exact s3.seq hD
 .rintro i x σ H3 ex ⟨kvs,y3,y4,rfl,s3,ed,ek⟩
  ac_nf0
  rw [bz] at ex;obtain⟨t,et,rfl⟩:=cC.mp ex;have li:=(bu.mp et).1;obtain⟨e,ee⟩:∃e,bH[i]?=some e:=⟨bH[i]'∅,dG ∅⟩;obtain⟨t',ZD,vt⟩:=Paired.at_ Zk i e ee;rw [et] at ZD;cases ZD;obtain⟨x,k⟩:=e;obtain⟨bq,hk,Y9⟩:=QQ.at_ i x k ee;obtain⟨r,er,p,v1,v2⟩:=Paired.at_ cy k _ hk;have uZ:jZ (rs.map V.ref) (k:Int)=some (.ref r):=bZ (by rw [bz,er];rfl);have Y_:bq.length<=8:=h8 _ (b9 hk);refine⟨t,_,rfl,s3.tup vt,rfl,_,_,rfl,_,_,rfl,rfl,?_⟩;refine⟨_,rfl,_,rfl,_,rfl,R,_,_,_,rfl,rfl,s3.seq hR,uZ,r,_,_,_,rfl,rfl,s3.tup v1,rfl,p,rfl,⟨_,s3.tup v2⟩,λD2 jb=>sX (zs:=bq) rfl (s3.tup v2) ∅ ed (λz hz=>by rw [ek];exact cN.mpr (Y9 z hz)) jb λys H4 ly s4 e4=>?_⟩;refine⟨D2,ys,rfl,.inl ⟨aH.of e4,λt2 Nl=>⟨iP,λtS Dp=>?_⟩⟩⟩;have k5:=(af Nl (.tup ys)).trans (af Dp (.tup [.int (k:Int),.ref t2]));generalize upd (upd H4 t2 (.tup ys)) tS (.tup [.int (k:Int),.ref t2])=H5 at k5;have ed5:=k5 _ _ (s4 _ _ ed);have lkv:kvs.length=i:=by
   have:=congrArg List.length ek;rw [au,au,au,bO] at this;omega
  have nx:x∉(bH.take i).map (·.1):=λz=>by
   obtain⟨e2,m2,q2⟩:=cX.mp z;obtain⟨j,hj⟩:=iH m2;rw [List.getElem?_take] at hj
   split at hj
   .rename_i Zf
    have a1:(bH.map (·.1))[j]?=some x:=by rw [bz,hj];exact congrArg some q2
    have a2:(bH.map (·.1))[i]?=some x:=by rw [bz,ee];rfl
    have:=(List.getElem?_inj (by rw [au];omega) nd).mp (a1.trans a2.symm);omega
   cases hj
  refine⟨_,rfl,_,rfl,d,_,rfl,.inl ⟨kvs,Sum.inr x,ed5,rfl,bM ∅,rfl⟩,?_⟩;refine⟨_,_,_,rfl,λb o hb=>?_,ae,?_⟩
  .rw [aj (λz=>by rw [z,y_] at hb;cases hb)];exact k5 _ _ (s4 _ _ (s3 b o hb))
  rw [iI (by rw [ek];exact λz=>nx (cN.mp z)),ek,cP,ee,bG,bG];rfl
 rintro σ H3 ⟨kvs,y3,y4,rfl,s3,ed,ek⟩;rw [au,lt,cE] at ek;exact⟨_,rfl,q d kvs H3 y_ s3 ed ek⟩
end
end hU
namespace M11
open PySem
def Le (g' g:G):Prop:=∀z n,g z=some n->∃m,g' z=some m/\m<=n
def yo {g:G}{ru:ar}(f:cV bl g ru=true):lB g ru=true/\∀n,g ru.1=some n->aV g ru < n:=by
 unfold cV at f;rw [pP] at f;refine⟨f.1,λn e=>?_⟩;have:=f.2;rw [e] at this;have:(!(some n:Option Int).isSome || bl (aV g ru) n)=true:=this
 simpa [bl] using this
def le_step {g:G}{ru:ar}(f:cV bl g ru=true):Le (fk g ru.1 (aV g ru)) g:=λz n e=>by
 unfold fk;by_cases c:z=ru.1
 .rw [ax c];subst c;exact⟨_,rfl,Int.le_of_lt ((yo f).2 n e)⟩
 rw [ay c];exact⟨n,e,oG _⟩
theorem EC {g g':G}(h:Le g' g):∀ps:List Str,(∀p∈ps,(g p).isSome=true)->(∀p∈ps,(g' p).isSome=true)/\(ps.map λp=>(g' p).getD 0).sum<=(ps.map λp=>(g p).getD 0).sum
 | [],_=>⟨λp hp=>(by cases hp),oG _⟩
 | p::r,a=>by
  obtain⟨h1,h2⟩:=EC h r λq hq=>a q (dA _ hq);obtain⟨n,en⟩:=lX.mp (a p cH);obtain⟨m,em,lm⟩:=h p n en;refine⟨λq hq=>?_,?_⟩
  .rcases bW.mp hq with rfl | hq
   .rw [em];rfl
   exact h1 q hq
  rw [cO,cO,kJ,kJ,en,em];show m+_<=n+_;omega
def u6 {g:G}{ru:ar}:lB g ru=true↔∀p∈ru.2,(g p).isSome=true:=by
 unfold lB;rw [gK]
def size_le {g g':G}{ru:ar}(h:Le g' g)(a:lB g ru=true):lB g' ru=true/\aV g' ru<=aV g ru:=by
 obtain⟨h1,h2⟩:=EC h ru.2 (u6.mp a);exact⟨u6.mpr h1,by unfold aV;omega⟩
def OM (aa:List ar) (hs:List Str)(g:G):Prop:=∀h n,g h=some n->h∉hs\/∃ru∈aa,ru.1=h/\lB g ru=true/\aV g ru<=n
def Ep {aa:List ar}{hs:List Str}(g:G)(ru:ar)(j:OM aa hs g)(m:ru∈aa)(f:cV bl g ru=true):OM aa hs (fk g ru.1 (aV g ru)):=λh n e=>by
 have le:=le_step f;by_cases c:h=ru.1
 .have e2:n=aV g ru:=by
   unfold fk at e;rw [ax c] at e;exact(ir e).symm
  obtain⟨a1,a2⟩:=size_le le (yo f).1;exact .inr ⟨ru,m,c.symm,a1,∅⟩
 have e2:g h=some n:=by
  unfold fk at e;rw [ay c] at e;exact e
 rcases j h n e2 with h1 | ⟨H_,m2,q2,a2,l2⟩
 .exact .inl h1
 obtain⟨b1,b2⟩:=size_le le a2;exact .inr ⟨H_,m2,q2,b1,∅⟩
def CW {aa:List ar}{hs:List Str}{g0 g:G}(j0:OM aa hs g0)(st:fj bl aa g0 g)(se:jc bl aa g){h:Str}{n:Int}(hh:h∈hs)(e:g h=some n):∃ru∈aa,ru.1=h/\lB g ru=true/\aV g ru=n:=by
 have j:OM aa hs g:=fj.keep (J:=OM aa hs) (λg ru j m f=>Ep g ru j m f) st j0;rcases j h n e with z | ⟨ru,m,q,a,l⟩
 .exact absurd hh z
 refine⟨ru,m,q,a,?_⟩;have f:=se ru m;unfold cV at f;rw [a,q,e] at f;have f:(true && (!(some n:Option Int).isSome || bl (aV g ru) n))=false:=f
 have f2:¬aV g ru < n:=by simpa [bl] using f
 omega
theorem BG {g:G}(nn:NN g):∀(ps:List Str)(p:Str) (m:Int),p∈ps->g p=some m->m<=(ps.map λp=>(g p).getD 0).sum
 | q::r,p,m,hp,e=>by
  rw [cO,kJ];have h1:=jO g nn r;rcases bW.mp hp with rfl | hp
  .rw [e];show m<=m+_;omega
  have h2:=BG nn r p m hp e;have h3:0<=(g q).getD 0:=by
   cases eq:g q with
   | none=>exact oG _
   | some n=>exact nn q n eq
  omega
def CB {g:G}(nn:NN g){ru:ar}{p:Str}{m:Int}(hp:p∈ru.2)(e:g p=some m):m < aV g ru:=by
 have:=BG nn ru.2 p m hp e;unfold aV;omega
theorem A2:∀(bj ps bV:List Str),(∀z∈bV,z∉bj)->∀z∈tK bj bV ps,z∉bj
 | _,[],bV,h=>h
 | bj,p::r,bV,h=>by
  show ∀z∈tK bj (addW bj bV p) r,z∉bj;refine A2 bj r _ ?_;unfold addW
  split
  .exact h
  rename_i hp
  unfold iA
  split
  .exact h
  intro z hz;rcases bQ.mp hz with hz | hz
  .exact h z hz
  rw [bF.mp hz];exact hp
def vN {g:Str->Int}{zs:List Str}(h:zs.Pairwise λx y=>g x<=g y){i:Nat}{x p:Str}(e:zs[i]?=some x)(hp:p∈zs)(l:g p < g x):p∈zs.take i:=by
 obtain⟨j,ej⟩:=iH hp;obtain⟨li,ei⟩:=bu.mp e;obtain⟨lj,ej2⟩:=bu.mp ej;have Zf:j < i:=by
  rcases Nat.lt_trichotomy j i with h1 | h1 | h1
  .exact h1
  .subst h1;rw [e] at ej;cases ej;omega
  have:=List.pairwise_iff_getElem.mp h i j li lj h1;rw [ei,ej2] at this;omega
 rw [List.mem_iff_getElem?];exact⟨j,by rw [List.getElem?_take,ax Zf];exact ej⟩
end M11
namespace hU
open PySem L2 M11
def Tz (aa:List ar):OM aa (hd aa) (yY aa):=λh n e=>by
 unfold yY at e;by_cases c:h∈tK (hd aa) [] (aa.flatMap (·.2))
 .exact .inl (A2 _ _ [] (λz hz=>by cases hz) h c)
 rw [ay c] at e;cases e
def nn0 (aa:List ar):NN (yY aa):=λh n e=>by
 unfold yY at e;by_cases c:h∈tK (hd aa) [] (aa.flatMap (·.2))
 .rw [ax c] at e;cases e;exact oG _
 rw [ay c] at e;cases e
def Mx {aa:List ar}{g:G}(st:fj M11.bl aa (yY aa) g):NN g:=fj.keep (J:=NN) (λg ru j m f=>wm j ru) st (nn0 aa)
theorem vF (bj:List Str):∀(ps bV:List Str)(x:Str),(x∈bV\/(x∈ps/\x∉bj))->x∈tK bj bV ps
 | [],bV,x,h=>by
  rcases h with h | ⟨h,_⟩
  .exact h
  cases h
 | p::r,bV,x,h=>by
  show x∈tK bj (addW bj bV p) r;apply vF bj r;unfold addW;by_cases c:p∈bj
  .rw [ax c];rcases h with h | ⟨h,n⟩
   .exact .inl h
   rcases bW.mp h with z | z
   .exact absurd (z ▸ c) n
   exact .inr ⟨z,n⟩
  rw [ay c];rcases h with h | ⟨h,n⟩
  .exact .inl ((oB _ _ _).mpr (.inl h))
  rcases bW.mp h with z | z
  .exact .inl ((oB _ _ _).mpr (.inr z))
  exact .inr ⟨z,n⟩
def PK:List Stmt->Pos
 | [_,_,_,.For _ (.Call _ _ [⟨_,.Lambda _ _ _ pos,_⟩] _) _ _ _,_]=>pos
 | _=>⟨0,0,0,0⟩
abbrev posB:Pos:=PK (cA nN)
abbrev Ib:Str := "least_by_part" ++ ".<locals>." ++ "<lambda>"
section
def o5 (K:ba)(T1 T3:Addr):Sp:=λvs H Q _=>∃(R:Addr)(rs:List Addr)(aa:List ar),vs=[.ref R]/\aH K H R (rs.map V.ref)/\bK K H rs aa/\aa.length < 64/\(∀ru∈aa,ru.2.length<=8)/\(∀g,fj M11.bl aa (yY aa) g->jc M11.bl aa g->∀h∈hd aa,∃n,g h=some n/\n<=60)/\Tab T1 rX.2.2.2 yT H/\Tab T3 posB Ib H/\T1≠T3 /\
 ∀(d:Addr)(kvs:List (aR×V))(H':Hp),H d=none->l_ T1 T3 H H'->Tab T1 rX.2.2.2 yT H'->Tab T3 posB Ib H'->H' d=some (.dK kvs)->(∀z,z∈hd aa->(Sum.inr z:aR)∈kvs.map (·.1))->Q (.ref d) H'
structure LB (K:ba)(rs:List Addr)(aa:List ar)(qE:List (aR×V))(ps:List (Str×Addr))(R dz dn T1 T3:Addr)(H5:Hp):Prop where
 hR:aH K H5 R (rs.map V.ref)
 cy:bK K H5 rs aa
 nm:IB ps (λn=>nums aa n aa.length) H5 dn
 rz:Rd H5 dz (.dK qE)
 t1:Tab T1 rX.2.2.2 yT H5
 t3:Tab T3 posB Ib H5
theorem LB.same {rs:List Addr}{aa:List ar}{qE:List (aR×V)}{ps:List (Str×Addr)}{R dz dn T1 T3:Addr}{H5 H6:Hp}(h:LB K rs aa qE ps R dz dn T1 T3 H5)(s:aA H5 H6):LB K rs aa qE ps R dz dn T1 T3 H6 :=
 ⟨s.seq h.hR,h.cy.same s,h.nm.same s,hU.Rd.same h.rz s,h.t1.same s,h.t3.same s⟩
def LB.KP {rs:List Addr}{aa:List ar}{qE:List (aR×V)}{ps:List (Str×Addr)}{R dz dn T1 T3 d:Addr}{H5 H6:Hp}{kv:List (aR×V)}(h:LB K rs aa qE ps R dz dn T1 T3 H5)(e:H5 d=some (.dK kv))(n1:dn≠d)(n2:dz≠d)(s:cW d H5 H6):LB K rs aa qE ps R dz dn T1 T3 H6:=by
 have tk:∀a xs,aS K H5 a xs->aS K H6 a xs:=λa xs z=>by
  rcases z with (z | ⟨u,z⟩) | z
  .exact .inl (.inl (s _ _ (λy=>by rw [y,e] at z;cases z) z))
  .exact .inl (.inr ⟨u,s _ _ (λy=>by rw [y,e] at z;cases z) z⟩)
  exact .inr z
 have tb:∀{T':Addr}{pos':Pos}{Ia:Str},Tab T' pos' Ia H5->Tab T' pos' Ia H6:=λ{T' pos' Ia} ⟨p,a,b,cc⟩=>⟨p,s _ _ (λy=>by rw [y,e] at a;cases a) a,b,cc.imp id λ⟨c',e1,e2⟩=>⟨c',e1,s _ _ (λy=>by rw [y,e] at e2;cases e2) e2⟩⟩;refine⟨?_,h.cy.keep tk,⟨s _ _ n1 h.nm.hd,h.nm.n1,h.nm.n2,λp hp=>s _ _ (λy=>by have a:=h.nm.lst p hp;rw [y,e] at a;cases a) (h.nm.lst p hp)⟩,?_,tb h.t1,tb h.t3⟩
 .rcases h.hR with (z | ⟨u,z⟩) | z
  .exact .inl (.inl (s _ _ (λy=>by rw [y,e] at z;cases z) z))
  .exact .inl (.inr ⟨u,s _ _ (λy=>by rw [y,e] at z;cases z) z⟩)
  exact .inr z
 rcases h.rz with z | ⟨u,z⟩
 .exact .inl (s _ _ n2 z)
 exact .inr ⟨u,s _ _ n2 z⟩
def LB.Po {rs:List Addr}{aa:List ar}{qE:List (aR×V)}{ps:List (Str×Addr)}{R dz dn T1 T3:Addr}{H5 H6:Hp}(h:LB K rs aa qE ps R dz dn T1 T3 H5)(nT:T1≠T3)(s:cW T3 H5 H6)(t:Tab T3 posB Ib H6):LB K rs aa qE ps R dz dn T1 T3 H6:=by
 obtain⟨pt,eT,_⟩:=id h.t3;refine⟨Bt s h.t3 h.hR,h.cy.keep λ_ _ z=>A4 s h.t3 z,⟨s _ _ (λy=>by have a:=h.nm.hd;rw [y,eT] at a;cases a) h.nm.hd,h.nm.n1,h.nm.n2,λp hp=>s _ _ (λy=>by have a:=h.nm.lst p hp;rw [y,eT] at a;cases a) (h.nm.lst p hp)⟩,?_,A5 s h.t3 h.t1 nT,t⟩;rcases h.rz with z | ⟨u,z⟩
 .exact .inl (s _ _ (λy=>by rw [y,eT] at z;cases z) z)
 exact .inr ⟨u,s _ _ (λy=>by rw [y,eT] at z;cases z) z⟩
theorem pz:∀(hs:List Str)(bV:List (aR×V)) (as:List Str),bV.map (·.1)=as.map Sum.inr->(df (hs.map λh=>((Sum.inr h:aR),V.str h)) bV).map (·.1)=(M11.wQ as hs).map Sum.inr
 | [],bV,as,e=>e
 | h::r,bV,as,e=>pz r (bT bV (Sum.inr h) (.str h)) (M11.iA as h) (hU.kY e h)
def iQ:aK ["rules","numbers","trees","name","least","sizes"] ["rules"] (av nN):=iM rfl rfl rfl rfl (by decide +kernel)
def Aa {T1 T3:Addr}(F:yL K "least_by_part" "least_by_part" nN f fd T3)(T:Txt mg)(hB:tJ mg base)(hS:mg "sorted"=none)(GH:aC P w K mg base 3 "heads_of" ["rules"] (jP K))(GL:aC P w K mg base 3 "least_sizes" ["rules"] (qx K T1))(GN:aC P w K mg base 3 "numbers_by_name" ["rules"] (EH K))(GZ:aC P w K mg base 3 "rule_size" ["sizes","rule"] (rE K)):bR P w K mg base gk 4 f fd ["rules"] (o5 K T1 T3):=by
 refine F.ok iQ (λvs H Q E h=>?_) (λc A outer s H vs Q E hC hr h=>?_)
 .obtain⟨R,rs,aa,rfl,_⟩:=h;rfl
 obtain⟨R,rs,aa,rfl,hR,cy,bE,h8,Gx,JN,V8,nT,q⟩:=h;have hu:=gh hr;refine⟨_,ai (az (i:=5) iQ.nd rfl (Or.inr rfl) (bp GL hr rfl (ab (pv 0) ag)))
  (ai (az (i:=1) iQ.nd rfl (Or.inr rfl) (bp GN hr rfl (ab (pv 0) ag)))
  (ai (az (i:=2) iQ.nd rfl (Or.inr rfl) (bc (dS rfl) rfl T.AN gi (ab (bD ["part"] [(1,"numbers")] rfl (BD (pv 5)) (br rfl rfl) (by decide +kernel) rfl (by decide +kernel)
    (λ_ _ _ _ _=>aq (i:=0) (show (["part","numbers"]:List Str).Nodup by decide +kernel) rfl (bC rfl)) (λ_ _ _ _ _=>ip (eJ (eK hu (pv 0) (pv 1)))) (λ_ _ _ _ _=>bo (ab (pv 0) (ab (pv 0) ag)))) ag)))
  (ai (bL cg rfl (a8 (Fo (i:=5) (T:=T3) hr rfl hC hB rfl hS (ab (bp GH hr rfl (ab (pv 0) ag)) ag) rfl rfl (λy hy=>by
    rcases bW.mp hy with h | h
    .cases h
    rcases bW.mp h with h | h
    .cases h;rfl
    cases h) (λq cl pm gU c' us hl=>match us,hl with | [_],_=>rfl) rfl rfl rfl (by decide +kernel) rfl rfl)) (aq (i:=3) iQ.nd rfl (Or.inr rfl))
   (ai (i9 (iy:=4) ["number"] [(5,"sizes"),(0,"rules"),(3,"name")] iQ.nd rfl rfl rfl (a8 (fq hu (pv 1) (pv 3) (λ_ _=>rfl))) (br rfl rfl) (by decide +kernel) rfl (by decide +kernel)
    (λ_ _ _ _ _=>aq (i:=0) (show (["number","sizes","rules","name"]:List Str).Nodup by decide +kernel) rfl (bC rfl)) (λ_ _ _ _ _=>ip (aX hJ (bp GZ hr rfl (ab (pv 1) (ab (aL (Gj K) (pv 2) (pv 0) (λ_ _=>rfl)) ag))) (fq hu (pv 1) (pv 3) (λ_ _=>rfl)) (bJ _))) (λ_ _ _ _ _=>pv 0))
   (ak (iJ hu (pv 2) (pv 3) (bo (ab (aL bB (pv 4) ao (λ_ _=>rfl)) (ab (bc dQ rfl T.tup mX (ab (bD ["part"] [(2,"trees")] rfl (fZ (aL aZ (aL bB (pv 0) (aL bB (pv 4) ao (λ_ _=>rfl)) (λ_ _=>rfl)) ao (λ_ _=>rfl))) (br rfl rfl) (by decide +kernel) rfl (by decide +kernel)
    (λ_ _ _ _ _=>aq (i:=0) (show (["part","trees"]:List Str).Nodup by decide +kernel) rfl (bC rfl)) (λ_ _ _ _ _=>b8) (λ_ _ _ _ _=>fq hu (pv 1) (pv 0) (λ_ _=>rfl))) ag)) ag))) rfl))))
  (ak (aN (pv 2)))))),?_⟩
 nofun
 refine⟨_,rfl,R,rs,aa,rfl,hR,cy,∅,h8,JN,λdz qE KN g H1 fz s1 t1 ez kz vz RY X_ lz=>?_⟩;refine goN ?_
 ac_rfl
 have K4:=Bt s1 JN hR;have QF:=cy.keep λ_ _ z=>A4 s1 JN z;have X3:=A5 s1 JN V8 (gB nT);refine⟨_,rfl,R,rs,aa,rfl,K4,QF,∅,λdn ps H2 fn s2 nm pk pf=>?_⟩;refine goN ?_
 ac_rfl
 have OA:=s2 _ _ ez;refine⟨_,rfl,dz,qE,rfl,OA,λo D hD=>?_⟩;have UK:∀p∈ps,p.2≠dz:=λp hp z=>by
  have a:=nm.lst p hp;rw [z,OA] at a;cases a
 have ndz:dn≠dz:=λz=>by rw [z,ez] at fn;cases fn
 have nz1:T1≠dz:=λz=>by
  obtain⟨p,a,_⟩:=t1;rw [z,ez] at a;cases a
 have nz3:T3≠dz:=λz=>by
  obtain⟨p,a,_⟩:=X3;rw [z,ez] at a;cases a
 have O3:∀{T':Addr}{pos':Pos}{Ia:Str},T'≠dz->Tab T' pos' Ia H2->Tab T' pos' Ia (upd H2 dz (.kn o (.dK qE))):=λ{T' pos' Ia} n ⟨p,a,b,cc⟩=>⟨p,by rw [aj n];exact a,b,cc.imp id λ⟨c',e1,e2⟩=>⟨c',e1,by rw [aj (λz=>by rw [z,OA] at e2;cases e2)];exact e2⟩⟩;have L3:LB K rs aa qE ps R dz dn T1 T3 (upd H2 dz (.kn o (.dK qE))):=by
  refine⟨?_,(QF.same s2).keep λ_ _ z=>iw OA z,⟨by rw [aj ndz];exact nm.hd,nm.n1,nm.n2,λp hp=>by rw [aj (UK p hp)];exact nm.lst p hp⟩,.inr ⟨o,ae⟩,O3 nz1 (t1.same s2),O3 nz3 (X3.same s2)⟩;rcases s2.seq K4 with (h | ⟨u,h⟩) | h
  .exact .inl (.inl (by rw [aj (λz=>by rw [z,OA] at h;cases h)];exact h))
  .exact .inl (.inr ⟨u,by rw [aj (λz=>by rw [z,OA] at h;cases h)];exact h⟩)
  exact .inr h
 have e3:upd H2 dz (.kn o (.dK qE)) dz=some (.kn o (.dK qE)):=ae;have Cu:l_ T1 T3 H (upd H2 dz (.kn o (.dK qE))):=λb u n1 n3 hb=>by
  rw [aj (λz=>by rw [z,fz] at hb;cases hb)];exact s2 _ _ (s1 b u n1 hb)
 generalize upd H2 dz (.kn o (.dK qE))=H3 at hD L3 e3 Cu ⊢;have lkz:qE.length=KN.length:=by
  have:=congrArg List.length kz;rwa [au,au] at this
 refine tq (λi ys σ2 H4=>∃ts:List Addr,ys=ts.map V.ref/\(∃y0,σ2=[y0,aM dn])/\aA H3 H4/\H4 D=some (.lst ys)/\ts.length<=i/\Paired (λt h=>aS K H4 t [.str h,.str h]) ts ((KN.take i).filter λz=>!decide (z∈hd aa)))
  ⟨[],rfl,⟨none,rfl⟩,af hD _,ae,aF _,.nil⟩ (λi ys σ2 H4 _ h=>?_) (λi kv ys σ2 H4 ex h=>?_) (λys σ2 H4 h=>?_)
 .obtain⟨_,_,_,sm,_⟩:=h;exact sm _ _ e3
 .obtain⟨ts,rfl,⟨y0,rfl⟩,sm,e4,lts,pt⟩:=h;obtain⟨z,ezz,ekz⟩:∃z,KN[i]?=some z/\kv.1=Sum.inr z:=by
   have a1:(qE.map (·.1))[i]?=some kv.1:=by rw [bz,ex];rfl
   rw [kz,bz] at a1;obtain⟨z,a2,a3⟩:=cC.mp a1;exact⟨z,a2,a3.symm⟩
  rw [ekz];have L4:=L3.same sm;have hin:(bw (ps.map jJ) (Sum.inr z)).isSome=decide (z∈hd aa):=by
   rw [mS,d_,decide_eq_true_iff,<-pk];rw [jm];constructor
   .intro h;obtain⟨p,hp,e⟩:=cX.mp h;exact cX.mpr ⟨p,hp,mf e⟩
   intro h;obtain⟨p,hp,e⟩:=cX.mp h;exact cX.mpr ⟨p,hp,congrArg Sum.inr e⟩
  refine goN ?_;refine⟨_,rfl,_,rfl,dn,_,rfl,cq.k (k:=Sum.inr z) L4.nm.hd,_,rfl,?_⟩;rw [hin];have G4:((KN.take (i+1)).filter λz=>!decide (z∈hd aa))=((KN.take i).filter λz=>!decide (z∈hd aa))++(if (!decide (z∈hd aa))=true then [z] else []):=by
   rw [cP,ezz,oX]
   congr 1
   by_cases c:z∈hd aa <;> simp [c]
  refine cf (λcc=>?_) (λcc=>?_)
  .refine⟨_,rfl,_,rfl,iP,λt ht=>?_⟩;have k5:=af ht (.tup [kV (Sum.inr z),kV (Sum.inr z)]);have v5:aS K (upd H4 t (.tup [kV (Sum.inr z),kV (Sum.inr z)])) t [.str z,.str z]:=aS.of ae;generalize upd H4 t (.tup [kV (Sum.inr z),kV (Sum.inr z)])=H5 at k5 v5;have li:=(bu.mp ex).1;have e5:=k5 _ _ e4;refine⟨e5,bM (by rw [au];omega),ts++[t],by rw [bG];rfl,⟨_,rfl⟩,λb u hb=>?_,ae,by rw [a9,gw];omega,?_⟩
   .rw [aj (λz=>by rw [z,hD] at hb;cases hb)];exact k5 _ _ (sm b u hb)
   rw [G4,ax cc];exact hZ (Paired.e_ pt λ_ _ z=>a7 e5 (k5.tup z)) (a7 e5 v5)
  refine⟨ts,rfl,⟨_,rfl⟩,sm,e4,∅,?_⟩;rw [G4,ay cc,iR];exact pt
 obtain⟨ts,rfl,_,s4,e4,lts,pt⟩:=h;rw [lkz,cE] at pt;have Y3:∀z,z∉hd aa->(g z).isSome=true->z∈KN.filter λz=>!decide (z∈hd aa):=λz hz gz=>by
  refine lV.mpr ⟨?_,by simpa using hz⟩;have a1:(bw qE (Sum.inr z)).isSome=true:=by rw [vz,oW];exact gz
  rw [d_,kz] at a1;exact cN.mp a1
 have lws:(KN.filter λz=>!decide (z∈hd aa)).length<=20000:=dX (rp _ _) ∅;generalize KN.filter (λz=>!decide (z∈hd aa))=ws at pt Y3 lws;have kp:Paired (λt (kv:aR×V)=>aS K H4 t [kV kv.1,kv.2]) ts (ws.map λh=>((Sum.inr h:aR),V.str h)):=cx pt λ_ _ z=>z;refine⟨D,ts,_,rfl,e4,kp,λdt BP=>?_⟩;have kt:∀z∈ws,(Sum.inr z:aR)∈(df (ws.map λh=>((Sum.inr h:aR),V.str h)) []).map (·.1):=λz hz=>by
  rw [pz ws [] [] rfl];exact cN.mpr ((iq ws [] z).mpr (.inr hz))
 have lkt:(df (ws.map λh=>((Sum.inr h:aR),V.str h)) []).length<=20000:=by
  have a:=congrArg List.length (pz ws [] [] rfl);rw [au,au] at a;have:=iO ws [];simp only [jo] at this;omega
 generalize df (ws.map λh=>((Sum.inr h:aR),V.str h)) []=Qg at kt lkt;have s5:=s4.trans (af BP (.dK Qg));have e5:upd H4 dt (.dK Qg) dt=some (.dK Qg):=ae;have K9:H3 dt=none:=s4.free BP;generalize upd H4 dt (.dK Qg)=H5 at s5 e5;have L5:=L3.same s5;refine goN ?_
 ac_rfl
 refine⟨_,rfl,R,rs,aa,rfl,L5.hR,L5.cy,∅,λDH H6 fH s6 eH=>?_⟩;have L6:=L5.same s6;have JC:=iO (aa.map (·.1)) [];simp only [jo,au] at JC;have gz:∀z∈hd aa,∃n,g z=some n:=λz hz=>by
  obtain⟨n,e,_⟩:=Gx g RY X_ z hz;exact⟨n,e⟩
 refine⟨L6.t3,DH,hd aa,dz,qE,λz=>(g z).getD 0,rfl,aH.of eH,by unfold hd;omega,rfl,L6.rz,λz hz=>by obtain⟨n,e⟩:=gz z hz;rw [vz,e];show _=some (V.int ((g z).getD 0));rw [e];rfl,λl Lw H7 s7 t37 fl pe pw el=>?_⟩;have L7:=L6.Po nT s7 t37;have UQ:dt≠T3:=λz=>by
  obtain⟨p,a,_⟩:=L5.t3;rw [<-z,e5] at a;cases a
 have e7:=s7 _ _ UQ (s6 _ _ e5);have Yy:dn≠dt:=λz=>by have a:=L3.nm.hd;rw [z,K9] at a;cases a
 have Ys:dz≠dt:=λz=>by rw [<-z,e3] at K9;cases K9
 have HZ:l_ T1 T3 H H7:=λb u n1 n3 hb=>s7 _ _ n3 (s6 _ _ (s5 _ _ (Cu b u n1 n3 hb)));have UN:l≠dt:=λz=>by rw [z,s6 _ _ e5] at fl;cases fl
 have nn:=Mx RY;have hlz:Lw.length < 64:=by rw [pe.length_eq];unfold hd;omega
 have RD:∀ru∈aa,∀p∈ru.2,(g p).isSome=true:=λru iY p hp=>by
  by_cases hh:p∈hd aa
  .obtain⟨n,e⟩:=gz p hh;rw [e];rfl
  have j0:∃n,yY aa p=some n:=⟨0,ax (vF _ _ [] p (.inr ⟨qX.mpr ⟨ru,iY,hp⟩,hh⟩))⟩;have:∃n,g p=some n:=fj.keep (J:=λg=>∃n,g p=some n) (λg ru ⟨n,e⟩ m f=>by obtain⟨k,a,_⟩:=le_step f p n e;exact⟨k,a⟩) RY j0;obtain⟨n,e⟩:=this;rw [e];rfl
 have ll:=aU cy;refine⟨l,rfl,⟨_,aH.of el⟩,cJ (xs:=Lw.map V.str) (λi σ H8=>∃(kvs:List (aR×V))(y3 y4:Option V),σ=[aM R,aM dn,aM dt,y3,y4,aM dz]/\cW dt H7 H8/\H8 dt=some (.dK kvs)/\kvs.length<=20000+i/\(∀z∈ws,(Sum.inr z:aR)∈kvs.map (·.1))/\(∀z∈Lw.take i,(Sum.inr z:aR)∈kvs.map (·.1))) ⟨Qg,_,_,rfl,λ_ _ _ h=>h,e7,∅,kt,λz hz=>by cases hz⟩ ?_ ?_ ?_⟩
 .rintro i σ H8 _ ⟨kvs,y3,y4,rfl,s8,_⟩;exact aH.of (s8 _ _ UN el)
 .rintro i x σ H8 ex ⟨kvs,y3,y4,rfl,s8,e8,U4,Va,Qf⟩
  ac_nf0
  rw [bz] at ex;obtain⟨z,SK,rfl⟩:=cC.mp ex;have li:=(bu.mp SK).1;have hz:z∈hd aa:=pe.mem_iff.mp (b9 SK);obtain⟨n,WG⟩:=gz z hz;have L8:=L7.KP e7 Yy Ys s8;obtain⟨p,hp,VE⟩:=cX.mp (show z∈ps.map (·.1) by rw [pk];exact hz);refine goN ?_
  ac_rfl
  have hgn:cq H8 dn (.str z) (some (.ref p.2)):=by
   have:=cq.k (k:=Sum.inr z) L8.nm.hd;rw [<-VE,ie ps L8.nm.n1 p hp] at this;rw [VE] at this;exact this
  have Sy:=L8.nm.lst p hp;have Sy:H8 p.2=some (.lst ((nums aa z aa.length).map V.int)):=by rw [<-VE];exact Sy
  have numOf:∀(m:Nat) (v:Int),(nums aa z aa.length)[m]?=some v->∃(j:Nat)(ru:ar),v=(j:Int)/\aa[j]?=some ru/\ru.1=z:=λm v e=>by
   unfold nums at e;rw [bz] at e;obtain⟨j,e1,rfl⟩:=cC.mp e;have hj:=(lV.mp (b9 e1)).2;have hj:(aa[j]?.map (·.1))=some z:=cZ hj;obtain⟨ru,e2,e3⟩:=cC.mp hj;exact⟨j,ru,rfl,e2,e3⟩
  have aac:=xY aa z aa.length
  let good:Int->Bool:=λv=>match aa[v.toNat]? with | some ru=>decide (aV g ru=n) | none=>false
  have wit:∃v∈nums aa z aa.length,good v=true:=by
   obtain⟨ru,iY,q1,_,q3⟩:=CW (Tz aa) RY X_ hz WG;obtain⟨j,ej⟩:=iH iY;have lj:=(bu.mp ej).1;refine⟨(j:Int),cX.mpr ⟨j,lV.mpr ⟨pN.mpr lj,bh (by rw [ej];exact congrArg some q1)⟩,rfl⟩,?_⟩;show (match aa[(j:Int).toNat]? with | some ru=>decide (aV g ru=n) | none=>false)=true
   rw [kx,ej];exact bh q3
  refine⟨_,rfl,_,rfl,dn,_,rfl,hgn,p.2,rfl,⟨_,aH.of Sy⟩,λD9 K6=>cM (xs:=(nums aa z aa.length).map V.int) (λm ys σ2 H9=>ys=(((nums aa z aa.length).take m).filter good).map V.int/\(∃y0,σ2=[y0,aM dz,aM R,some (.str z)])/\aA H8 H9/\H9 D9=some (.lst ys))
   ⟨rfl,⟨none,rfl⟩,af K6 _,ae⟩ (λm ys σ2 H9 _ h=>?_) (λm x ys σ2 H9 em h=>?_) (λys σ2 H9 h=>?_)⟩
  .obtain⟨_,_,sm,_⟩:=h;exact aH.of (sm _ _ Sy)
  .obtain⟨rfl,⟨y0,rfl⟩,sm,e9⟩:=h;rw [bz] at em;obtain⟨v,ev,rfl⟩:=cC.mp em;have lm:=(bu.mp ev).1;obtain⟨j,ru,rfl,ej,SQ⟩:=numOf m v ev;have L9:=L8.same sm;obtain⟨r,er,rv⟩:=Paired.at_ L9.cy j ru ej;have uZ:jZ (rs.map V.ref) (j:Int)=some (.ref r):=bZ (by rw [bz,er];rfl);have gj:good (j:Int)=decide (V.int (aV g ru)=V.int n):=by
    show (match aa[(j:Int).toNat]? with | some ru=>decide (aV g ru=n) | none=>false)=_
    rw [kx,ej];show decide (aV g ru=n)=_;by_cases c:aV g ru=n
    .rw [bh c,bh (congrArg V.int c)]
    rw [b0 c,b0 (λy=>c (by injection y))]
   refine goN ?_;refine⟨_,rfl,_,rfl,_,rfl,R,_,_,_,rfl,rfl,L9.hR,uZ,dz,r,qE,g,ru,rfl,L9.rz,vz,rv,h8 ru (b9 ej),RD ru (b9 ej),λA1 wb=>?_⟩;have hgz:cq A1 dz (.str z) (some (.int n)):=by
    have:=cq.r (k:=Sum.inr z) (L9.same wb).rz;rw [vz,WG] at this;exact this
   refine⟨_,rfl,_,rfl,dz,_,rfl,hgz,rfl,_,rfl,?_⟩;rw [<-gj];have G4:((nums aa z aa.length).take (m+1)).filter good=((nums aa z aa.length).take m).filter good++(if good (j:Int)=true then [(j:Int)] else []):=by
    rw [cP,ev,oX]
    congr 1
    show List.filter good [(j:Int)]=_;by_cases c:good (j:Int)=true
    .rw [ax c,u_,ax c,List.filter_nil]
    rw [ay c,u_,ay c,List.filter_nil]
   have lf:(((nums aa z aa.length).take m).filter good).length<=1000:=dX (rp _ _) (by rw [bO];omega);refine cf (λcc=>?_) (λcc=>?_)
   .refine⟨_,rfl,wb _ _ e9,bM (by rw [au];omega),by rw [G4,ax cc,bG];rfl,⟨_,rfl⟩,λb u hb=>?_,ae⟩;rw [aj (λz=>by rw [z,K6] at hb;cases hb)];exact wb _ _ (sm b u hb)
   exact⟨by rw [G4,ay cc,iR],⟨_,rfl⟩,sm.trans wb,wb _ _ e9⟩
  obtain⟨rfl,_,s9,e9⟩:=h;rw [au,cE] at e9;refine goN ?_
  ac_rfl
  have L9:=L8.same s9;cases hf:(nums aa z aa.length).filter good with
  | nil =>
   obtain⟨v,hv,gv⟩:=wit;have:v∈(nums aa z aa.length).filter good:=lV.mpr ⟨hv,gv⟩;rw [hf] at this;cases this
  | cons v0 vr =>
   rw [hf] at e9;have hm0:v0∈(nums aa z aa.length).filter good:=by rw [hf];exact cH
   obtain⟨VN,SA⟩:=lV.mp hm0;obtain⟨m0,WE⟩:=iH VN;obtain⟨j,ru,rfl,ej,SQ⟩:=numOf m0 v0 WE;have hsz:aV g ru=n:=by
    have SA:(match aa[(j:Int).toNat]? with | some ru=>decide (aV g ru=n) | none=>false)=true:=SA
    rw [kx,ej] at SA;exact cZ SA
   have iY:=b9 ej;obtain⟨r,er,pp,v1,v2⟩:=Paired.at_ L9.cy j ru ej;have uZ:jZ (rs.map V.ref) (j:Int)=some (.ref r):=bZ (by rw [bz,er];rfl);have qJ:jZ (V.int (j:Int)::vr.map V.int) 0=some (.int (j:Int)):=bZ (j:=0) rfl;have e9:H9 D9=some (.lst (V.int (j:Int)::vr.map V.int)):=e9;have e89:=s9 _ _ e8;have r8:=h8 ru iY;have Vf:∀p∈ru.2,(Sum.inr p:aR)∈kvs.map (·.1):=λy hy=>by
    obtain⟨my,ey⟩:=lX.mp (RD ru iY y hy);by_cases hh:y∈hd aa
    .refine Qf y (vN pw SK (pe.mem_iff.mpr hh) ?_);show (g y).getD 0 < (g z).getD 0;rw [ey,WG];show my < n;rw [<-hsz];exact CB nn hy ey
    exact Va y (Y3 y hh (by rw [ey];rfl))
   refine⟨_,rfl,D9,_,_,_,rfl,rfl,aH.of e9,qJ,_,rfl,_,rfl,D9,_,_,_,rfl,rfl,aH.of e9,qJ,R,_,_,_,rfl,rfl,L9.hR,uZ,r,_,_,_,rfl,rfl,v1,rfl,pp,rfl,⟨_,v2⟩,λXM Wi=>sX (zs:=ru.2) rfl v2 ∅ e89 Vf Wi λys A1 ly wb Ef=>?_⟩;refine⟨XM,ys,rfl,.inl ⟨aH.of Ef,λt2 Nl=>⟨iP,λtS Dp=>?_⟩⟩⟩;have YW:=(af Nl (.tup ys)).trans (af Dp (.tup [.int (j:Int),.ref t2]));generalize upd (upd A1 t2 (.tup ys)) tS (.tup [.int (j:Int),.ref t2])=DX at YW;have Pu:=(s9.trans wb).trans YW;have Ir:=Pu _ _ e8;refine⟨_,rfl,_,rfl,dt,_,rfl,.inl ⟨kvs,Sum.inr z,Ir,rfl,bM ∅,rfl⟩,?_⟩;have Gb:∀y:aR,(y∈kvs.map (·.1)\/y=Sum.inr z)->y∈(bT kvs (Sum.inr z) (.ref tS)).map (·.1):=λy hy=>by
    by_cases hk:(Sum.inr z:aR)∈kvs.map (·.1)
    .rw [zV hk];rcases hy with hy | rfl
     .exact hy
     exact hk
    rw [iI hk];rcases hy with hy | rfl
    .exact h_ _ hy
    exact fQ _ cH
   have aah:(bT kvs (Sum.inr z) (.ref tS)).length<=kvs.length+1:=by
    have a:=congrArg List.length (Eq.refl ((bT kvs (Sum.inr z) (.ref tS)).map (·.1)));by_cases hk:(Sum.inr z:aR)∈kvs.map (·.1)
    .have b:=congrArg List.length (zV (v:=.ref tS) hk);rw [au,au] at b;omega
    have b:=congrArg List.length (iI (v:=.ref tS) hk);rw [au,a9,au,gw] at b;omega
   refine⟨_,_,_,rfl,λb u nb hb=>?_,ae,∅,λy hy=>Gb _ (.inl (Va y hy)),λy hy=>?_⟩
   .rw [aj nb];exact Pu _ _ (s8 b u nb hb)
   rw [cP,SK] at hy;rcases bQ.mp hy with hy | hy
   .exact Gb _ (.inl (Qf y hy))
   exact Gb _ (.inr (by rw [bF.mp (show y∈[z] from hy)]))
 rintro σ H8 ⟨kvs,y3,y4,rfl,s8,e8,U4,Va,Qf⟩;rw [au,cE] at Qf;have L8:=L7.KP e7 Yy Ys s8;refine⟨_,rfl,q dt kvs H8 ?_ (λb u n1 n3 hb=>?_) L8.t1 L8.t3 e8 λz hz=>Qf z (pe.mem_iff.mpr hz)⟩
 .cases c:H dt with
  | none=>rfl
  | some u =>
   by_cases h1:dt=T1
   .obtain⟨pp,a,_⟩:=L3.t1;rw [<-h1,K9] at a;cases a
   rw [Cu dt u h1 UQ c] at K9;cases K9
 refine s8 _ _ (λz=>?_) (HZ b u n1 n3 hb);rw [z] at hb;rw [Cu dt u (λy=>n1 (z.trans y)) UQ hb] at K9;cases K9
end
end hU
namespace L2
open PySem PySem.Spec PyProof.Rows
section
variable {prog:Program}{w:World}{A:Around}{E:Value->Shared->Prop}
def vI {h h':Heap}{ks:List aR}{a:Addr}(p:(tupleKind (bA prog w)).is h ks a)(k:∀b o,o.cls=.type "tuple" -> h.get? b=some o->h'.get? b=some o):(tupleKind (bA prog w)).is h' ks a :=
 let ⟨o,aT,n,h1,h2,h3,h4⟩:=p;⟨o,aT,n,k a o h2 h1,h2,h3,h4⟩
def wO {h h':Heap}{d:Addr}{xs:List (List aR×Addr×Value)}(hd:h.DictOfH (tupleKind (bA prog w)) d xs)(kd:∀o,h.get? d=some o->h'.get? d=some o)(k:∀b o,o.cls=.type "tuple" -> h.get? b=some o->h'.get? b=some o) :
  h'.DictOfH (tupleKind (bA prog w)) d xs :=
 let ⟨o,es,ep,q,c,dd,e,is,n⟩:=hd;⟨o,es,ep,kd o q,c,dd,e,λx hx=>vI (is x hx) k,n⟩
def lK (prog:Program)(w:World)(h:Heap)(u:Value)(kv:List aR×Addr×Value):Prop :=
 ∃t n o,u=.ref t/\(tupleKind (bA prog w)).is h kv.1 kv.2.1/\h.get? t=some o/\o.cls=.type "tuple" /\ o.data=.seq #[.ref kv.2.1,kv.2.2] n
def lK.keep {h h':Heap}{u:Value}{kv:List aR×Addr×Value}(p:lK prog w h u kv)(k:∀b o,o.cls=.type "tuple" -> h.get? b=some o->h'.get? b=some o):lK prog w h' u kv :=
 let ⟨t,n,o,a,b,c,d,e⟩:=p;⟨t,n,o,a,vI b k,k t o d c,d,e⟩
def BU (more xs:List (List aR×Addr×Value)):List (List aR×Addr×Value):=more.foldl (λa p=>storedH a p.1 p.2.1 p.2.2) xs
def JV {R:Result->Shared->Prop}{d it l:Addr}{items:Array Value}(hh:A.handled=none)(hu:A.units+1 < cLine):∀(more:List (List aR×Addr×Value)) (i:Nat)(s:Shared)(kvs:List (List aR×Addr×Value)) (j:Int)(tk:Tok),items.size=i+more.length ->
  s.heap.DictOfH (tupleKind (bA prog w)) d kvs->s.heap.IsListIter it l i->s.heap.IsList l items->(∀m kv,more[m]?=some kv->∃u,items[i+m]?=some u/\lK prog w s.heap u kv)->kvs.length+more.length<=sizeLine ->
  (∀h' t',h'.DictOfH (tupleKind (bA prog w)) d (BU more kvs)->(∀b o,b≠d->b≠it->s.heap.get? b=some o->h'.get? b=some o)->R (.ok (.ret .none)) { s with heap:=h',toks:=t' }) ->
  codeAny (model prog w) A (.builtin "dict.update.loop" ⟨[.ref d,.ref it,.int j tk,.none],[]⟩) R s:=by
 intro more
 induction more with
 | nil =>
  intro i s kvs j tk hi hd hit hl hp hz hR;refine qS lH ?_;rw [rf gr _];unfold Builtin.«dict.update.loop»;have hs:items[i]?=none:=Array.getElem?_eq_none (by rw [hi];exact aF _);refine aE (vq hh hit hl hs λh1 eb=>?_);have nd:d≠it:=λz=>by
   obtain⟨o,_,_,q,_,c,_⟩:=hd;obtain⟨o',q',_,c'⟩:=hit;rw [z,q'] at q;cases q;rw [c'] at c;cases c
  have nt:∀b o,o.cls=.type "tuple" -> s.heap.get? b=some o->b≠it:=λb o c q z=>by
   obtain⟨o',q',c',_⟩:=hit;rw [z,q'] at q;cases q;rw [c'] at c;exact absurd c (by decide)
  show wpAny _ _ (Builtin.Dict.addKeywords d [] >>= _) _ _ _;exact aE (aP (aP (hR h1 s.toks (wO hd (λo q=>eb d o nd q) λb o c q=>eb b o (nt b o c q) q) λb o n1 n2 q=>eb b o n2 q)))
 | cons kv more ih =>
  intro i s kvs j tk hi hd hit hl hp hz hR;refine qS lH ?_;rw [rf gr _];unfold Builtin.«dict.update.loop»;obtain⟨u,yf,t,n,o,rfl,hk,ho,hc,BP⟩:=hp 0 kv rfl;refine aE (wpAny_pyNext_list_item hit hl yf λh1 Vi sb=>?_);have nd:d≠it:=λz=>by
   obtain⟨o,_,_,q,_,c,_⟩:=hd;obtain⟨o',q',_,c'⟩:=hit;rw [z,q'] at q;cases q;rw [c'] at c;cases c
  have n2:∀b o,(o.cls=.type "tuple" \/ o.cls=.type "list")->s.heap.get? b=some o->b≠d/\b≠it:=by
   intro b o c q;constructor
   .intro z;obtain⟨o',q',c'⟩:=hd.typeIs;rw [z,q'] at q;cases q;rw [c'] at c;rcases c with c | c <;> exact absurd c (by decide)
   intro z;obtain⟨o',q',c',_⟩:=hit;rw [z,q'] at q;cases q;rw [c'] at c;rcases c with c | c <;> exact absurd c (by decide)
  have nt:∀b o,o.cls=.type "tuple" -> s.heap.get? b=some o->b≠d/\b≠it:=λb o c q=>n2 b o (.inl c) q;have nl:l≠d/\l≠it:=by
   obtain⟨o,q,c,_⟩:=hl;exact n2 l o (.inr c) q
  have Vc:∀b o,o.cls=.type "tuple" -> s.heap.get? b=some o->h1.get? b=some o:=λb o c q=>(sb.2 b (nt b o c q).2).trans q;have QK:h1.get? t=some o:=Vc t o hc ho;have wI:h1.DictOfH (tupleKind (bA prog w)) d kvs:=wO hd (λo q=>(sb.2 d nd).trans q) Vc;refine aE (jM (aE (wpAny_tryCatch ?_)));unfold Builtin.Dict.pairItems;refine aE (lS (T := "tuple") ⟨o,QK,hc⟩ ?_);rw [ax (by decide)];refine aE (qP QK BP (aP ?_));show wpAny _ _ (holding [.ref kv.2.1,kv.2.2] (dictSet d (.ref kv.2.1) kv.2.2)) _ _ _;rw [dY] at hz hi;refine jM (wpAny_dictSet_heap (s:={ s with heap:=h1 }) (oV hu) (vI hk Vc) wI (λh2 hd2 Pr=>?_) ∅);have kk:∀b o,b≠d->b≠it->s.heap.get? b=some o->h2.get? b=some o:=λb o n1 n2 q=>(Pr.2 b n1).trans ((sb.2 b n2).trans q);have ln:(storedH kvs kv.1 kv.2.1 kv.2.2).length<=kvs.length+1:=by
   unfold storedH
   split
   .simp
   simp
  refine aP ⟨oH gr _,ih (i+1) _ _ _ _ ∅ hd2 (Vi.at λo q=>(Pr.2 it (gB nd)).trans q) (hl.at λo q=>kk l o nl.1 nl.2 q) (λm Vb e=>?_) ∅ λh3 t3 ji k3=>?_⟩
  .obtain⟨u',e1,e2⟩:=hp (m+1) Vb e;exact⟨u',by rw [<-e1];congr 1;omega,e2.keep λb o c q=>kk b o (nt b o c q).1 (nt b o c q).2 q⟩
  exact hR h3 t3 ji λb o n1 n2 q=>k3 b o n1 n2 (kk b o n1 n2 q)
def qr {s:Shared}{l:Addr}{items:Array Value}{n:Nat}{more:List (List aR×Addr×Value)}{Q:Value->Shared->Prop}(hh:A.handled=none)(hu:A.units+2 < cLine)(hx:s.heap.get? l=some { cls:=.type "list",data:=.seq items n })
  (hi:items.size=more.length)(hp:∀(m:Nat) kv,more[m]?=some kv->∃u,items[m]?=some u/\lK prog w s.heap u kv)(hz:more.length<=sizeLine)
  (h:∀h' t',h'.DictOfH (tupleKind (bA prog w)) s.heap.objs.size (BU more [])->(∀b o,s.heap.get? b=some o->h'.get? b=some o)->Q (.ref s.heap.objs.size) { s with heap:=h',toks:=t' }) :
  wpAny (model prog w) A (call (.type "dict") [.ref l]) Q E s:=by
 refine callType_codes (Q₁:=λobj s₁=>obj=.ref s.heap.objs.size/\s₁={ s with heap:=s.heap.push { cls:=.type "dict",data:=.dict #[] } }) F.kt_called_dict (F.kt_typeCall_dict_1 _) F.entry_dict_init (kt_code_dict_new _ ⟨rfl,rfl⟩) ?_;rintro obj s₁ ⟨rfl,rfl⟩;have Ag:(s.heap.push { cls:=.type "dict",data:=.dict #[] }).DictOfH (tupleKind (bA prog w)) s.heap.objs.size []:=Heap.DictOfH.new s.heap;have l0:=cu { cls:=.type "dict",data:=.dict #[] } hx;refine⟨Ag.typeIs,F.args_dict_init_2 _ _,?_⟩;unfold Builtin.«dict.__init__» Builtin.Dict.selfAndRest;refine aE (aE (wpAny_notOrdered_dict Ag.typeIs (aP ?_)));show wpAny _ _ (Builtin.Dict.updateFrom "dict.__init__" s.heap.objs.size (.ref l) [] .none) _ _ _;unfold Builtin.Dict.updateFrom;refine aE (lS (T := "list") ⟨_,l0,rfl⟩ ?_);rw [ax zx];refine aE (px l0 hh λh1 t1 k1=>?_);refine aE (wpAny_rule ?_);have l1:=k1 _ _ l0;refine aE (oQ ⟨_,l1,rfl,_,rfl⟩ ?_);have k2:∀b o,s.heap.get? b=some o->(h1.push { cls:=.type "list_iterator",data:=.fields #[.ref l,.int 0 0] }).get? b=some o:=λb o q=>cu _ (k1 _ _ (cu _ q));refine aP ⟨oH gr _,JV (A:=A.in1) (l:=l) (items:=items) (show A.in1.handled=none from hh) (show A.in1.units+1 < cLine by rw [mn];omega) more 0 _ [] _ _ (by rw [hi,oI]) ?_ ⟨_,dZ _ rfl,rfl,rfl⟩ ⟨_,k2 _ _ hx,rfl,n,rfl⟩ (λm kv e=>?_) (by simpa using hz) λh' t' hd k3=>?_⟩
 .exact wO Ag (λo q=>cu _ (k1 _ _ q)) λb o _ q=>cu _ (k1 _ _ q)
 .obtain⟨u,e1,e2⟩:=hp m kv e;exact⟨u,by rw [oI];exact e1,e2.keep λb o _ q=>k2 b o q⟩
 refine⟨rfl,h h' t' hd λb o q=>k3 b o (cv (bN q)) ?_ (k2 b o q)⟩;have:=bN (k1 _ _ (cu { cls:=.type "dict",data:=.dict #[] } q));exact cv this
end
def ot (kvs bV:List (List aR×V)):List (List aR×V):=kvs.foldl (λa p=>bT a p.1 p.2) bV
theorem uJ {H:Hp}:∀{kvs:List (List aR×V)}{vs:List (List aR×Addr×Value)}{bV:List (List aR×V)}{Hv:List (List aR×Addr×Value)},KT H kvs vs->KT H bV Hv->KT H (ot kvs bV) (BU vs Hv)
 | _,_,_,_,.nil,h=>h
 | _,_,_,_,.cons (a:=p) (b:=q) r t,h=>by
  obtain⟨e,hb,rv⟩:=r;show KT H (ot _ (bT _ p.1 p.2)) (BU _ (storedH _ q.1 q.2.1 q.2.2));rw [<-e];exact uJ t (h.put p.1 hb rv)
theorem uK:∀(kvs bV:List (List aR×V)),(ot kvs bV).length<=bV.length+kvs.length
 | [],bV=>by simp [ot]
 | p::r,bV=>by
  have:=uK r (bT bV p.1 p.2);have:=gb bV p.1 p.2;show (ot r (bT bV p.1 p.2)).length<=_;rw [dY];omega
section
variable {X:Cx}{ah:List (Addr×Obj)}{σ:St}{H:Hp}{s:Shared}
abbrev OO (K:ba)(H:Hp)(t:Addr)(kv:List aR×V):Prop:=∃b,aS K H t [.ref b,kv.2]/\H b=some (.tup (kv.1.map kV))
theorem uy (I:Inv X ah σ H s):∀{ts:List Addr}{kvs:List (List aR×V)}{aT:List Value},Paired (OO X.K H) ts kvs->bf (ts.map V.ref) aT ->
  ∃vs:List (List aR×Addr×Value),KT H kvs vs/\Paired (λu kv=>lK X.prog X.w s.heap u kv) aT vs
 | [],_,_,.nil,r=>by
  rw [mh] at r;cases r;exact⟨[],.nil,.nil⟩
 | t::ts,kv::kvs,_,.cons h p,r=>by
  rw [cO] at r;cases r with
  | cons r1 r2 =>
   obtain⟨vs,e1,e2⟩:=uy I p r2;obtain⟨b,h0,hb⟩:=h;obtain⟨aT,rv,⟨o,h1,h2,n,h3⟩,_⟩:=I.tuple h0;obtain⟨u1,u2,rfl,q1,q2⟩:=vals2 rv;cases (show u1=Value.ref b from q1);exact⟨(kv.1,b,u2)::vs,.cons ⟨rfl,hb,q2⟩ e1,.cons ⟨t,n,o,r1,mI I.cw hb,h1,h2,h3⟩ e2⟩
def yG (hc:X.calm=true)(hu:X.A.units+2 < cLine):iC X (.type "dict") (λxs H Q=>∃a ts kvs,xs=[.ref a]/\H a=some (.lst (ts.map V.ref))/\Paired (OO X.K H) ts kvs/\∀d,H d=none->Q (.ref d) (upd H d (.dT (ot kvs [])))):=by
 intro ah s σ H xs us Q I r h;obtain⟨a,ts,kvs,rfl,e,p,q⟩:=h;obtain⟨u,rfl,rx⟩:=vals1 r;cases (show u=Value.ref a from rx);obtain⟨z,aT,n,rv,ho⟩:=(show cR X.prog X.w H s.heap a (.lst _) from I.cw a _ e);obtain⟨vs,r1,r2⟩:=uy I p rv;have l1:=aU r2;have l2:=aU r1;have l3:=aU p;rw [au] at z;refine qr (I.ok.hd hc) hu ho (by simpa using l1) (λm kv em=>?_) ∅ λh' t' hd kk=>?_
 .obtain⟨u,e1,e2⟩:=Paired.at_ r2 m kv em;exact⟨u,by simpa using e1,e2⟩
 have fr:=I.cw.fresh (aF s.heap.objs.size);have new:cR X.prog X.w (upd H s.heap.objs.size (.dT (ot kvs []))) h' s.heap.objs.size (.dT (ot kvs [])):=by
  obtain⟨o,es,ep,hq,h2,h3,h4,_,h5⟩:=hd;refine⟨?_,?_,_,(uJ r1 .nil).keeps λc ys ec=>?_,o,es,ep,hq,h2,h3,h4,h5⟩
  .have:=uK kvs [];simp at this;omega
  .have:=I.big;exact kC.mpr (lU this)
  rw [aj (aw ec fr)];exact ec
 exact⟨.ref s.heap.objs.size,_,I.laid (t':=t') kk (aF _) new,rfl,q _ fr⟩
end
open PySem M11
def DM {K:ba}{H:Hp}{bg D:Addr}{ts:List Addr}{cS:List Be}{σ:St}{x1 x2 x3 x4:Str}{Qp:Hp->Prop}(hb:aH K H bg (ts.map V.ref))(Oq:Paired (λt (b:Be)=>aS K H t [.str b.1,.str b.2.1,.int (b.2.2.1:Int),.int (b.2.2.2:Int)]) ts cS)(bE:cS.length<=900000)(hD:H D=none)
  (q:∀us H2,aA H H2->H2 D=some (.lst (us.map V.ref))->Paired (λu (b:Be)=>∃v,OO K H2 u ([Sum.inr b.1,Sum.inr b.2.1],.ref v)) us cS->Qp H2) :
  ∃W:Nat->Nat->List V->St->Hp->Prop,(∃m,W 0 m [] (eU [x1,x2,x3,x4] [] σ) (upd H D (.lst []))) /\
 ∀i m ys σ' H,W i m ys σ' H->((ke K bg).stop i H/\Qp H)\/((ke K bg).go i H/\∃m',m' < m/\∀x H',(ke K bg).mP i H x H'->AA K 4 (jB (dN 0) (jB (dN 1) (jB (dN 2) (jB (dN 3) Dj)))) x σ' H' λσ2 H2=>iu σ2 H2 λb H3 =>
  if b=true then tP (gY (tP (gY (gS 0) (gY (gS 1) rB))) (gY (tP (gY (gS 2) (gY (gS 3) rB))) rB)) σ2 H3 λy H4=>H4 D=some (.lst ys)/\ys.length < sizeLine/\W (i+1) m' (ys++[y]) σ2 (upd H4 D (.lst (ys++[y]))) else W (i+1) m' ys σ2 H3):=by
 have ll:=aU Oq;refine cM (xs:=ts.map V.ref) (λi ys σ2 H2=>∃us:List Addr,ys=us.map V.ref/\us.length=i/\Paired (λu (b:Be)=>∃v,OO K H2 u ([Sum.inr b.1,Sum.inr b.2.1],.ref v)) us (cS.take i)/\(∃y0 y1 y2 y3,σ2=[y0,y1,y2,y3])/\aA H H2/\H2 D=some (.lst ys))
  ⟨[],rfl,rfl,.nil,⟨none,none,none,none,rfl⟩,af hD _,ae⟩ (λi ys σ2 H2 _ h=>?_) (λi x ys σ2 H2 ex h=>?_) (λys σ2 H2 h=>?_)
 .obtain⟨_,_,_,_,_,sm,_⟩:=h;exact sm.seq hb
 .obtain⟨us,rfl,hu,hp,⟨y0,y1,y2,y3,rfl⟩,sm,hd⟩:=h;rw [bz] at ex;obtain⟨r,er,rfl⟩:=cC.mp ex;have lr:=(bu.mp er).1;obtain⟨b,e1⟩:∃b,cS[i]?=some b:=⟨cS[i]'∅,dG ∅⟩;obtain⟨r',Rf,v1⟩:=Paired.at_ Oq i b e1;rw [er] at Rf;cases Rf;have li:=(bu.mp e1).1;refine⟨r,_,rfl,sm.tup v1,rfl,_,_,rfl,_,_,rfl,_,_,rfl,_,_,rfl,rfl,?_⟩;refine yl ?_;refine⟨_,rfl,_,rfl,iP,λk hk=>⟨_,rfl,_,rfl,iP,λv hv=>⟨iP,λu BM=>?_⟩⟩⟩;have s3:=(af hk (.tup [V.str b.1,V.str b.2.1])).trans ((af hv (.tup [V.int (b.2.2.1:Int),V.int (b.2.2.2:Int)])).trans (af BM (.tup [.ref k,.ref v])));have ek:=((af hv (.tup [V.int (b.2.2.1:Int),V.int (b.2.2.2:Int)])).trans (af BM (.tup [.ref k,.ref v]))) k _ ae;have eu:aS K (upd (upd (upd H2 k (.tup [V.str b.1,V.str b.2.1])) v (.tup [V.int (b.2.2.1:Int),V.int (b.2.2.2:Int)])) u (.tup [.ref k,.ref v])) u [.ref k,.ref v]:=aS.of ae;generalize upd (upd (upd H2 k (.tup [V.str b.1,V.str b.2.1])) v (.tup [V.int (b.2.2.1:Int),V.int (b.2.2.2:Int)])) u (.tup [.ref k,.ref v])=H4 at s3 ek eu;have Ed:=s3 _ _ hd;refine⟨Ed,bM (by rw [au];omega),us++[u],by rw [bG];rfl,by rw [a9,hu];rfl,?_,⟨_,_,_,_,rfl⟩,?_,ae⟩
  .rw [cP,e1];have kD:k≠D:=λz=>by rw [z,Ed] at ek;cases ek
   exact hZ (Paired.e_ hp λu' b' ⟨v',bb,p1,p2⟩=>⟨v',bb,a7 Ed (s3.tup p1),by rw [aj (λz=>by rw [z,hd] at p2;cases p2)];exact s3 _ _ p2⟩) ⟨v,k,a7 Ed eu,by rw [aj kD];exact ek⟩
  intro c o hc;rw [aj (λz=>by rw [z,hD] at hc;cases hc)];exact s3 _ _ (sm c o hc)
 obtain⟨us,rfl,hu,hp,_,sm,hd⟩:=h;rw [au,ll,cE] at hp;exact q us H2 sm hd hp
theorem Fj {K:ba}{H:Hp}:∀{us:List Addr}{cS:List Be},Paired (λu (b:Be)=>∃v,OO K H u ([Sum.inr b.1,Sum.inr b.2.1],.ref v)) us cS->∃kvs,Paired (OO K H) us kvs
 | _,_,.nil=>⟨[],.nil⟩
 | _,_,.cons ⟨v,h⟩ t=>let ⟨kvs,p⟩:=Fj t;⟨_::kvs,.cons h p⟩
end L2
namespace hU
open PySem L2 M11
def Tab.s2 {T T1 T2:Addr}{p p1 p2:Pos}{q q1 q2:Str}{H H':Hp}(h:Tab T p q H)(s:l_ T1 T2 H H')(t1:Tab T1 p1 q1 H)(t2:Tab T2 p2 q2 H)(n1:T≠T1)(n2:T≠T2):Tab T p q H':=by
 obtain⟨ps,a,b,c⟩:=h;obtain⟨Sg,b1,_⟩:=t1;obtain⟨Sf,b2,_⟩:=t2;refine⟨ps,s _ _ n1 n2 a,b,c.imp id ?_⟩;rintro⟨c',e,g⟩;exact⟨c',e,s _ _ (λz=>by rw [z,b1] at g;cases g) (λz=>by rw [z,b2] at g;cases g) g⟩
def kN {T a C dx:Addr}{pos:Pos}{qu:Str}{H:Hp}{fs:List (Str×V)}{o:HO}(h:Tab T pos qu H)(ha:H a=some (.ins C dx fs)):Tab T pos qu (upd H a o):=by
 obtain⟨ps,p,r,c⟩:=h;refine⟨ps,by rw [aj (λz=>by rw [z,ha] at p;cases p)];exact p,r,c.imp id ?_⟩;rintro⟨c',e,g⟩;exact⟨c',e,by rw [aj (λz=>by rw [z,ha] at g;cases g)];exact g⟩
def Kp (H H':Hp):Prop:=∀b o,H b=some o->(∀ps,o≠.tL ps)->H' b=some o
def Kp.trans {H H1 H2:Hp}(a:Kp H H1)(b:Kp H1 H2):Kp H H2:=λc o h n=>b c o (a c o h n) n
def Kp.of {H H':Hp}(s:aA H H'):Kp H H':=λb o h _=>s b o h
def Kp.of2 {T1 T2:Addr}{p1 p2:Pos}{q1 q2:Str}{H H':Hp}(s:l_ T1 T2 H H')(t1:Tab T1 p1 q1 H)(t2:Tab T2 p2 q2 H):Kp H H':=λc o hc hn=>by
 obtain⟨Sg,b1,_⟩:=t1;obtain⟨Sf,b2,_⟩:=t2;exact s c o (λz=>by rw [z,b1] at hc;cases hc;exact hn _ rfl) (λz=>by rw [z,b2] at hc;cases hc;exact hn _ rfl) hc
section
theorem Kp.lst {H H':Hp}(k:Kp H H'){a:Addr}{xs:List V}(h:H a=some (.lst xs)):H' a=some (.lst xs):=k a _ h (λ_ z=>by cases z)
def Kp.tup {H H':Hp}(k:Kp H H'){a:Addr}{xs:List V}(h:aS K H a xs):aS K H' a xs:=by
 rcases h with (h | ⟨u,h⟩) | h
 .exact .inl (.inl (k _ _ h (λ_ z=>by cases z)))
 .exact .inl (.inr ⟨u,k _ _ h (λ_ z=>by cases z)⟩)
 exact .inr h
def Kp.seq {H H':Hp}(k:Kp H H'){a:Addr}{xs:List V}(h:aH K H a xs):aH K H' a xs:=by
 rcases h with (h | ⟨u,h⟩) | h
 .exact .inl (.inl (k _ _ h (λ_ z=>by cases z)))
 .exact .inl (.inr ⟨u,k _ _ h (λ_ z=>by cases z)⟩)
 exact .inr h
theorem Kp.aa {H H':Hp}(k:Kp H H'){rs:List Addr}{aa:List ar}(h:bK K H rs aa):bK K H' rs aa:=h.keep λ_ _ z=>k.tup z
abbrev zL:Stmt:=P9 sLT 0
structure LC (K:ba)(C:Addr):Prop where
 cls:DZ K C
 a1:eV K C "rules"
 a2:eV K C "empty"
 a3:eV K C "least"
 a4:eV K C "hollow"
 a5:eV K C "beginnings"
structure Eo (C3 T1 T3:Addr)(H0 H:Hp)(a dx:Addr)(fs:List (Str×V)):Prop where
 sm:l_ T1 T3 H0 H
 ia:H a=some (.ins C3 dx fs)
 fa:H0 a=none
 t1:Tab T1 rX.2.2.2 yT H
 t3:Tab T3 posB Ib H
 o1:Tab T1 rX.2.2.2 yT H0
 o3:Tab T3 posB Ib H0
def Eo.kp {C3 T1 T3 a dx:Addr}{H0 H:Hp}{fs:List (Str×V)}(h:Eo C3 T1 T3 H0 H a dx fs):Kp H0 H:=Kp.of2 h.sm h.o1 h.o3
def Eo.set {C3 T1 T3 a dx:Addr}{H0 H:Hp}{fs:List (Str×V)}(h:Eo C3 T1 T3 H0 H a dx fs)(Io:List (Str×V)):Eo C3 T1 T3 H0 (upd H a (.ins C3 dx Io)) a dx Io :=
 ⟨λb o n1 n3 hb=>by rw [aj (λz=>by rw [z,h.fa] at hb;cases hb)];exact h.sm b o n1 n3 hb,ae,h.fa,kN h.t1 h.ia,kN h.t3 h.ia,h.o1,h.o3⟩
def Eo.next {C3 T1 T3 a dx:Addr}{H0 H H':Hp}{fs:List (Str×V)}(h:Eo C3 T1 T3 H0 H a dx fs)(s:aA H H'):Eo C3 T1 T3 H0 H' a dx fs :=
 ⟨λb o n1 n3 hb=>s _ _ (h.sm b o n1 n3 hb),s _ _ h.ia,h.fa,h.t1.same s,h.t3.same s,h.o1,h.o3⟩
def Eo.P0 {C3 T1 T3 a dx:Addr}{H0 H H':Hp}{fs:List (Str×V)}(h:Eo C3 T1 T3 H0 H a dx fs)(s:l_ T1 T3 H H')(t1:Tab T1 rX.2.2.2 yT H')(t3:Tab T3 posB Ib H'):Eo C3 T1 T3 H0 H' a dx fs :=
 ⟨λb o n1 n3 hb=>s _ _ n1 n3 (h.sm b o n1 n3 hb),Kp.of2 s h.t1 h.t3 _ _ h.ia (λ_ z=>by cases z),h.fa,t1,t3,h.o1,h.o3⟩
def Bm (K:ba)(C C3 T1 T3:Addr):Sp:=λvs H Q _=>∃(H0 Hb:Hp)(a dx R x e d bg:Addr)(rs:List Addr)(aa:List ar)(kE:List (aR×V))(bH:List (Str×Nat))(ps:List (Str×Addr))(cS:List Be),vs=[.ref a,.ref R,.ref x]/\aA H0 H/\H0 a=none/\H a=some (.ins C3 dx [])/\aH K H0 R (rs.map V.ref)/\bK K H0 rs aa /\
 aa.length < 64/\(∀ru∈aa,ru.2.length<=8)/\(∀g,fj M11.bl aa (yY aa) g->jc M11.bl aa g->∀h∈hd aa,∃n,g h=some n/\n<=60)/\tZ K C Hb H0 x e d bg kE bH ps cS/\w6 aa bH/\cS.length<=80000/\Tab T1 rX.2.2.2 yT H0/\Tab T3 posB Ib H0/\T1≠T3 /\
 ∀H',l_ T1 T3 H0 H'->Tab T1 rX.2.2.2 yT H'->Tab T3 posB Ib H'->Q .fg H'
def IV:aK ["self","rules","begin_table"] ["self","rules","begin_table"] (av zL):=iM rfl rfl rfl rfl (by decide +kernel)
def FK {C C3 T1 T3:Addr}(F:iB K "__init__" "LeastTrees.__init__" zL f fd)(T:Txt mg)(B:BC K C)(L:LC K C3)(GL:aC P w K mg base 4 "least_by_part" ["rules"] (o5 K T1 T3))(GE:aC P w K mg base 4 "empty_by_name" ["rules","empties"] (uk K)) :
  bR P w K mg base gk 5 f fd ["self","rules","begin_table"] (Bm K C C3 T1 T3):=by
 refine F.ok IV (λvs H Q E h=>?_) (λeX A outer s H vs Q E hr h=>?_)
 .obtain⟨H0,Hb,a,dx,R,x,e,d,bg,rs,aa,kE,bH,ps,cS,rfl,_⟩:=h;rfl
 obtain⟨H0,Hb,a,dx,R,x,e,d,bg,rs,aa,kE,bH,ps,cS,rfl,s0,f0,ea,hR,cy,bE,h8,Gx,S,emp,ME,t1,t3,nT,q⟩:=h;have hu:=q_ (Nat.add_le_add_left (by decide:2<=64) _) hr.units;refine⟨_,ai (g6 (pv 0) (pv 1) rfl)
  (ai (g6 (pv 0) (fP (pv 2) rfl) rfl)
  (ai (g6 (pv 0) (bp GL hr rfl (ab (pv 1) ag)) rfl)
  (ai (g6 (pv 0) (bp GE hr rfl (ab (pv 1) (ab (fP (pv 2) rfl) ag))) rfl)
  (ak (g6 (pv 0) (bc (yG rfl hu) rfl T.AN gi (ab (bD ["name","word","number","place"] [] rfl (a8 (fP (pv 2) rfl)) (br rfl rfl) (by decide +kernel) rfl (by decide +kernel)
   (λ_ _ _ _ _=>fR (n:=4) K rfl (aB (aq (i:=0) (show (["name","word","number","place"]:List Str).Nodup by decide +kernel) rfl (bC rfl)) (aB (aq (i:=1) (show (["name","word","number","place"]:List Str).Nodup by decide +kernel) rfl (bC rfl)) (aB (aq (i:=2) (show (["name","word","number","place"]:List Str).Nodup by decide +kernel) rfl (bC rfl)) (aB (aq (i:=3) (show (["name","word","number","place"]:List Str).Nodup by decide +kernel) rfl (bC rfl)) b_))))) (λ_ _ _ _ _=>b8)
   (λ_ _ _ _ _=>bo (ab (bo (ab (pv 0) (ab (pv 1) ag))) (ab (bo (ab (pv 2) (ab (pv 3) ag))) ag)))) ag)) rfl))))),?_⟩
 nofun
 have S0:Eo C3 T1 T3 H0 H a dx []:=⟨λb o _ _ hb=>s0 b o hb,ea,f0,t1.same s0,t3.same s0,t1,t3⟩;obtain⟨e1,te,⟨OI,Ox,SN,leb⟩,ee1,evb,_⟩:=S.em;obtain⟨aas,aap,Q8,l1,l2,_⟩:=S.ia;rw [SN] at Q8;cases Q8;obtain⟨tb,ebg,Oq⟩:=S.lb;have lets:=emp.len;refine⟨_,rfl,_,rfl,a,C3,dx,[],rfl,S0.ia,L.cls,L.a1,(by show 0 < 1000;decide),?_⟩;have S1:=S0.set (eG "rules" (.ref R) []);generalize SD:eG "rules" (.ref R) []=SJ at S1;generalize upd H a (.ins C3 dx SJ)=H1 at S1;have x1:H1 x=some (.ins C OI Ox):=S1.kp _ _ SN (λ_ z=>by cases z);refine⟨_,rfl,x,C,OI,Ox,_,rfl,x1,B.cls,B.a2,l1,_,rfl,a,C3,dx,SJ,rfl,S1.ia,L.cls,L.a2,(by rw [<-SD];show 1 < 1000;decide),?_⟩;have S2:=S1.set (eG "empty" (.ref e) SJ);generalize QP:eG "empty" (.ref e) SJ=tV at S2;generalize upd H1 a (.ins C3 dx tV)=H2 at S2;refine⟨_,rfl,R,rs,aa,rfl,S2.kp.seq hR,S2.kp.aa cy,bE,h8,Gx,S2.t1,S2.t3,nT,λdl kl H3 fdl s3 yR t33 edl kdl=>?_⟩;have S3:=S2.P0 s3 yR t33;refine⟨_,rfl,a,C3,dx,tV,rfl,S3.ia,L.cls,L.a3,(by rw [<-QP,<-SD];show 2 < 1000;decide),?_⟩;have S4:=S3.set (eG "least" (.ref dl) tV);generalize Zj:eG "least" (.ref dl) tV=Oy at S4;generalize upd H3 a (.ins C3 dx Oy)=H4 at S4;have x4:H4 x=some (.ins C OI Ox):=S4.kp _ _ SN (λ_ z=>by cases z);refine⟨_,rfl,_,rfl,x,C,OI,Ox,_,rfl,x4,B.cls,B.a1,leb,R,e1,rs,te,aa,bH,rfl,S4.kp.seq hR,S4.kp.aa cy,∅,h8,aH.of (S4.kp.lst ee1),evb.keep λ_ _ z=>S4.kp.tup z,emp,∅,λdh kh H5 fdh s5 edh kdh=>?_⟩;have S5:=S4.next s5;refine⟨_,rfl,a,C3,dx,Oy,rfl,S5.ia,L.cls,L.a4,(by rw [<-Zj,<-QP,<-SD];show 3 < 1000;decide),?_⟩;have S6:=S5.set (eG "hollow" (.ref dh) Oy);generalize hf6:eG "hollow" (.ref dh) Oy=yZ at S6;generalize upd H5 a (.ins C3 dx yZ)=H6 at S6;have x6:H6 x=some (.ins C OI Ox):=S6.kp _ _ SN (λ_ z=>by cases z);have b6:=S6.kp.lst ebg;have v6:Paired (λt (b:Be)=>aS K H6 t [.str b.1,.str b.2.1,.int (b.2.2.1:Int),.int (b.2.2.2:Int)]) tb cS:=Paired.e_ Oq λ_ _ z=>S6.kp.tup z;refine⟨_,rfl,x,C,OI,Ox,_,rfl,x6,B.cls,B.a3,l2,bg,rfl,⟨_,aH.of b6⟩,λD7 Wf=>DM (aH.of b6) v6 ∅ Wf λus H7 s7 e7 p7=>?_⟩;obtain⟨kvs,pk⟩:=Fj p7;refine⟨D7,us,kvs,rfl,e7,pk,λdb Df=>?_⟩;have S8:=(S6.next s7).next (af Df (.dT (ot kvs [])));refine⟨_,rfl,a,C3,dx,yZ,rfl,S8.ia,L.cls,L.a5,(by rw [<-hf6,<-Zj,<-QP,<-SD];show 4 < 1000;decide),?_⟩;have S9:=S8.set (eG "beginnings" (.ref db) yZ);exact q _ S9.sm S9.t1 S9.t3
structure HS (K:ba)(x qual:Str)(st:Stmt)(f:Addr)(fd:FuncData):Prop where
 ex:∃(oc:Value)(od:Option Addr)(kV doc pm:Value)(an:Option Addr)(eX ct:Value)(xR:Array (Option Value))(T:Addr)(o:Obj) (n:Nat),
  fd=PySem.W.fnOf x qual (dI st) (cA st) (av st) (.ref T) kV doc pm an eX ct/\K.lookup f=some ⟨oc,od,.func fd,xR⟩/\PySem.W.codeIn K eX qual=true/\K.lookup T=some o/\o.data=.seq #[.none] n
 kp:PySem.W.keepIn K (.ref f)=true
def HS.ok {x qual:Str}{st:Stmt}{f:Addr}{fd:FuncData}{N ps:List Str}{k:Nat}{sp:Sp}(F:HS K x qual st f fd)(S:aK N ps (av st))(len:∀vs H Q E,sp vs H Q E->vs.length=ps.length)
  (jA:∀(eX:Value)(A:Around)(outer:List Env)(s:Shared)(H:Hp)(vs:List V)(Q:VK)(E:XK),fX k (A.deeper (PyProof.Rows.envOfC qual (av st) s.heap.objs.size f eX))->sp vs H Q E ->
   ∃t,AW (pI gk P w K mg base N qual (av st) f eX A outer s H E).CS (cA st) t/\t { nx:=λ_ H'=>Q .fg H',rt:=Q } (start N vs) H):bR P w K mg base gk (k+1) f fd ps sp:=by
 obtain⟨oc,od,kV,doc,pm,an,eX,ct,xR,T,o,n,rfl,lk,wJ,_⟩:=F.ex;refine G1 lk wJ S len λA outer s H vs Q E hr yV=>?_;obtain⟨t,h,q⟩:=jA eX A outer s H vs Q E hr yV;exact⟨t,h.CS,q⟩
def GU {f:Addr}{fd:FuncData}(F:HS K "__init__" "Grammar.__init__" vY f fd):Binds K fd ["self","rules","strengths"] [.none]:=by
 obtain⟨oc,od,kV,doc,pm,an,eX,ct,xR,T,o,n,rfl,lk,wJ,lT,dT⟩:=F.ex;intro s us KI hl;have tU:us.length=2:=by
  have:(us++[Value.none]).length=3:=hl;rw [a9] at this;exact Nat.succ.inj this
 match us,tU with
 | [u1,u2],_=>exact BindsTo.of_defaults rfl (KI T o lT) dT rfl rfl
structure GC (K:ba)(C:Addr):Prop where
 cls:DZ K C
 a1:eV K C "rules"
 a2:eV K C "strengths"
 a3:eV K C "begin_table"
 a4:eV K C "standings"
 a5:eV K C "small_trees"
def StrIn (K:ba)(H:Hp)(sv:V)(ss:List Addr)(str:List ar):Prop:=(sv=.fg/\ss=[]/\str=[])\/∃S,sv=.ref S/\aH K H S (ss.map V.ref)/\bK K H ss str
def GrV (H0 H:Hp)(Cg g:Addr)(rs ss:List Addr)(bt:Addr):Prop:=∃gx fs R2 S2,H g=some (.ins Cg gx fs)/\fs.lookup ("rules":Str)=some (.ref R2)/\fs.lookup ("strengths":Str)=some (.ref S2)/\fs.lookup ("begin_table":Str)=some (.ref bt)/\fs.lookup ("start":Str)=none /\
 H R2=some (.lst (rs.map V.ref))/\H S2=some (.lst (ss.map V.ref))/\H0 R2=none/\H0 S2=none
def qe (T1 T2 T3:Addr)(H H':Hp):Prop:=∀b o,b≠T1->b≠T2->b≠T3->H b=some o->H' b=some o
structure Cb (T1 T2 T3:Addr)(H:Hp):Prop where
 t1:Tab T1 rX.2.2.2 yT H
 t2:Tab T2 Ak.2.2.2 KL H
 t3:Tab T3 posB Ib H
 KG:T1≠T2
 KD:T1≠T3
 KC:T2≠T3
theorem Cb.same {T1 T2 T3:Addr}{H H':Hp}(h:Cb T1 T2 T3 H)(s:aA H H'):Cb T1 T2 T3 H':=⟨h.t1.same s,h.t2.same s,h.t3.same s,h.KG,h.KD,h.KC⟩
def Cb.Es {T1 T2 T3 a C dx:Addr}{H:Hp}{fs:List (Str×V)}{o:HO}(h:Cb T1 T2 T3 H)(ha:H a=some (.ins C dx fs)):Cb T1 T2 T3 (upd H a o):=⟨kN h.t1 ha,kN h.t2 ha,kN h.t3 ha,h.KG,h.KD,h.KC⟩
def Kp.of3 {T1 T2 T3:Addr}{H H':Hp}(s:qe T1 T2 T3 H H')(t:Cb T1 T2 T3 H):Kp H H':=λc o hc hn=>by
 obtain⟨Sg,b1,_⟩:=t.t1;obtain⟨Sf,b2,_⟩:=t.t2;obtain⟨ps3,b3,_⟩:=t.t3;exact s c o (λz=>by rw [z,b1] at hc;cases hc;exact hn _ rfl) (λz=>by rw [z,b2] at hc;cases hc;exact hn _ rfl) (λz=>by rw [z,b3] at hc;cases hc;exact hn _ rfl) hc
def Bn (K:ba)(Cg C T1 T2 T3:Addr):Sp:=λvs H Q _=>∃(H0:Hp)(g gx R:Addr)(sv:V)(rs ss:List Addr)(aa str:List ar)(rk:Str->Nat)(b:Str->Int),vs=[.ref g,.ref R,sv]/\aA H0 H/\H0 g=none/\H g=some (.ins Cg gx [])/\aH K H0 R (rs.map V.ref)/\bK K H0 rs aa/\aa.length < 64/\(∀ru∈aa,ru.2.length<=8)/\aa≠[] /\
 StrIn K H0 sv ss str/\str.length<=1000/\(∀ru∈str,ru.2.length<=8)/\(str.flatMap (·.2)).Nodup/\Good aa rk b/\Cb T1 T2 T3 H0 /\
 ∀(bt:Addr)(H':Hp),qe T1 T2 T3 H0 H'->Cb T1 T2 T3 H'->GrV H0 H' Cg g rs ss bt->Q .fg H'
def tZ.Es {C:Addr}{H0 H:Hp}{a e d bg:Addr}{kE:List (aR×V)}{bH:List (Str×Nat)}{ps:List (Str×Addr)}{cS:List Be}{g Cg gx:Addr}{fs Io:List (Str×V)}(h:tZ K C H0 H a e d bg kE bH ps cS)(hg:H0 g=some (.ins Cg gx fs))(na:a≠g) :
  tZ K C (upd H0 g (.ins Cg gx Io)) (upd H g (.ins Cg gx Io)) a e d bg kE bH ps cS:=by
 have JL:=h.sm _ _ hg;have up:∀c o,c≠g->H c=some o->upd H g (.ins Cg gx Io) c=some o:=λc o n q=>by rw [aj n];exact q
 refine⟨λc o hc=>?_,?_,up _ _ (λz=>by have:=h.he;rw [z,JL] at this;cases this) h.he,up _ _ (λz=>by have:=h.hd;rw [z,JL] at this;cases this) h.hd,h.n1,h.n2,λp hp=>?_,?_,?_,?_⟩
 .by_cases z:c=g
  .rw [z,ae] at hc ⊢;exact hc
  rw [aj z] at hc ⊢;exact h.sm _ _ hc
 .obtain⟨dx,fs,q,r⟩:=h.ia;exact⟨dx,fs,up _ _ na q,r⟩
 .obtain⟨⟨kvs,q,r⟩,t1,t2⟩:=h.dk p hp;exact⟨⟨kvs,up _ _ (λz=>by rw [z,JL] at q;cases q) q,r⟩,by rw [aj (λz=>by rw [z,hg] at t1;cases t1)];exact t1,t2⟩
 .obtain⟨ts,q,r⟩:=h.lb;exact⟨ts,up _ _ (λz=>by rw [z,JL] at q;cases q) q,Paired.e_ r λ_ _ z=>ix JL z⟩
 .have t1:=h.fb;rw [aj (λz=>by rw [z,hg] at t1;cases t1)];exact t1
 obtain⟨e1,ts,⟨dx,fs,q1,q2⟩,q3,q4,q5⟩:=h.em;exact⟨e1,ts,⟨dx,fs,up _ _ na q1,q2⟩,up _ _ (λz=>by rw [z,JL] at q3;cases q3) q3,q4.keep λ_ _ z=>ix JL z,q5⟩
def IY:aK ["self","rules","strengths"] ["self","rules","strengths"] (av vY):=iM rfl rfl rfl rfl (by decide +kernel)
def FQ {Cg C C3 T1 T2 T3 fB fL:Addr}{Zy Zv:FuncData}(F:HS K "__init__" "Grammar.__init__" vY f fd)(T:Txt mg)(G:GC K Cg)(GR:aC P w K mg base 6 "refuse_faults" ["rules","strengths"] (rF K T1 T2))(GS:aC P w K mg base 6 "standings_by_part" ["rules"] (Km K))
  (FB:bR P w K mg base gk 5 fB Zy ["self","rules"] (Br K C))(MB:Mk K C fB)(BB:Binds K Zy ["self","rules"] [])(mB:mg "BeginTable"=some (.ref C))
  (FL:bR P w K mg base gk 5 fL Zv ["self","rules","begin_table"] (Bm K C C3 T1 T3))(ML:Mk K C3 fL)(BL:Binds K Zv ["self","rules","begin_table"] [])(mL:mg "LeastTrees"=some (.ref C3)):bR P w K mg base gk 7 f fd ["self","rules","strengths"] (Bn K Cg C T1 T2 T3):=by
 refine F.ok IY (λvs H Q E h=>?_) (λeX A outer s H vs Q E hr h=>?_)
 .obtain⟨H0,g,gx,R,sv,rs,ss,aa,str,rk,b,rfl,_⟩:=h;rfl
 obtain⟨H0,g,gx,R,sv,rs,ss,aa,str,rk,b,rfl,s0,f0,eg,hR,cy,bE,h8,qF,yU,Vs,Vz,Vy,gd,V8,q⟩:=h;refine⟨_,ai (g6 (pv 0) (bc fA rfl T.lst gH (ab (pv 1) ag)) rfl)
  (ai (iK (g6 (pv 0) (rT (eJ (Fu (pv 2))) (a_ ag) (bc fA rfl T.lst gH (ab (pv 2) ag))) rfl))
  (ai (cI (bp GR hr rfl (ab (fP (pv 0) rfl) (ab (fP (pv 0) rfl) ag))))
  (ai (g6 (pv 0) (bp GS hr rfl (ab (fP (pv 0) rfl) ag)) rfl)
  (ai (g6 (pv 0) (wj MB FB hr rfl mB BB .nil ux (ab (fP (pv 0) rfl) ag)) rfl)
  (ak (g6 (pv 0) (wj ML FL hr rfl mL BL .nil ux (ab (fP (pv 0) rfl) (ab (fP (pv 0) rfl) ag))) rfl)))))),?_⟩
 nofun
 refine⟨_,rfl,R,_,rfl,.inl (s0.seq hR),λR2 Il=>?_⟩;have WH:=af Il (.lst (rs.map V.ref)) _ _ eg;have sP:upd H R2 (.lst (rs.map V.ref)) R2=some (.lst (rs.map V.ref)):=ae;have Yi:=s0.trans (af Il (.lst (rs.map V.ref)));generalize upd H R2 (.lst (rs.map V.ref))=H1 at WH sP Yi;refine⟨_,rfl,g,Cg,gx,[],rfl,WH,G.cls,G.a1,(by show 0 < 1000;decide),?_⟩;generalize n5:eG "rules" (.ref R2) []=tV;have G5:upd H1 g (.ins Cg gx tV) R2=some (.lst (rs.map V.ref)):=by rw [aj (λz=>by rw [z,WH] at sP;cases sP)];exact sP
 have E7:aA H0 (upd H1 g (.ins Cg gx tV)):=λc o hc=>by rw [aj (λz=>by rw [z,f0] at hc;cases hc)];exact Yi c o hc
 have SS:upd H1 g (.ins Cg gx tV) g=some (.ins Cg gx tV):=ae;generalize upd H1 g (.ins Cg gx tV)=H2 at G5 E7 SS;refine⟨λσ H3=>σ=[aM g,aM R,some sv]/\∃S2 fs,aA H0 H3/\H3 g=some (.ins Cg gx fs)/\fs=eG "strengths" (.ref S2) tV/\H3 R2=some (.lst (rs.map V.ref))/\H3 S2=some (.lst (ss.map V.ref))/\H0 S2=none,?_,?_⟩
 .have fin:∀S2,H2 S2=none->(λH3=>∃S2 fs,aA H0 H3/\H3 g=some (.ins Cg gx fs)/\fs=eG "strengths" (.ref S2) tV/\H3 R2=some (.lst (rs.map V.ref))/\H3 S2=some (.lst (ss.map V.ref))/\H0 S2=none) (upd (upd H2 S2 (.lst (ss.map V.ref))) g (.ins Cg gx (eG "strengths" (.ref S2) tV)))/\upd H2 S2 (.lst (ss.map V.ref)) g=some (.ins Cg gx tV):=λS2 Ee=>by
   have sl:=af Ee (.lst (ss.map V.ref));have eS:upd H2 S2 (.lst (ss.map V.ref)) S2=some (.lst (ss.map V.ref)):=ae;have Rk:=sl _ _ SS;refine⟨⟨S2,_,λc o hc=>?_,ae,rfl,?_,?_,E7.free Ee⟩,Rk⟩
   .rw [aj (λz=>by rw [z,f0] at hc;cases hc)];exact sl _ _ (E7 c o hc)
   .rw [aj (λz=>by rw [z,SS] at G5;cases G5)];exact sl _ _ G5
   rw [aj (λz=>by rw [z,SS] at Ee;cases Ee)];exact eS
  rcases yU with ⟨rfl,rfl,rfl⟩ | ⟨S,rfl,hS,Ss⟩
  .refine⟨_,rfl,_,rfl,?_⟩;refine d0 ?_;refine⟨rq,λS2 Ee=>?_⟩;obtain⟨x1,x2⟩:=fin S2 Ee;exact⟨_,rfl,g,Cg,gx,tV,rfl,x2,G.cls,G.a2,(by rw [<-n5];show 1 < 1000;decide),rfl,x1⟩
  refine⟨_,rfl,_,rfl,?_⟩;refine cT ?_;refine⟨_,rfl,S,_,rfl,.inl (E7.seq hS),λS2 Ee=>?_⟩;obtain⟨x1,x2⟩:=fin S2 Ee;exact⟨_,rfl,g,Cg,gx,tV,rfl,x2,G.cls,G.a2,(by rw [<-n5];show 1 < 1000;decide),rfl,x1⟩
 rintro σ H3 ⟨rfl,S2,Im,Cu,Rk,qm,ZI,ZG,fS2⟩;have YG:Im.lookup ("rules":Str)=some (.ref R2):=by rw [qm,<-n5];rfl
 have Of:Im.lookup ("strengths":Str)=some (.ref S2):=by rw [qm,<-n5];rfl
 have Vv:bK K H3 ss str:=by
  rcases yU with ⟨_,rfl,rfl⟩ | ⟨S,_,_,Ss⟩
  .exact .nil
  exact Ss.same Cu
 have yR:=V8.same Cu;refine⟨_,rfl,g,Cg,gx,Im,_,rfl,Rk,G.cls,G.a1,YG,_,rfl,g,Cg,gx,Im,_,rfl,Rk,G.cls,G.a2,Of,R2,S2,rs,ss,aa,str,rk,b,rfl,aH.of ZI,cy.same Cu,∅,h8,qF,aH.of ZG,Vv,Vs,Vz,Vy,gd,yR.t1,yR.t2,yR.KG,λH4 R9 X5 X4=>?_⟩;have JF:=Kp.of2 R9 yR.t1 yR.t2;have t4:Cb T1 T2 T3 H4:=⟨X5,X4,Tab.s2 yR.t3 R9 yR.t1 yR.t2 yR.KD.symm yR.KC.symm,yR.KG,yR.KD,yR.KC⟩;have S04:qe T1 T2 T3 H0 H4:=λc o n1 n2 _ hc=>R9 c o n1 n2 (Cu c o hc);have ZN:=JF _ _ Rk (λ_ z=>by cases z);have ZH:=JF.lst ZI;have es4:=JF.lst ZG;have QE:bK K H4 rs aa:=JF.aa (cy.same Cu);clear X5 X4 R9 yR;refine⟨_,rfl,g,Cg,gx,Im,_,rfl,ZN,G.cls,G.a1,YG,R2,rs,aa,rfl,aH.of ZH,QE,∅,h8,λds H5 fds tM=>?_⟩;have OD:=tM _ _ ZN;have er5:=tM _ _ ZH;have es5:=tM _ _ es4;have VC:=QE.same tM;have t5:=t4.same tM;have S05:qe T1 T2 T3 H0 H5:=λc o n1 n2 n3 hc=>tM _ _ (S04 c o n1 n2 n3 hc);refine⟨_,rfl,g,Cg,gx,Im,rfl,OD,G.cls,G.a4,(by rw [qm,<-n5];show 2 < 1000;decide),?_⟩;generalize wH:eG "standings" (.ref ds) Im=yZ;have UI:∀{Hx:Hp}{fx fy:List (Str×V)},Hx g=some (.ins Cg gx fx)->qe T1 T2 T3 H0 Hx->qe T1 T2 T3 H0 (upd Hx g (.ins Cg gx fy)):=λ{Hx fx fy} hg hs c o n1 n2 n3 hc=>by
  rw [aj (λz=>by rw [z,f0] at hc;cases hc)];exact hs c o n1 n2 n3 hc
 have Oe:∀{Hx:Hp}{fx fy:List (Str×V)}{b:Addr}{xs:List V},Hx g=some (.ins Cg gx fx)->Hx b=some (.lst xs)->upd Hx g (.ins Cg gx fy) b=some (.lst xs):=λ{Hx fx fy b xs} hg hb=>by
  rw [aj (λz=>by rw [z,hg] at hb;cases hb)];exact hb
 have S06:=UI (fy:=yZ) OD S05;have WB:=Oe (fy:=yZ) OD er5;have ZF:=Oe (fy:=yZ) OD es5;have MS:bK K (upd H5 g (.ins Cg gx yZ)) rs aa:=VC.keep λ_ _ z=>ix OD z;have t6:Cb T1 T2 T3 (upd H5 g (.ins Cg gx yZ)):=t5.Es OD;have Rj:upd H5 g (.ins Cg gx yZ) g=some (.ins Cg gx yZ):=ae;generalize upd H5 g (.ins Cg gx yZ)=H6 at S06 WB ZF MS t6 Rj;have lk6:yZ.lookup ("rules":Str)=some (.ref R2):=by rw [<-wH,qm,<-n5];rfl
 refine⟨_,rfl,g,Cg,gx,yZ,_,rfl,Rj,G.cls,G.a1,lk6,λx dx hx hdx ndx=>?_⟩;have sx:aA H6 (upd (upd H6 dx (.own x)) x (.ins C dx [])):=(af hdx _).trans (af (by rw [aj ndx.symm];exact hx) _);refine⟨H6,x,dx,R2,rs,aa,rfl,sx,hx,ae,aH.of WB,MS,∅,h8,λe d bg kE bH ps cS H7 S7 m7 emp _ _ beg _=>⟨rfl,?_⟩⟩;have OC:=S7.sm _ _ Rj;have er7:=S7.sm _ _ WB;have es7:=S7.sm _ _ ZF;have t7:=t6.same S7.sm;have VB:=MS.same S7.sm;have S07:qe T1 T2 T3 H0 H7:=λc o n1 n2 n3 hc=>S7.sm _ _ (S06 c o n1 n2 n3 hc);refine⟨_,rfl,g,Cg,gx,yZ,rfl,OC,G.cls,G.a3,(by rw [<-wH,qm,<-n5];show 3 < 1000;decide),?_⟩;generalize Av:eG "begin_table" (.ref x) yZ=AD;have S08:=UI (fy:=AD) OC S07;have WA:=Oe (fy:=AD) OC er7;have ZE:=Oe (fy:=AD) OC es7;have QD:bK K (upd H7 g (.ins Cg gx AD)) rs aa:=VB.keep λ_ _ z=>ix OC z;have t8:Cb T1 T2 T3 (upd H7 g (.ins Cg gx AD)):=t7.Es OC;have SR:upd H7 g (.ins Cg gx AD) g=some (.ins Cg gx AD):=ae;have B8:tZ K C (upd H6 g (.ins Cg gx AD)) (upd H7 g (.ins Cg gx AD)) x e d bg kE bH ps cS:=S7.Es Rj (λz=>by rw [z,Rj] at hx;cases hx);generalize upd H7 g (.ins Cg gx AD)=H8 at S08 WA ZE QD t8 SR B8;have U4:AD.lookup ("rules":Str)=some (.ref R2):=by rw [<-Av,<-wH,qm,<-n5];rfl
 have lb8:AD.lookup ("begin_table":Str)=some (.ref x):=by rw [<-Av,<-wH,qm,<-n5];rfl
 refine⟨_,rfl,g,Cg,gx,AD,_,rfl,SR,G.cls,G.a1,U4,_,rfl,g,Cg,gx,AD,_,rfl,SR,G.cls,G.a3,lb8,λy dy hy hdy ndy=>?_⟩;have sy:aA H8 (upd (upd H8 dy (.own y)) y (.ins C3 dy [])):=(af hdy _).trans (af (by rw [aj ndy.symm];exact hy) _);have ME:=beg.len ∅ h8;refine⟨H8,_,y,dy,R2,x,e,d,bg,rs,aa,kE,bH,ps,cS,rfl,sy,hy,ae,aH.of WA,QD,bE,h8,gd.least,B8,emp,ME,t8.t1,t8.t3,t8.KD,λH9 Ul T_ t39=>⟨rfl,?_⟩⟩;have MI:=Kp.of2 Ul t8.t1 t8.t3;have Ri:=MI _ _ SR (λ_ z=>by cases z);have er9:=MI.lst WA;have Rb:=MI.lst ZE;have t9:Cb T1 T2 T3 H9:=⟨T_,Tab.s2 t8.t2 Ul t8.t1 t8.t3 t8.KG.symm t8.KC,t39,t8.KG,t8.KD,t8.KC⟩;have S09:qe T1 T2 T3 H0 H9:=λc o n1 n2 n3 hc=>Ul _ _ n1 n3 (S08 c o n1 n2 n3 hc);refine⟨_,rfl,g,Cg,gx,AD,rfl,Ri,G.cls,G.a5,(by rw [<-Av,<-wH,qm,<-n5];show 4 < 1000;decide),?_⟩;refine q x _ (UI Ri S09) (t9.Es Ri) ⟨gx,_,R2,S2,ae,?_,?_,?_,?_,Oe Ri er9,Oe Ri Rb,s0.free Il,fS2⟩
 .rw [<-Av,<-wH,qm,<-n5];rfl
 .rw [<-Av,<-wH,qm,<-n5];rfl
 .rw [<-Av,<-wH,qm,<-n5];rfl
 rw [<-Av,<-wH,qm,<-n5];rfl
end
def Ec:List Str->Str->Nat
 | [],_=>0
 | a::r,x=>if a=x then 0 else Ec r x+1
theorem r9:∀(l:List Str)(x:Str),x∈l->l[Ec l x]?=some x
 | [],x,h=>by cases h
 | a::r,x,h=>by
  unfold Ec;by_cases c:a=x
  .rw [ax c];exact congrArg some c
  rw [ay c];rcases bW.mp h with e | e
  .exact absurd e.symm c
  rw [List.getElem?_cons_succ];exact r9 r x e
theorem nX:∀(l:List Str)(x:Str) (i:Nat),x∈l.take i->Ec l x < i
 | [],x,i,h=>by simp at h
 | a::r,x,0,h=>by simp at h
 | a::r,x,i+1,h=>by
  unfold Ec;by_cases c:a=x
  .rw [ax c];omega
  rw [ay c];rw [List.take_succ_cons] at h;rcases bW.mp h with e | e
  .exact absurd e.symm c
  have:=nX r x i e;omega
def qv {l:List Str}{x:Str}{i:Nat}(h:x∈l.take i):∃j,j < i/\l[j]?=some x:=by
 obtain⟨j,hj⟩:=iH h;have lj:=(bu.mp hj).1;rw [bO] at lj;rw [xn ∅] at hj;exact⟨j,∅,hj⟩
def n8 {aa:List ar}{ru:ar}(h:ru∈aa):ru.1∈hd aa:=(iq _ _ _).mpr (.inr (j8 h))
def K3 {aa:List ar}{x:Str}(h:x∈hd aa):∃ru∈aa,ru.1=x:=by
 rcases (iq _ _ _).mp h with h | h
 .cases h
 obtain⟨ru,a,b⟩:=cX.mp h;exact⟨ru,a,b⟩
def Lb {aa:List ar}{x:Str}(h:Em aa x):x∈hd aa:=by
 cases h with
 | mk h _=>exact n8 h
def Nx {aa:List ar}{bH:List (Str×Nat)}(h:w6 aa bH):∀y∈bH.map (·.1),Em aa y:=by
 induction h with
 | nil=>intro y hy;cases hy
 | @snoc bH k ru _ e _ p ih =>
  intro y hy;rw [bG] at hy;rcases bQ.mp hy with h | h
  .exact ih y h
  rw [bF.mp h];exact .mk (b9 e) λq hq=>ih q (p q hq)
def F7 {b:Str->Bool}{zs:List Str}{i j:Nat}{x:Str}(h:JB b zs j=true)(e:zs[i]?=some x)(n:i≠j):b x=true:=by
 cases hb:b x with
 | true=>rfl
 | false =>
  have li:=(bu.mp e).1;have m:((i:Nat):Int)∈Dq b zs zs.length:=by
   unfold Dq;exact cX.mpr ⟨i,lV.mpr ⟨pN.mpr li,by rw [e];show (!(b x))=true;rw [hb];rfl⟩,rfl⟩
  unfold JB at h;rcases Bool.or_eq_true_iff.mp h with h | h
  .rw [<-cZ h] at m;cases m
  rw [<-cZ h] at m;have:=bF.mp m;omega
theorem A8 {f:Str->Int}{c:Int}:∀(ps:List Str),(∀x∈ps,f x<=c)->(ps.map f).sum<=ps.length * c
 | [],_=>by simp
 | p::r,h=>by
  have h1:=A8 r λx hx=>h x (dA _ hx);have h2:=h p cH;rw [cO,kJ,dY];have:((r.length+1:Nat):Int) * c=(r.length:Int) * c+c:=by rw [Int.natCast_add,Int.add_mul];omega
  omega
structure yJ (aa:List ar) (ns E M Pl:List Str):Prop where
 n3:ns.length<=3
 xf:∀ru∈aa,ru.1∈ns
 p3:∀ru∈aa,ru.2.length<=3
 eN:E.Nodup
 eNs:∀x∈E,x∈ns
 eO:∀(i:Nat)(h:Str),E[i]?=some h->∃bq,(h,bq)∈aa/\∀p∈bq,p∈E.take i\/p∉hd aa
 eA:∀h∈hd aa,h∈E
 mO:∀(i:Nat)(h:Str),M[i]?=some h->(∃jI,aa[0]?=some jI/\h=jI.1)\/∃ru∈aa,ru.1∈M.take i/\h∈ru.2
 mA:∀h∈hd aa,h∈M
 lN:Pl.Nodup
 YJ:∀x∈Pl,x∈ns
 lO:∀(i:Nat)(h:Str),Pl[i]?=some h->∀ru∈aa,ru.1=h->∀(j:Nat)(z:Str),ru.2[j]?=some z->z∈hd aa->(∀(k:Nat)(y:Str),k≠j->ru.2[k]?=some y->Em aa y)->z∈Pl.take i
 lA:∀h∈hd aa,h∈Pl
def b3:Nat->Int
 | 0=>1
 | 1=>4
 | _=>13
def c3:Nat->Int
 | 0=>0
 | 1=>1
 | _=>4
def Lp {i j:Nat}(hi:i < 3)(h:j < i):b3 j<=c3 i:=by
 have:∀i:Nat,i < 3->∀j:Nat,j < i->b3 j<=c3 i:=by decide
 exact this i hi j h
def Ry {i:Nat}:1+3 * c3 i=b3 i:=by
 match i with
 | 0=>rfl
 | 1=>rfl
 | _+2=>rfl
def Lm {i:Nat}:0<=c3 i:=by
 match i with
 | 0=>decide
 | 1=>decide
 | _+2=>exact(by decide:(0:Int)<=4)
def Hs {i:Nat}:0<=b3 i/\b3 i<=60:=by
 match i with
 | 0=>decide
 | 1=>decide
 | _+2=>exact(by decide:(0:Int)<=13/\(13:Int)<=60)
def Kr {f:Str->Int}{i:Nat}{ps:List Str}(h3:ps.length<=3)(h:∀x∈ps,f x<=c3 i):1+(ps.map f).sum<=b3 i:=by
 have h1:=A8 ps h;have h2:(ps.length:Int) * c3 i<=3 * c3 i:=Int.mul_le_mul_of_nonneg_right ∅ Lm;have:=@Ry i;omega
def bP (Pl:List Str)(x:Str):Int:=if x∈Pl then b3 (Ec Pl x) else 0
def yJ.good {aa:List ar}{ns E M Pl:List Str}(O:yJ aa ns E M Pl):Good aa (Ec Pl) (bP Pl) where
 least g st se:=by
  have Qd:E.length<=3:=dX (gO E ns O.eN O.eNs) O.n3;have aY:∀x,x∉hd aa->∀ru∈aa,x∈ru.2->g x=some 0:=by
   intro x nn ru iY hm;refine fj.keep (J:=λg=>g x=some 0) (λg H_ j h2 _=>?_) st ?_
   .show fk g H_.1 _ x=some 0;unfold fk;have:x≠H_.1:=λz=>nn (z ▸ n8 h2);rw [ay this];exact j
   show yY aa x=some 0;unfold yY;rw [ax (vF _ _ _ _ (.inr ⟨qX.mpr ⟨ru,iY,hm⟩,nn⟩))]
  have key:∀(n i:Nat),i < n->∀h:Str,E[i]?=some h->∃m,g h=some m/\m<=b3 i:=by
   intro n
   induction n with
   | zero=>intro i hi;omega
   | succ n ih =>
    intro i hi h e;have li:=(bu.mp e).1;obtain⟨ps,hm,hp⟩:=O.eO i h e;have hv:∀p∈ps,∃m,g p=some m/\m<=c3 i:=λp Gr=>by
     rcases hp p Gr with h1 | h1
     .obtain⟨j,lj,ej⟩:=qv h1;obtain⟨m,e1,e2⟩:=ih j ∅ p ej;exact⟨m,e1,Int.le_trans e2 (Lp ∅ lj)⟩
     exact⟨0,aY p h1 _ hm Gr,Lm⟩
    have hs:=se _ hm;unfold cV at hs;have a1:lB g (h,ps)=true:=gK.mpr λp hp=>by obtain⟨m,e1,_⟩:=hv p hp;show (g p).isSome=true;rw [e1];rfl
    have s0:aV g (h,ps)<=b3 i:=by
     unfold aV;exact Kr (O.p3 _ hm) λp hp=>by obtain⟨m,e1,e2⟩:=hv p hp;show (g p).getD 0<=_;rw [e1];exact e2
    rw [a1,jn] at hs;cases gn:g h with
    | none=>rw [show g (h,ps).1=none from gn] at hs;cases hs
    | some m =>
     rw [show g (h,ps).1=some m from gn] at hs;refine⟨m,rfl,?_⟩;have:¬aV g (h,ps) < m:=by simpa [M11.bl] using hs
     omega
  intro h hh;obtain⟨i,hi⟩:=iH (O.eA h hh);obtain⟨m,e1,e2⟩:=key (i+1) i ∅ h hi;exact⟨m,e1,Int.le_trans e2 Hs.2⟩
 met jI ms e0 h0 mc:=by
  have key:∀(n i:Nat),i < n->∀h:Str,M[i]?=some h->h∈ms:=by
   intro n
   induction n with
   | zero=>intro i hi;omega
   | succ n ih =>
    intro i hi h e;rcases O.mO i h e with ⟨r0,e1,e2⟩ | ⟨ru,iY,h1,h2⟩
    .rw [e0] at e1;cases e1;rw [e2];exact h0
    obtain⟨j,lj,ej⟩:=qv h1;exact mc ru (by rw [cE];exact iY) (ih j ∅ _ ej) h h2
  intro h hh;obtain⟨i,hi⟩:=iH (O.mA h hh);exact key (i+1) i ∅ h hi
 loop:=by
  rintro bH emp Dw n k j ⟨jI,z0,e1,e2,e3,e4,e5⟩ ru z er ez;rw [er] at e1;obtain rfl:ru=jI:=ir e1;rw [ez] at e3;obtain rfl:z=z0:=ir e3;have iY:=b9 er;have hn:n∈Pl:=O.lA n (e2 ▸ n8 iY);refine nX Pl z _ (O.lO _ n (r9 Pl n hn) ru iY e2 j z ez e4 λk' y nk ey=>?_);have:=F7 e5 ey nk;exact Nx emp y (cZ this)
 Tc:=by
  refine⟨λz=>?_,λru iY Oo=>?_⟩
  .unfold bP
   split
   .exact Hs.1
   decide
  have hn:ru.1∈Pl:=O.lA _ (n8 iY);have li:=(bu.mp (r9 Pl ru.1 hn)).1;have Qd:Pl.length<=3:=dX (gO Pl ns O.lN O.YJ) O.n3;have e:bP Pl ru.1=b3 (Ec Pl ru.1):=ax hn;rw [e];refine Kr (O.p3 ru iY) λp hp=>?_;obtain⟨j,ej⟩:=iH hp;have ht:=O.lO _ ru.1 (r9 Pl ru.1 hn) ru iY rfl j p ej (Lb (Oo p hp)) λk' y _ ey=>Oo y (b9 ey);have e2:bP Pl p=b3 (Ec Pl p):=ax (i6 ht);rw [e2];exact Lp ∅ (nX Pl p _ ht)
 most h hh:=by
  unfold bP
  split
  .exact Hs.2
  decide
end hU
namespace M11
open PySem
def dM (aY:Bool) (bj e:List Str)(ru:ar):List Str:=if ((ru.2.all λp=>decide (p∈e) || (aY && !decide (p∈bj))) && !decide (ru.1∈e))=true then e++[ru.1] else e
def gA (aY:Bool) (bj e:List Str)(aa:List ar):List Str:=aa.foldl (dM aY bj) e
def passes {α:Type}(f:α->α):Nat->α->α
 | 0,a=>a
 | n+1,a=>f (passes f n a)
def cK (aY:Bool)(aa:List ar):List Str:=passes (λe=>gA aY (aa.map (·.1)) e aa) aa.length []
structure EO (aY:Bool) (bj:List Str)(aa:List ar) (e:List Str):Prop where
 nd:e.Nodup
 ord:∀(i:Nat)(h:Str),e[i]?=some h->∃bq,(h,bq)∈aa/\∀p∈bq,p∈e.take i\/(aY=true/\p∉bj)
def EO.step {aY:Bool}{bj:List Str}{aa:List ar}{e:List Str}(h:EO aY bj aa e){ru:ar}(hr:ru∈aa):EO aY bj aa (dM aY bj e ru):=by
 unfold dM
 split
 .rename_i c
  obtain⟨c1,c2⟩:=gE.mp c;have OL:ru.1∉e:=by simpa using c2
  refine⟨j7.mpr ⟨h.nd,by simp,λa ha b hb z=>OL (by rw [<-bF.mp hb,<-z];exact ha)⟩,λi x hx=>?_⟩;by_cases l:i < e.length
  .rw [pS l] at hx;obtain⟨bq,a,b⟩:=h.ord i x hx;refine⟨bq,a,λp hp=>?_⟩;rw [pT ∅];exact b p hp
  have li:=(bu.mp hx).1;rw [a9,gw] at li;have:i=e.length:=by omega
  subst this;rw [mY (aF _),Nat.sub_self] at hx;cases hx;refine⟨ru.2,hr,λp hp=>?_⟩;rw [pT (aF _),cE];have:=gK.mp c1 p hp;simp only [Bool.or_eq_true,decide_eq_true_eq,pP,Bool.not_eq_true',decide_eq_false_iff_not] at this;exact this
 exact h
theorem EO.pass {aY:Bool}{bj:List Str}{aa:List ar}:∀(rs:List ar){e:List Str},(∀ru∈rs,ru∈aa)->EO aY bj aa e->EO aY bj aa (rs.foldl (dM aY bj) e)
 | [],_,_,h=>h
 | ru::rs,_,hs,h=>EO.pass rs (λr hr=>hs r (dA _ hr)) (h.step (hs ru cH))
def G9 (aY:Bool)(aa:List ar):EO aY (aa.map (·.1)) aa (cK aY aa):=by
 have:∀n,EO aY (aa.map (·.1)) aa (passes (λe=>gA aY (aa.map (·.1)) e aa) n []):=by
  intro n
  induction n with
  | zero=>exact⟨kr,λi h e=>by cases e⟩
  | succ n ih=>exact EO.pass aa (λ_ h=>h) ih
 exact this _
def ui (aY:Bool) (bj e:List Str)(ru:ar):dM aY bj e ru=e\/e.length < (dM aY bj e ru).length:=by
 unfold dM
 split
 .right;simp
 left;rfl
theorem ym (aY:Bool) (bj:List Str):∀(rs:List ar) (e:List Str),e.length<=(rs.foldl (dM aY bj) e).length
 | [],_=>aF _
 | ru::rs,e=>by
  have h1:=ym aY bj rs (dM aY bj e ru);have h2:=ui aY bj e ru;show _<=(rs.foldl (dM aY bj) (dM aY bj e ru)).length;rcases h2 with h | h
  .rw [h] at h1 ⊢;exact h1
  omega
theorem sG (aY:Bool) (bj:List Str):∀(rs:List ar) (e:List Str),(rs.foldl (dM aY bj) e=e/\∀ru∈rs,dM aY bj e ru=e)\/e.length < (rs.foldl (dM aY bj) e).length
 | [],_=>.inl ⟨rfl,λ_ h=>by cases h⟩
 | ru::rs,e=>by
  show (rs.foldl (dM aY bj) (dM aY bj e ru)=e/\_)\/_ < (rs.foldl (dM aY bj) (dM aY bj e ru)).length;rcases ui aY bj e ru with h | h
  .rw [h];rcases sG aY bj rs e with ⟨a,b⟩ | c
   .refine .inl ⟨a,λr hr=>?_⟩;rcases bW.mp hr with rfl | hr
    .exact h
    exact b r hr
   exact .inr c
  right;have:=ym aY bj rs (dM aY bj e ru);omega
theorem iX:∀(l m:List Str),l.Nodup->(∀z∈l,z∈m)->l.length<=m.length
 | [],m,_,_=>dW _
 | x::r,m,hn,hs=>by
  have hx:=hs x cH;have Gv:=mT.mp hn;have:=iX r (m.erase x) Gv.2 λz hz=>(List.mem_erase_of_ne (λe=>Gv.1 (by rw [<-e];exact hz))).mpr (hs z (dA _ hz));rw [List.length_erase_of_mem hx] at this;have:0 < m.length:=List.length_pos_of_mem hx;rw [dY];omega
def EO.sub {aY:Bool}{bj:List Str}{aa:List ar}{e:List Str}(h:EO aY bj aa e):∀x∈e,x∈aa.map (·.1):=λx hx=>by
 obtain⟨i,hi⟩:=iH hx;obtain⟨bq,a,_⟩:=h.ord i x hi;exact cX.mpr ⟨_,a,rfl⟩
def Du (aY:Bool)(aa:List ar):∀ru∈aa,dM aY (aa.map (·.1)) (cK aY aa) ru=cK aY aa:=by
 have eo:∀n,EO aY (aa.map (·.1)) aa (passes (λe=>gA aY (aa.map (·.1)) e aa) n []):=by
  intro n
  induction n with
  | zero=>exact⟨kr,λi h e=>by cases e⟩
  | succ n ih=>exact EO.pass aa (λ_ h=>h) ih
 have key:∀n,(passes (λe=>gA aY (aa.map (·.1)) e aa) (n+1) []=passes (λe=>gA aY (aa.map (·.1)) e aa) n []/\∀ru∈aa,dM aY (aa.map (·.1)) (passes (λe=>gA aY (aa.map (·.1)) e aa) n []) ru=passes (λe=>gA aY (aa.map (·.1)) e aa) n [])\/n < (passes (λe=>gA aY (aa.map (·.1)) e aa) (n+1) []).length:=by
  intro n
  induction n with
  | zero =>
   rcases sG aY (aa.map (·.1)) aa [] with h | h
   .exact .inl h
   exact .inr h
  | succ n ih =>
   rcases ih with ⟨a,b⟩ | c
   .left;rw [show passes (λe=>gA aY (aa.map (·.1)) e aa) (n+1+1) []=gA aY (aa.map (·.1)) (passes (λe=>gA aY (aa.map (·.1)) e aa) (n+1) []) aa from rfl,a];exact⟨a,b⟩
   rcases sG aY (aa.map (·.1)) aa (passes (λe=>gA aY (aa.map (·.1)) e aa) (n+1) []) with h | h
   .exact .inl h
   right;have h2:(passes (λe=>gA aY (aa.map (·.1)) e aa) (n+1) []).length < (passes (λe=>gA aY (aa.map (·.1)) e aa) (n+1+1) []).length:=h;omega
 rcases key aa.length with ⟨_,b⟩ | c
 .exact b
 have e1:=eo (aa.length+1);have:=iX _ _ e1.nd e1.sub;rw [au] at this;omega
def ou {aY:Bool}{aa:List ar}{ru:ar}(hr:ru∈aa)(h:∀p∈ru.2,p∈cK aY aa\/(aY=true/\p∉aa.map (·.1))):ru.1∈cK aY aa:=by
 have:=Du aY aa ru hr;unfold dM at this;by_cases c:ru.1∈cK aY aa
 .exact c
 rw [ax] at this
 .have:=congrArg List.length this;rw [a9] at this;simp at this
 refine gE.mpr ⟨gK.mpr λp hp=>?_,by simpa using c⟩;simp only [Bool.or_eq_true,decide_eq_true_eq,pP,Bool.not_eq_true',decide_eq_false_iff_not];exact h p hp
def Ha {aa:List ar}{x:Str}(h:Em aa x):x∈cK false aa:=by
 induction h with
 | mk hr _ ih=>exact ou hr λp hp=>.inl (ih p hp)
end M11
namespace hU
open PySem L2 M11
abbrev E5:Stmt:=top 46
abbrev zK:Stmt:=top 47
abbrev vS:Stmt:=top 48
abbrev v_:Stmt:=top 49
abbrev EV:Stmt:=top 50
abbrev EX:Stmt:=top 51
abbrev zN:Stmt:=top 52
abbrev E3:Stmt:=top 53
abbrev E2:Stmt:=top 54
def Xu {zs:List Str}{m:Int}(h:(zs.length:Int)=m)(hm:0 < m) (n:Int):∃z∈zs,jZ (zs.map V.str) (n % m)=some (.str z):=by
 subst h;have h1:=vj n hm;have h2:=qU n (show (zs.length:Int)≠0 ∅);have l:(n % (zs.length:Int)).toNat < zs.length:=by omega
 have e:n % (zs.length:Int)=(((n % (zs.length:Int)).toNat:Nat):Int):=by omega
 refine⟨zs[(n % (zs.length:Int)).toNat],qW l,?_⟩;have t:jZ (zs.map V.str) (((n % (zs.length:Int)).toNat:Nat):Int)=some (.str zs[(n % (zs.length:Int)).toNat]):=bZ (by rw [bz,dG l];rfl);rw [<-e] at t;exact t
def xP {α:Type}(i:Nat)(x y z:α):α:=match i with | 0=>x | 1=>y | _=>z
def P_ {H:Hp}{L1 L2 L3 LL:Addr}{xs ys zs:List V}(h1:H L1=none)(h2:upd H L1 (.lst xs) L2=none)(h3:upd (upd H L1 (.lst xs)) L2 (.lst ys) L3=none)
  (h4:upd (upd (upd H L1 (.lst xs)) L2 (.lst ys)) L3 (.lst zs) LL=none):aA H (upd (upd (upd (upd H L1 (.lst xs)) L2 (.lst ys)) L3 (.lst zs)) LL (.lst [.ref L1,.ref L2,.ref L3]))/\∀i:Nat,i < 3->∃Li,jZ [V.ref L1,V.ref L2,V.ref L3] (i:Int)=some (.ref Li)/\H Li=none /\
   upd (upd (upd (upd H L1 (.lst xs)) L2 (.lst ys)) L3 (.lst zs)) LL (.lst [.ref L1,.ref L2,.ref L3]) Li=some (.lst (xP i xs ys zs)):=by
 have s1:=af h1 (.lst xs);have s2:=af h2 (.lst ys);have s3:=af h3 (.lst zs);have s4:=af h4 (.lst [.ref L1,.ref L2,.ref L3]);refine⟨s1.trans (s2.trans (s3.trans s4)),λi hi=>?_⟩
 match i,hi with
 | 0,_=>exact⟨L1,rfl,h1,s4 _ _ (s3 _ _ (s2 _ _ ae))⟩
 | 1,_=>exact⟨L2,rfl,s1.free h2,s4 _ _ (s3 _ _ ae)⟩
 | 2,_=>exact⟨L3,rfl,s1.free (s2.free h3),s4 _ _ ae⟩
def BJ (i:Nat):List Str:=xP i ["s","t","u"] ["b","aa","k"] ["a","ab","n"]
def RS (i:Nat):List Str:=xP i ["a","b","c"] ["ab","a","c"] ["b","+","ba"]
def Ob (i j:Nat):List Str:=(BJ i).map λz=>z++Fe "y" j
def Jz (i:Nat):xP i [V.str "s",V.str "t",V.str "u"] [V.str "b",V.str "aa",V.str "k"] [V.str "a",V.str "ab",V.str "n"]=(BJ i).map V.str:=by
 match i with
 | 0=>rfl
 | 1=>rfl
 | _+2=>rfl
def IJ (i:Nat):xP i [V.str "a",V.str "b",V.str "c"] [V.str "ab",V.str "a",V.str "c"] [V.str "b",V.str "+",V.str "ba"]=(RS i).map V.str:=by
 match i with
 | 0=>rfl
 | 1=>rfl
 | _+2=>rfl
def F2 (i:Nat):(BJ i).length=3:=by
 match i with
 | 0=>rfl
 | 1=>rfl
 | _+2=>rfl
def Ly (i:Nat):(RS i).length=3:=by
 match i with
 | 0=>rfl
 | 1=>rfl
 | _+2=>rfl
def F1 (i:Nat):∀z∈BJ i,z.length<=2:=by
 match i with
 | 0=>decide +kernel
 | 1=>decide +kernel
 | n+2=>exact(by decide +kernel:∀z∈BJ 2,z.length<=2)
def Cy {j:Nat}(h:j < 3):(Fe "y" j).length<=2:=by
 match j,h with
 | 0,_=>decide +kernel
 | 1,_=>decide +kernel
 | 2,_=>decide +kernel
section
def cellAt (ns:List Int) (k:Nat):Int:=(ns[k]?).getD 0
def rH (K:ba):Sp:=λvs H Q _=>∃(a:Addr)(ns:List Int) (k:Nat),vs=[.ref a,.int (k:Int)]/\aH K H a (ns.map V.int)/\ns.length<=1000/\∀n:Int,n=cellAt ns k->Q (.int n) H
def LQ:aK ["_law_script","_law_k"] ["_law_script","_law_k"] (av E5):=iM rfl rfl rfl rfl (by decide +kernel)
def Jw (F:iB K "_law_cell_at" "_law_cell_at" E5 f fd)(T:Txt mg):bR P w K mg base gk 1 f fd ["_law_script","_law_k"] (rH K):=by
 refine F.ok LQ (λvs H Q E h=>?_) (λeX A outer s H vs Q E hr h=>?_)
 .obtain⟨a,ns,k,rfl,_⟩:=h;rfl
 obtain⟨a,ns,k,rfl,hS,hn,q⟩:=h;refine⟨_,ai (bI (aX nU (pv 1) (aD aG rfl T.len cY (ab (pv 0) ag)) (bJ _)) (ak (aN (aL bB (pv 0) (pv 1) (λ_ _=>rfl)))) aQ) (ak (aN ao)),?_⟩
 nofun
 refine⟨_,rfl,_,rfl,a,_,rfl,.inl hS,_,_,rfl,rfl,_,rfl,?_⟩;refine cf (λcc=>?_) (λcc=>q 0 ?_)
 rotate_left
 .have ge:¬((k:Int) < ((ns.map V.int).length:Int)):=λz=>cc (bh z);rw [au] at ge;unfold cellAt;rw [vv ∅];rfl
 have lt:=cZ cc;rw [au] at lt;have lt':k < ns.length:=by omega
 refine⟨_,rfl,_,rfl,a,_,_,.int ns[k],rfl,rfl,hS,bZ (by rw [bz,dG lt'];rfl),q _ (by unfold cellAt;rw [dG lt'];rfl)⟩
def rG:Sp:=λvs H Q _=>∃(c:Int) (m:Nat)(S:Addr) (zs:List Str),vs=[.int c,.int (m:Int),.ref S]/\m<=100/\H S=some (.lst (zs.map V.str))/\0 < zs.length/\zs.length<=1000/\∀(p:Addr) (ps:List Str)(H':Hp),aA H H'->H' p=some (.tup (ps.map V.str))->ps.length=m->(∀x∈ps,x∈zs)->Q (.ref p) H'
def jv:aK ["_law_cell","_law_many","_law_some","_law_parts","_law_seed","_law_k"] ["_law_cell","_law_many","_law_some"] (av v_):=iM rfl rfl rfl rfl (by decide +kernel)
def CO (F:iB K "_law_digits" "_law_digits" v_ f fd)(T:Txt mg):bR P w K mg base gk 1 f fd ["_law_cell","_law_many","_law_some"] rG:=by
 refine F.ok jv (λvs H Q E h=>?_) (λeX A outer s H vs Q E hr h=>?_)
 .obtain⟨c,m,S,zs,rfl,_⟩:=h;rfl
 obtain⟨c,m,S,zs,rfl,hm,hS,hz0,hz1,q⟩:=h;refine⟨_,ai (az (i:=3) jv.nd rfl (bC rfl) (a_ ag))
  (ai (az (i:=4) jv.nd rfl (bC rfl) (aI du (aI c_ (pv 0) ao) ao))
  (ai (bL cg rfl (gM rfl T.Cw (ab (pv 1) ag)) (aq (i:=5) jv.nd rfl (bC rfl))
   (ak (bI (aX xU (pv 0) ao (bJ _))
    (ai (cI (g9 gF gW gX bU (pv 3) (ab (aL bB (pv 2) (aI c_ (aI mz (pv 0) ao) (aD aG rfl T.len cY (ab (pv 2) ag))) (λ_ _=>rfl)) ag)))
    (ak (az (i:=0) jv.nd rfl (bC rfl) (aI fS (aI mz (pv 0) ao) (aD aG rfl T.len cY (ab (pv 2) ag))))))
    (ai (az (i:=4) jv.nd rfl (bC rfl) (aI c_ (aI Fx (pv 4) ao) ao))
    (ak (cI (g9 gF gW gX bU (pv 3) (ab (aL bB (pv 2) (aI c_ (aI fS (pv 4) ao) (aD aG rfl T.len cY (ab (pv 2) ag))) (λ_ _=>rfl)) ag))))))))
  (ak (aN (bc dQ rfl T.tup mX (ab (pv 3) ag)))))),?_⟩
 nofun
 have Qt:(0:Int) < (zs.length:Int):=by omega
 refine⟨rq,λL hL=>?_⟩;have hS1:=af hL (.lst []) _ _ hS;have nS:S≠L:=λz=>by rw [z,hL] at hS;cases hS
 refine⟨_,rfl,_,_,rfl,rfl,(by show (0:Int) < 2147483647;decide),_,_,rfl,rfl,?_⟩;refine⟨_,rfl,(m:Int),rfl,∅,∅,?_⟩;rw [kx m];refine gP (n:=m) (λi σ H2=>∃(c2 c4:Int)(k2:Option V) (ps:List Str),σ=[some (.int c2),some (.int (m:Int)),aM S,aM L,some (.int c4),k2]/\H2=upd H L (.lst (ps.map V.str))/\ps.length=i/\∀x∈ps,x∈zs) ⟨c,_,none,[],rfl,rfl,rfl,λ_ h=>(by cases h)⟩ ?_ ?_
 .rintro i σ H2 hi ⟨c2,c4,k2,ps,rfl,rfl,hp,Gr⟩
  ac_nf0
  have eS:upd H L (.lst (ps.map V.str)) S=some (.lst (zs.map V.str)):=by rw [aj nS];exact hS
  refine goN ?_
  ac_nf
  refine⟨_,rfl,_,_,rfl,rfl,_,rfl,?_⟩;refine cf (λ_=>?_) (λ_=>?_)
  .obtain⟨z,Qs,ez⟩:=Xu (zs:=zs) rfl Qt (c2 - 1);refine⟨_,rfl,.inl ⟨rfl,_,aH.of ae⟩,_,rfl,_,rfl,_,_,rfl,rfl,_,rfl,S,_,rfl,.inl (aH.of eS),_,_,rfl,rfl,?_⟩;rw [au];refine⟨Qt,S,_,_,_,rfl,rfl,aH.of eS,ez,L,_,_,rfl,rfl,ae,bM (by rw [au];omega),?_⟩;rw [ng];have eS2:upd H L (.lst (ps.map V.str++[.str z])) S=some (.lst (zs.map V.str)):=by rw [aj nS];exact hS
   refine⟨_,rfl,_,_,rfl,rfl,_,rfl,S,_,rfl,.inl (aH.of eS2),_,_,rfl,rfl,?_⟩;rw [au];refine⟨⟨Qt,by show (zs.length:Int) < 1073741824;omega⟩,?_⟩;exact⟨_,_,_,ps++[z],rfl,by rw [bG];rfl,by rw [a9,hp];rfl,λx hx=>(bQ.mp hx).elim (Gr x) λh=>(bF.mp h) ▸ Qs⟩
  refine⟨_,rfl,_,_,rfl,rfl,.inr ⟨by decide,by decide⟩,_,_,rfl,rfl,(by show (0:Int) < 2147483647;decide),?_⟩;obtain⟨z,Qs,ez⟩:=Xu (zs:=zs) rfl Qt (c4 * 48271 % 2147483647 / 3);refine⟨_,rfl,.inl ⟨rfl,_,aH.of ae⟩,_,rfl,_,rfl,_,_,rfl,rfl,⟨by decide,by decide⟩,_,rfl,S,_,rfl,.inl (aH.of eS),_,_,rfl,rfl,?_⟩;rw [au];refine⟨Qt,S,_,_,_,rfl,rfl,aH.of eS,ez,L,_,_,rfl,rfl,ae,bM (by rw [au];omega),?_⟩;rw [ng];exact⟨_,_,_,ps++[z],rfl,by rw [bG];rfl,by rw [a9,hp];rfl,λx hx=>(bQ.mp hx).elim (Gr x) λh=>(bF.mp h) ▸ Qs⟩
 rintro σ H2 ⟨c2,c4,k2,ps,rfl,rfl,hp,Gr⟩;refine⟨_,rfl,L,_,rfl,.inl ⟨aH.of ae,λp oE=>?_⟩⟩;exact q p ps _ ((af hL _).trans (af oE _)) ae hp Gr
def i3 (c:Int):Nat:=(c / 72 % 3).toNat
def j3 (c:Int):Nat:=(c / 3 % 3).toNat
def k3 (c:Int):Nat:=(1+c % 3).toNat
def BK (c:Int):i3 c < 3/\c / 72 % 3=(i3 c:Int):=by unfold i3;omega
def Gi (c:Int):j3 c < 3/\c / 3 % 3=(j3 c:Int):=by unfold j3;omega
def KR (c:Int):1<=k3 c/\k3 c<=3/\1+c % 3=(k3 c:Int):=by unfold k3;omega
def dw (c:Int):List Str:=(Ob (i3 c) (j3 c)).take (k3 c)
def iZ (c:Int):List Str:=RS (i3 c)
def F3 {i j:Nat}(hi:i < 3)(hj:j < 3):(Ob i j).Nodup/\∀x∈Ob i j,x∉RS i:=by
 match i,j,hi,hj with
 | 0,0,_,_=>decide +kernel
 | 0,1,_,_=>decide +kernel
 | 0,2,_,_=>decide +kernel
 | 1,0,_,_=>decide +kernel
 | 1,1,_,_=>decide +kernel
 | 1,2,_,_=>decide +kernel
 | 2,0,_,_=>decide +kernel
 | 2,1,_,_=>decide +kernel
 | 2,2,_,_=>decide +kernel
def Dk (c:Int):(dw c).Nodup:=(F3 (BK c).1 (Gi c).1).1.sublist (List.take_sublist _ _)
def Dl (c:Int):∀x∈dw c,x∉iZ c:=λx hx=>(F3 (BK c).1 (Gi c).1).2 x (i6 hx)
def JA (i j:Nat):(Ob i j).length=3:=by unfold Ob;rw [au];exact F2 i
def su (c:Int):1<=(dw c).length/\(dw c).length<=3:=by
 have:=KR c;unfold dw;rw [bO,JA];omega
def Az (c:Int):(iZ c).length=3:=Ly _
def Bk:Sp:=λvs H Q _=>∃(c:Int),vs=[.int c]/\∀(N:Addr)(H':Hp),H N=none->aA H H'->H' N=some (.lst ((dw c).map V.str))->Q (.ref N) H'
def Bu:aK ["_law_cell","_law_some"] ["_law_cell"] (av zK):=iM rfl rfl rfl rfl (by decide +kernel)
def FJ (F:iB K "_law_names" "_law_names" zK f fd)(T:Txt mg):bR P w K mg base gk 1 f fd ["_law_cell"] Bk:=by
 refine F.ok Bu (λvs H Q E h=>?_) (λeX A outer s H vs Q E hr h=>?_)
 .obtain⟨c,rfl,_⟩:=h;rfl
 obtain⟨c,rfl,q⟩:=h;refine⟨_,@ai _ _ _ _ _ (@az _ _ 1 _ _ _ _ Bu.nd rfl (bC rfl) (@aL _ _ _ _ _ _ _ bB (@a_ _ _ _ _ (@ab _ _ _ _ _ (@a_ _ _ _ _ (@ab _ _ _ _ _ (@bx _ _ _ _) (@ab _ _ _ _ _ (@bx _ _ _ _) (@ab _ _ _ _ _ (@bx _ _ _ _) (@ag _) rfl) rfl) rfl)) (@ab _ _ _ _ _ (@a_ _ _ _ _ (@ab _ _ _ _ _ (@bx _ _ _ _) (@ab _ _ _ _ _ (@bx _ _ _ _) (@ab _ _ _ _ _ (@bx _ _ _ _) (@ag _) rfl) rfl) rfl)) (@ab _ _ _ _ _ (@a_ _ _ _ _ (@ab _ _ _ _ _ (@bx _ _ _ _) (@ab _ _ _ _ _ (@bx _ _ _ _) (@ab _ _ _ _ _ (@bx _ _ _ _) (@ag _) rfl) rfl) rfl)) (@ag _) rfl) rfl) rfl)) (aI c_ (aI fS (pv 0) ao) ao) (λ_ _=>rfl)) rfl (.inr rfl))
  (ak (aN (bD ["_law_name"] [(0,"_law_cell")] rfl (a8 (bY dq (pv 1) dr (bS (aI du ao (aI c_ (pv 0) ao))))) (br rfl rfl) (by decide +kernel) rfl (by decide +kernel)
   (λ_ _ _ _ _=>aq (i:=0) (show (["_law_name","_law_cell"]:List Str).Nodup by decide +kernel) rfl (bC rfl)) (λ_ _ _ _ _=>b8)
   (λ_ _ _ _ _=>aI z7 (pv 0) (aI Jn bx (aI c_ (aI fS (pv 1) ao) ao)))))),?_⟩
 nofun
 obtain⟨hi,ei⟩:=BK c;obtain⟨hj,ej⟩:=Gi c;obtain⟨hk1,hk3,ek⟩:=KR c;refine⟨IE,λL1 h1=>⟨IE,λL2 h2=>⟨IE,λL3 h3=>⟨IE,λLL Wa=>?_⟩⟩⟩⟩;obtain⟨s1,p1⟩:=P_ h1 h2 h3 Wa;obtain⟨Li,a1,f1,e1⟩:=p1 (i3 c) hi;rw [Jz] at e1;refine⟨_,rfl,_,_,rfl,rfl,⟨by decide,by decide⟩,_,_,rfl,rfl,(by show (0:Int) < 3;decide),?_⟩;refine⟨LL,_,(i3 c:Int),.ref Li,rfl,congrArg V.int ei,aH.of ae,a1,?_⟩;generalize upd (upd (upd (upd H L1 _) L2 _) L3 _) LL _=H1 at s1 e1;refine⟨_,rfl,_,rfl,_,_,rfl,rfl,(by show (0:Int) < 3;decide),_,_,rfl,rfl,_,rfl,Li,_,rfl,aH.of e1,λM hM=>?_⟩;have cut:d8 ((BJ (i3 c)).map V.str) none (some (1+c % 3))=((BJ (i3 c)).take (k3 c)).map V.str:=by
  rw [ek];unfold d8;rw [show HT.gy ((BJ (i3 c)).map V.str).length 0 none=0 from rfl,HT.gZ,mj,jL,mR,<-List.take_eq_take_min]
 rw [cut];have s2:=s1.trans (af hM (.lst (((BJ (i3 c)).take (k3 c)).map V.str)));have eM:upd H1 M (.lst (((BJ (i3 c)).take (k3 c)).map V.str)) M=some (.lst (((BJ (i3 c)).take (k3 c)).map V.str)):=ae;generalize upd H1 M (.lst (((BJ (i3 c)).take (k3 c)).map V.str))=H2 at s2 eM;have gN:dw c=((BJ (i3 c)).take (k3 c)).map λz=>z++Fe "y" (j3 c):=by
  unfold dw Ob;rw [mR]
 refine⟨M,rfl,⟨_,aH.of eM⟩,λD hD=>cM (xs:=((BJ (i3 c)).take (k3 c)).map V.str) (λk ys σ2 H3=>ys=((dw c).take k).map V.str/\(∃y0,σ2=[y0,some (.int c)])/\aA H2 H3/\H3 D=some (.lst ys))
    ⟨rfl,⟨none,rfl⟩,af hD _,ae⟩ (λk ys σ2 H3 _ h=>?_) (λk x ys σ2 H3 ex h=>?_) (λys σ2 H3 h=>?_)⟩
 .obtain⟨_,_,sm,_⟩:=h;exact aH.of (sm _ _ eM)
 .obtain⟨rfl,⟨y0,rfl⟩,sm,eD⟩:=h;have lk:=(bu.mp ex).1;rw [au,bO,F2] at lk;rw [bz] at ex;obtain⟨z,ez,rfl⟩:=cC.mp ex;have hz:=F1 (i3 c) z (i6 (b9 ez));have hy:=Cy hj;refine goN (yl ?_);refine⟨_,rfl,_,rfl,_,_,rfl,rfl,⟨by decide,by decide⟩,_,_,rfl,rfl,(by show (0:Int) < 3;decide),?_⟩;have ly:("y":Str).length=1:=by decide +kernel
  refine⟨"y",j3 c,rfl,congrArg V.int ej,∅,ly,_,_,rfl,rfl,fits ∅,?_⟩;refine⟨eD,bM (by rw [au,bO];omega),?_,⟨_,rfl⟩,λb o hb=>?_,ae⟩
  .have:(dw c)[k]?=some (z++Fe "y" (j3 c)):=by rw [gN,bz,ez];rfl
   rw [cP,this,bG];rfl
  rw [aj (λz=>by rw [z,hD] at hb;cases hb)];exact sm b o hb
 obtain⟨rfl,_,sm,eD⟩:=h;rw [mW (by rw [gN,au,au];exact aF _)] at eD;exact q D _ (s2.free hD) (s2.trans sm) eD
def xw:Sp:=λvs H Q _=>∃(c:Int),vs=[.int c]/\∀(N:Addr)(H':Hp),H N=none->aA H H'->H' N=some (.lst ((iZ c).map V.str))->Q (.ref N) H'
def ES:aK ["_law_cell"] ["_law_cell"] (av vS):=iM rfl rfl rfl rfl (by decide +kernel)
def CF (F:iB K "_law_words" "_law_words" vS f fd)(T:Txt mg):bR P w K mg base gk 1 f fd ["_law_cell"] xw:=by
 refine F.ok ES (λvs H Q E h=>?_) (λeX A outer s H vs Q E hr h=>?_)
 .obtain⟨c,rfl,_⟩:=h;rfl
 obtain⟨c,rfl,q⟩:=h;refine⟨_,ak (aN (@aL _ _ _ _ _ _ _ bB (@a_ _ _ _ _ (@ab _ _ _ _ _ (@a_ _ _ _ _ (@ab _ _ _ _ _ (@bx _ _ _ _) (@ab _ _ _ _ _ (@bx _ _ _ _) (@ab _ _ _ _ _ (@bx _ _ _ _) (@ag _) rfl) rfl) rfl)) (@ab _ _ _ _ _ (@a_ _ _ _ _ (@ab _ _ _ _ _ (@bx _ _ _ _) (@ab _ _ _ _ _ (@bx _ _ _ _) (@ab _ _ _ _ _ (@bx _ _ _ _) (@ag _) rfl) rfl) rfl)) (@ab _ _ _ _ _ (@a_ _ _ _ _ (@ab _ _ _ _ _ (@bx _ _ _ _) (@ab _ _ _ _ _ (@bx _ _ _ _) (@ab _ _ _ _ _ (@bx _ _ _ _) (@ag _) rfl) rfl) rfl)) (@ag _) rfl) rfl) rfl)) (aI c_ (aI fS (pv 0) ao) ao) (λ_ _=>rfl))),?_⟩;dsimp only [yw];obtain⟨hi,ei⟩:=BK c;refine⟨IE,λL1 h1=>⟨IE,λL2 h2=>⟨IE,λL3 h3=>⟨IE,λLL Wa=>?_⟩⟩⟩⟩;obtain⟨s1,p1⟩:=P_ h1 h2 h3 Wa;obtain⟨Li,a1,f1,e1⟩:=p1 (i3 c) hi;rw [IJ] at e1;refine⟨_,rfl,_,_,rfl,rfl,⟨by decide,by decide⟩,_,_,rfl,rfl,(by show (0:Int) < 3;decide),?_⟩;refine⟨LL,_,(i3 c:Int),.ref Li,rfl,congrArg V.int ei,aH.of ae,a1,?_⟩;exact q Li _ f1 s1 e1
def EI (K:ba):Sp:=λvs H Q _=>∃(S N W:Addr)(ns:List Int) (at_ m:Nat) (fK ws:List Str),vs=[.ref S,.int (at_:Int),.ref N,.int (m:Int),.ref W]/\aH K H S (ns.map V.int)/\ns.length<=1000/\H N=some (.lst (fK.map V.str))/\H W=some (.lst (ws.map V.str))/\0 < fK.length/\fK.length<=5/\ws.length<=10/\m<=10 /\
 ∀(R:Addr)(rs:List Addr)(aa:List ar)(H':Hp),H R=none->aA H H'->H' R=some (.lst (rs.map V.ref))->bK K H' rs aa->aa.length=m->(∀ru∈aa,ru.1∈fK/\ru.2.length<=3/\∀x∈ru.2,x∈fK++ws)->Q (.ref R) H'
def rK:aK ["_law_script","_law_at","_law_names_here","_law_many","_law_words_here","_law_rules","_law_some","_law_k","_law_cell"] ["_law_script","_law_at","_law_names_here","_law_many","_law_words_here"] (av EX):=iM rfl rfl rfl rfl (by decide +kernel)
def Jr (F:iB K "_law_more" "_law_more" EX f fd)(T:Txt mg)(GC:aC P w K mg base 1 "_law_cell_at" ["_law_script","_law_k"] (rH K))(GD:aC P w K mg base 1 "_law_digits" ["_law_cell","_law_many","_law_some"] rG):bR P w K mg base gk 2 f fd ["_law_script","_law_at","_law_names_here","_law_many","_law_words_here"] (EI K):=by
 refine F.ok rK (λvs H Q E h=>?_) (λeX A outer s H vs Q E hr h=>?_)
 .obtain⟨S,N,W,ns,at_,m,fK,ws,rfl,_⟩:=h;rfl
 obtain⟨S,N,W,ns,at_,m,fK,ws,rfl,hS,hn,hN,hW,Sx,hn1,hw1,hm,q⟩:=h;refine⟨_,ai (az (i:=5) rK.nd rfl (bC rfl) (a_ ag))
  (ai (az (i:=6) rK.nd rfl (bC rfl) (aI dH (pv 2) (pv 4)))
  (ai (bL cg rfl (gM rfl T.Cw (ab (pv 3) ag)) (aq (i:=7) rK.nd rfl (bC rfl))
   (ai (az (i:=8) rK.nd rfl (bC rfl) (bp GC hr rfl (ab (pv 0) (ab (aI du (pv 1) (pv 7)) ag))))
   (ak (cI (g9 gF gW gX bU (pv 5) (ab (bo (ab (aL bB (pv 2) (aI c_ (pv 8) (aD aG rfl T.len cY (ab (pv 2) ag))) (λ_ _=>rfl))
    (ab (bp GD hr rfl (ab (aI fS (pv 8) ao) (ab (aI c_ (aI fS (pv 8) ao) ao) (ab (pv 6) ag)))) ag))) ag))))))
  (ak (aN (pv 5))))),?_⟩
 nofun
 refine⟨rq,λL hL=>?_⟩;have s1:=af hL (.lst []);have e1:upd H L (.lst []) L=some (.lst []):=ae;generalize upd H L (.lst [])=H1 at s1 e1;refine⟨_,rfl,_,rfl,N,W,_,_,rfl,rfl,s1 _ _ hN,s1 _ _ hW,fits (by rw [au,au];omega),λM hM=>?_⟩;rw [<-bG];have k2:=af hM (.lst ((fK++ws).map V.str));have s2:=s1.trans k2;have e2:=k2 _ _ e1;have m2:upd H1 M (.lst ((fK++ws).map V.str)) M=some (.lst ((fK++ws).map V.str)):=ae;have nM:M≠L:=λz=>by rw [z,e1] at hM;cases hM
 generalize upd H1 M (.lst ((fK++ws).map V.str))=H2 at k2 s2 e2 m2;refine⟨_,rfl,(m:Int),rfl,∅,∅,?_⟩;rw [kx m];refine gP (n:=m) (λi σ H3=>∃(rs:List Addr)(aa:List ar)(y7 y8:Option V),σ=[aM S,some (.int (at_:Int)),aM N,some (.int (m:Int)),aM W,aM L,aM M,y7,y8]/\aA H H3/\H3 L=some (.lst (rs.map V.ref))/\H3 M=some (.lst ((fK++ws).map V.str))/\bK K H3 rs aa/\aa.length=i/\∀ru∈aa,ru.1∈fK/\ru.2.length<=3/\∀x∈ru.2,x∈fK++ws) ⟨[],[],none,none,rfl,s2,e2,m2,.nil,rfl,λ_ h=>by cases h⟩ ?_ ?_
 .intro i σ H3 hi jW
  ac_nf0
  obtain⟨rs,aa,y7,y8,rfl,s3,eL,eM,rl,hl,hf⟩:=jW;have lr:=aU rl;refine goN ?_
  ac_rfl
  refine⟨_,rfl,_,rfl,_,rfl,_,_,rfl,rfl,?_⟩;refine⟨S,ns,at_+i,(by show [V.ref S,V.int ((at_:Int)+(0+(i:Int)))]=_;congr 3;push_cast;omega),s3.seq hS,hn,λc _=>?_⟩;have Za:(0:Int) < (fK.length:Int):=by omega
  obtain⟨z,Qs,ez⟩:=Xu (zs:=fK) rfl Za c;obtain⟨d,hd⟩:∃d:Nat,c / 3 % 4=(d:Int):=⟨(c / 3 % 4).toNat,∅⟩;refine⟨_,rfl,.inl ⟨rfl,_,aH.of eL⟩,_,rfl,_,rfl,_,rfl,N,_,rfl,.inl (aH.of (s3 _ _ hN)),_,_,rfl,rfl,?_⟩;rw [au];refine⟨Za,N,_,_,_,rfl,rfl,aH.of (s3 _ _ hN),ez,?_⟩;refine⟨_,rfl,_,_,rfl,rfl,⟨by decide,by decide⟩,_,rfl,_,_,rfl,rfl,⟨by decide,by decide⟩,_,_,rfl,rfl,(by show (0:Int) < 4;decide),_,rfl,?_⟩;refine⟨_,d,M,fK++ws,(by show [_,V.int (c / 3 % 4),_]=_;rw [hd]),∅,eM,by rw [a9];omega,by rw [a9];omega,λp ps H4 s4 e4 l4 Gr=>⟨iP,λR hR=>?_⟩⟩;have k5:=s4.trans (af hR (.tup [.str z,.ref p]));have v1:aS K (upd H4 R (.tup [.str z,.ref p])) R [.str z,.ref p]:=aS.of ae;have v2:aS K (upd H4 R (.tup [.str z,.ref p])) p (ps.map V.str):=(af hR _).tup (aS.of e4);generalize upd H4 R (.tup [.str z,.ref p])=H5 at k5 v1 v2;have Dx:=k5 _ _ eL;refine⟨L,_,_,rfl,rfl,Dx,bM (by rw [au];omega),?_⟩;refine⟨rs++[R],aa++[(z,ps)],_,_,rfl,λb o hb=>?_,by rw [ae,bG];rfl,by rw [aj nM];exact k5 _ _ eM,hZ (rl.keep λb xs z=>a7 Dx (k5.tup z)) ⟨p,a7 Dx v1,a7 Dx v2⟩,by rw [a9,hl];rfl,λru iY=>?_⟩
  .rw [aj (λz=>by rw [z,hL] at hb;cases hb)];exact k5 _ _ (s3 b o hb)
  rcases bQ.mp iY with h | h
  .exact hf ru h
  rw [bF.mp h];exact⟨Qs,by show ps.length<=3;omega,Gr⟩
 rintro σ H3 ⟨rs,aa,y7,y8,rfl,s3,eL,eM,rl,hl,hf⟩;exact⟨_,rfl,q L rs aa H3 hL s3 eL rl hl hf⟩
def pJ (ns ws:List Str) (a:Nat) (bq:List Str):Prop :=
 (∃n' wx,ns[a+1]?=some n'/\wx≠[]/\(∀x∈wx,x∈ws)/\wx.length<=2/\(bq=wx++[n']\/bq=n'::wx))\/(ns.length<=a+1/\(∀x∈bq,x∈ws)/\bq.length<=2)
def Ho (l:List Str)(n:Str):d8 ((l++[n]).map V.str) (some (-1)) none=[V.str n]:=by
 unfold d8;have h1:HT.gy ((l++[n]).map V.str).length 0 (some (-1))=l.length:=by
  rw [au,a9,gw];show (if (-1:Int) < 0 then ((-1:Int)+((l.length+1:Nat):Int)).toNat else min (-1:Int).toNat (l.length+1))=l.length;rw [ax (by decide)];omega
 rw [h1,HT.gG,<-oK,List.drop_append_of_le_length (aF _),oR,pO];rw [au,a9,gw,show l.length+1 - l.length=1 ∅];rfl
def Hq (l:List Str)(n:Str):d8 ((l++[n]).map V.str) none (some (-1))=l.map V.str:=by
 unfold d8;have h1:HT.gy ((l++[n]).map V.str).length ((l++[n]).map V.str).length (some (-1))=l.length:=by
  rw [au,a9,gw];show (if (-1:Int) < 0 then ((-1:Int)+((l.length+1:Nat):Int)).toNat else min (-1:Int).toNat (l.length+1))=l.length;rw [ax (by decide)];omega
 rw [h1,HT.gG,mj,jL,<-mR,pT (aF _),cE]
def EG (K:ba):Sp:=λvs H Q _=>∃(S N W:Addr)(ns:List Int) (at_:Nat) (fK ws:List Str),vs=[.ref S,.int (at_:Int),.ref N,.ref W]/\aH K H S (ns.map V.int)/\ns.length<=1000/\H N=some (.lst (fK.map V.str))/\H W=some (.lst (ws.map V.str))/\0 < fK.length/\fK.length<=5/\0 < ws.length/\ws.length<=10 /\
 ∀(R:Addr)(rs:List Addr)(aa:List ar)(H':Hp),H R=none->aA H H'->H' R=some (.lst (rs.map V.ref))->bK K H' rs aa->aa.length=fK.length->(∀(j:Nat)(ru:ar),aa[j]?=some ru->fK[j]?=some ru.1/\pJ fK ws j ru.2)->Q (.ref R) H'
def mw:aK ["_law_script","_law_at","_law_names_here","_law_words_here","_law_rules","_law_k","_law_cell","_law_parts"] ["_law_script","_law_at","_law_names_here","_law_words_here"] (av EV):=iM rfl rfl rfl rfl (by decide +kernel)
def Jp (F:iB K "_law_skeleton" "_law_skeleton" EV f fd)(T:Txt mg)(GC:aC P w K mg base 1 "_law_cell_at" ["_law_script","_law_k"] (rH K))(GD:aC P w K mg base 1 "_law_digits" ["_law_cell","_law_many","_law_some"] rG):bR P w K mg base gk 2 f fd ["_law_script","_law_at","_law_names_here","_law_words_here"] (EG K):=by
 refine F.ok mw (λvs H Q E h=>?_) (λeX A outer s H vs Q E hr h=>?_)
 .obtain⟨S,N,W,ns,at_,fK,ws,rfl,_⟩:=h;rfl
 obtain⟨S,N,W,ns,at_,fK,ws,rfl,hS,hn,hN,hW,Sx,hn1,Y5,hw1,q⟩:=h;refine⟨_,ai (az (i:=4) mw.nd rfl (bC rfl) (a_ ag))
  (ai (bL cg rfl (gM rfl T.Cw (ab (aD aG rfl T.len cY (ab (pv 2) ag)) ag)) (aq (i:=5) mw.nd rfl (bC rfl))
   (ai (az (i:=6) mw.nd rfl (bC rfl) (bp GC hr rfl (ab (pv 0) (ab (aI du (pv 1) (pv 5)) ag))))
   (ai (az (i:=7) mw.nd rfl (bC rfl) (bp GD hr rfl (ab (aI fS (pv 6) ao) (ab (aI c_ (pv 6) ao) (ab (pv 3) ag)))))
   (ai (iK (bI (aX nU (aI du (pv 5) ao) (aD aG rfl T.len cY (ab (pv 2) ag)) (bJ _))
    (ai (az (i:=7) mw.nd rfl (bC rfl) (aI wk (bp GD hr rfl (ab (aI fS (pv 6) ao) (ab (aI du ao (aI c_ (pv 6) ao)) (ab (pv 3) ag)))) (bo (ab (aL bB (pv 2) (aI du (pv 5) ao) (λ_ _=>rfl)) ag))))
    (ak (bI (aX hJ (aI c_ (aI fS (pv 6) ao) ao) ao (bJ _))
     (ak (az (i:=7) mw.nd rfl (bC rfl) (aI wk (bY qy (pv 7) (bS (ka iD ao)) dr) (bY qy (pv 7) dr (bS (ka iD ao)))))) aQ))) aQ))
   (ak (cI (g9 gF gW gX bU (pv 4) (ab (bo (ab (aL bB (pv 2) (pv 5) (λ_ _=>rfl)) (ab (pv 7) ag))) ag))))))))
  (ak (aN (pv 4)))),?_⟩
 nofun
 refine⟨rq,λL hL=>?_⟩;have s1:=af hL (.lst []);have e1:upd H L (.lst []) L=some (.lst []):=ae;generalize upd H L (.lst [])=H1 at s1 e1;refine⟨_,rfl,N,_,rfl,.inl (aH.of (s1 _ _ hN)),((fK.map V.str).length:Int),rfl,by rw [au];omega,by rw [au];omega,?_⟩;rw [au,kx];refine gP (n:=fK.length) (λi σ H3=>∃(rs:List Addr)(aa:List ar)(y5 y6 y7:Option V),σ=[aM S,some (.int (at_:Int)),aM N,aM W,aM L,y5,y6,y7]/\aA H H3/\H3 L=some (.lst (rs.map V.ref))/\bK K H3 rs aa/\aa.length=i/\∀(j:Nat)(ru:ar),aa[j]?=some ru->fK[j]?=some ru.1/\pJ fK ws j ru.2) ⟨[],[],none,none,none,rfl,s1,e1,.nil,rfl,λj ru e=>by cases e⟩ ?_ ?_
 .intro i σ H3 hi jW
  ac_nf0
  obtain⟨rs,aa,y5,y6,y7,rfl,s3,eL,rl,hl,hf⟩:=jW;have lr:=aU rl;obtain⟨nm,MU⟩:∃nm,fK[i]?=some nm:=⟨fK[i],dG hi⟩;have atn:jZ (fK.map V.str) (0+(i:Int))=some (.str nm):=by
   rw [j6];exact bZ (by rw [bz,MU];rfl)
  refine goN ?_
  ac_rfl
  refine⟨_,rfl,_,rfl,_,rfl,_,_,rfl,rfl,?_⟩;refine⟨S,ns,at_+i,(by show [V.ref S,V.int ((at_:Int)+(0+(i:Int)))]=_;congr 3;push_cast;omega),s3.seq hS,hn,λc _=>?_⟩;obtain⟨d,hd⟩:∃d:Nat,c % 3=(d:Int):=⟨(c % 3).toNat,∅⟩;refine⟨_,rfl,_,_,rfl,rfl,⟨by decide,by decide⟩,_,rfl,_,_,rfl,rfl,(by show (0:Int) < 3;decide),_,rfl,?_⟩;refine⟨_,d,W,ws,(by show [_,V.int (c % 3),_]=_;rw [hd]),∅,s3 _ _ hW,Y5,∅,λp ps H4 s4 e4 l4 Gr=>?_⟩;have xJ:=s3.trans s4;have OF:=s4 _ _ eL;have Sa:=rl.same s4;refine⟨λσ H5=>∃(p5:Addr) (bq:List Str),σ=[aM S,some (.int (at_:Int)),aM N,aM W,aM L,some (.int (0+(i:Int))),some (.int c),aM p5]/\aA H4 H5/\aS K H5 p5 (bq.map V.str)/\pJ fK ws i bq,?_,?_⟩
  .refine⟨_,rfl,_,_,rfl,rfl,_,rfl,N,_,rfl,.inl (aH.of (xJ _ _ hN)),_,_,rfl,rfl,_,rfl,?_⟩;refine cf (λcc=>?_) (λcc=>?_)
   .have lt:=cZ cc;rw [au] at lt;have lt':i+1 < fK.length:=by omega
    obtain⟨n',JJ⟩:∃n',fK[i+1]?=some n':=⟨fK[i+1],dG lt'⟩;have Xq:jZ (fK.map V.str) (0+(i:Int)+1)=some (.str n'):=by
     rw [j6,show (i:Int)+1=((i+1:Nat):Int) by push_cast;rfl];exact bZ (by rw [bz,JJ];rfl)
    obtain⟨d2,hd2⟩:∃d2:Nat,1+c % 2=(d2:Int):=⟨(1+c % 2).toNat,∅⟩;refine⟨_,rfl,_,_,rfl,rfl,⟨by decide,by decide⟩,_,rfl,_,_,rfl,rfl,(by show (0:Int) < 2;decide),_,_,rfl,rfl,_,rfl,?_⟩;refine⟨_,d2,W,ws,(by show [_,V.int (1+c % 2),_]=_;rw [hd2]),∅,xJ _ _ hW,Y5,∅,λp6 wx H6 s6 e6 l6 Y1=>?_⟩;have E6:=xJ.trans s6;refine⟨_,rfl,_,rfl,_,_,rfl,rfl,N,_,_,_,rfl,rfl,aH.of (E6 _ _ hN),Xq,qg,λu hu=>?_⟩;have k7:=af hu (.tup [V.str n']);refine⟨p6,u,_,_,rfl,rfl,k7.tup (aS.of e6),aS.of ae,(by rw [au];show wx.length+1<=sizeLine;exact fits ∅),λp8 H8 s8 e8=>?_⟩;have WZ:aS K H8 p8 ((wx++[n']).map V.str):=by rw [bG];exact e8
    have Oa:=s6.trans (k7.trans s8);have RR:wx≠[]:=λz=>by rw [z] at l6;simp at l6;omega
    refine⟨_,rfl,_,_,rfl,rfl,⟨by decide,by decide⟩,_,_,rfl,rfl,(by show (0:Int) < 2;decide),rfl,_,rfl,?_⟩;refine cf (λc2=>?_) (λc2=>?_)
    .refine⟨_,rfl,_,rfl,_,rfl,p8,_,rfl,WZ,λp9 H9 s9 e9=>?_⟩;rw [Ho] at e9;refine⟨_,rfl,_,rfl,_,rfl,p8,_,rfl,s9.tup WZ,λpA HA sA eA=>?_⟩;rw [Hq] at eA;refine⟨p9,pA,_,_,rfl,rfl,sA.tup e9,eA,(by rw [au];show 1+wx.length<=sizeLine;exact fits ∅),λpB HB sB eB=>?_⟩;exact⟨pB,n'::wx,rfl,Oa.trans (s9.trans (sA.trans sB)),eB,.inl ⟨n',wx,JJ,RR,Y1,∅,.inr rfl⟩⟩
    exact⟨p8,wx++[n'],rfl,Oa,WZ,.inl ⟨n',wx,JJ,RR,Y1,∅,.inl rfl⟩⟩
   have ge:¬(0+(i:Int)+1 < ((fK.map V.str).length:Int)):=λz=>cc (bh z);rw [au] at ge;exact⟨p,ps,rfl,aA.refl _,aS.of e4,.inr ⟨∅,Gr,∅⟩⟩
  rintro σ H5 ⟨p5,bq,rfl,s5,e5,sk⟩;have xI:=xJ.trans s5;have Dx:=s5 _ _ OF;refine⟨_,rfl,.inl ⟨rfl,_,aH.of Dx⟩,_,rfl,_,rfl,N,_,_,_,rfl,rfl,aH.of (xI _ _ hN),atn,_,rfl,iP,λR hR=>?_⟩;have k6:=af hR (.tup [.str nm,.ref p5]);have v1:aS K (upd H5 R (.tup [.str nm,.ref p5])) R [.str nm,.ref p5]:=aS.of ae;have v2:=k6.tup e5;generalize upd H5 R (.tup [.str nm,.ref p5])=H6 at k6 v1 v2;have Hc:=k6 _ _ Dx;refine⟨L,_,_,rfl,rfl,Hc,bM (by rw [au];omega),?_⟩;refine⟨rs++[R],aa++[(nm,bq)],_,_,_,rfl,λb o hb=>?_,by rw [ae,bG];rfl,hZ ((Sa.same (s5.trans k6)).keep λb xs z=>a7 Hc z) ⟨p5,a7 Hc v1,a7 Hc v2⟩,by rw [a9,hl];rfl,λj ru e=>?_⟩
  .rw [aj (λz=>by rw [z,hL] at hb;cases hb)];exact k6 _ _ (xI b o hb)
  by_cases cj:j < aa.length
  .rw [pS cj] at e;exact hf j ru e
  have lj:=(bu.mp e).1;rw [a9,gw] at lj;have ej:j=aa.length:=by omega
  subst ej;rw [mY (aF _),Nat.sub_self] at e;cases e;rw [hl];exact⟨MU,sk⟩
 rintro σ H3 ⟨rs,aa,y5,y6,y7,rfl,s3,eL,rl,hl,hf⟩;exact⟨_,rfl,q L rs aa H3 hL s3 eL rl hl hf⟩
end
end hU
namespace L2
open PySem
def jh {X:Cx}(K:ba)(hK:X.K=K:=by rfl):jG X (compareOp .NotIn) (Se K true):=by
 subst hK;exact iL
def fU (h:Str) (zs:List Str):KZ (.str h) (zs.map V.str)=decide (h∈zs):=by
 have:KZ (.str h) (zs.map V.str)=true↔h∈zs:=by
  unfold KZ;rw [List.any_eq_true];constructor
  .rintro⟨x,h1,h2⟩;obtain⟨z,hz,rfl⟩:=cX.mp h1;have:z=h:=by simpa [uL] using h2
   rw [<-this];exact hz
  intro hm;exact⟨.str h,cX.mpr ⟨h,hm,rfl⟩,by simp [uL]⟩
 by_cases c:h∈zs
 .rw [bh c];exact this.mpr c
 rw [b0 c];cases e:KZ (.str h) (zs.map V.str) with
 | false=>rfl
 | true=>exact absurd (this.mp e) c
def cU (zs:List Str):(zs.map V.str).all ib=true:=by
 rw [gK];intro x hx;obtain⟨z,_,rfl⟩:=cX.mp hx;rfl
section
variable {K:ba}{H:Hp}{p D:Addr}{zs:List Str}{σ:St}{x:Str}{js:List (Nat×Str)}{te:TE}{Qp:Hp->Prop}
def k_ (rest:St)(pr:Str->Bool)(hc:eU [x] js σ=none::rest)(hp:aS K H p (zs.map V.str))(hz:zs.length<=1000)(hD:H D=none)
  (Qw:∀z∈zs,∀(H':Hp)(Qy:VK),aA H H'->Qy (.bl (pr z)) H'->te (some (.str z)::rest) H' Qy)
  (q:∀H2,aA H H2->H2 D=some (.lst ((zs.map pr).map V.bl))->Qp H2) :
  ∃W:Nat->Nat->List V->St->Hp->Prop,(∃m,W 0 m [] (eU [x] js σ) (upd H D (.lst []))) /\
 ∀i m ys σ' H,W i m ys σ' H->((oC K p).stop i H/\Qp H)\/((oC K p).go i H/\∃m',m' < m/\∀x H',(oC K p).mP i H x H'->dN 0 x σ' H' λσ2 H2=>iu σ2 H2 λb H3 =>
  if b=true then te σ2 H3 λy H4=>H4 D=some (.lst ys)/\ys.length < sizeLine/\W (i+1) m' (ys++[y]) σ2 (upd H4 D (.lst (ys++[y]))) else W (i+1) m' ys σ2 H3):=by
 refine gQ (xs:=zs.map V.str) (λi ys σ2 H2=>ys=((zs.take i).map pr).map V.bl/\(∃y0,σ2=y0::rest)/\aA H H2/\H2 D=some (.lst ys))
  ⟨rfl,⟨none,hc⟩,af hD _,ae⟩ (λi ys σ2 H2 _ h=>?_) (λi v ys σ2 H2 ex h=>?_) (λys σ2 H2 h=>?_)
 .obtain⟨_,_,sm,_⟩:=h;exact sm.tup hp
 .obtain⟨rfl,⟨y0,rfl⟩,sm,hd⟩:=h;rw [bz] at ex;obtain⟨z,ez,rfl⟩:=cC.mp ex;have li:=(bu.mp ez).1;refine goN (yl (Qw z (b9 ez) _ _ sm ⟨hd,bM (by rw [au,au,bO];omega),?_,⟨_,rfl⟩,λb o hb=>?_,ae⟩))
  .rw [cP,ez,bG,bG];rfl
  rw [aj (λz=>by rw [z,hD] at hb;cases hb)];exact sm b o hb
 obtain⟨rfl,_,sm,hd⟩:=h;rw [au,cE] at hd;exact q H2 sm hd
def qb (rest:St)(pr:Str->Bool)(hc:eU [x] js σ=none::rest)(hp:aH K H p (zs.map V.str))(hz:zs.length<=1000)(hD:H D=none)
  (Qw:∀z∈zs,∀(H':Hp)(Qy:VK),aA H H'->Qy (.bl (pr z)) H'->te (some (.str z)::rest) H' Qy)
  (q:∀H2,aA H H2->H2 D=some (.lst ((zs.map pr).map V.bl))->Qp H2) :
  ∃W:Nat->Nat->List V->St->Hp->Prop,(∃m,W 0 m [] (eU [x] js σ) (upd H D (.lst []))) /\
 ∀i m ys σ' H,W i m ys σ' H->((ke K p).stop i H/\Qp H)\/((ke K p).go i H/\∃m',m' < m/\∀x H',(ke K p).mP i H x H'->dN 0 x σ' H' λσ2 H2=>iu σ2 H2 λb H3 =>
  if b=true then te σ2 H3 λy H4=>H4 D=some (.lst ys)/\ys.length < sizeLine/\W (i+1) m' (ys++[y]) σ2 (upd H4 D (.lst (ys++[y]))) else W (i+1) m' ys σ2 H3):=by
 refine cM (xs:=zs.map V.str) (λi ys σ2 H2=>ys=((zs.take i).map pr).map V.bl/\(∃y0,σ2=y0::rest)/\aA H H2/\H2 D=some (.lst ys))
  ⟨rfl,⟨none,hc⟩,af hD _,ae⟩ (λi ys σ2 H2 _ h=>?_) (λi v ys σ2 H2 ex h=>?_) (λys σ2 H2 h=>?_)
 .obtain⟨_,_,sm,_⟩:=h;exact sm.seq hp
 .obtain⟨rfl,⟨y0,rfl⟩,sm,hd⟩:=h;rw [bz] at ex;obtain⟨z,ez,rfl⟩:=cC.mp ex;have li:=(bu.mp ez).1;refine goN (yl (Qw z (b9 ez) _ _ sm ⟨hd,bM (by rw [au,au,bO];omega),?_,⟨_,rfl⟩,λb o hb=>?_,ae⟩))
  .rw [cP,ez,bG,bG];rfl
  rw [aj (λz=>by rw [z,hD] at hb;cases hb)];exact sm b o hb
 obtain⟨rfl,_,sm,hd⟩:=h;rw [au,cE] at hd;exact q H2 sm hd
end
theorem all_map (zs:List Str)(pr:Str->Bool):(zs.map pr).all id=zs.all pr:=by
 rw [List.all_map];rfl
end L2
namespace hU
open PySem M11
abbrev hm (aa:List ar):List Str:=aa.map (·.1)
structure Small (aa:List ar):Prop where
 one:1<=aa.length
 most:aa.length<=8
 xg:∀ru∈aa,ru.2.length<=4
open PySem L2 M11
section
def jY {H:Hp}{R D:Addr}{rs:List Addr}{aa:List ar}{σ:St}{Qp:Hp->Prop}(hR:aH K H R (rs.map V.ref))(cy:bK K H rs aa)(bE:aa.length<=1000)(hD:H D=none)
  (q:∀H2,aA H H2->H2 D=some (.lst ((hm aa).map V.str))->Qp H2) :
  ∃W:Nat->Nat->List V->St->Hp->Prop,(∃m,W 0 m [] (eU ["_law_head","_law_parts"] [] σ) (upd H D (.lst []))) /\
 ∀i m ys σ' H,W i m ys σ' H->((ke K R).stop i H/\Qp H)\/((ke K R).go i H/\∃m',m' < m/\∀x H',(ke K R).mP i H x H'->AA K 2 (jB (dN 0) (jB (dN 1) Dj)) x σ' H' λσ2 H2=>iu σ2 H2 λb H3 =>
  if b=true then gS 0 σ2 H3 λy H4=>H4 D=some (.lst ys)/\ys.length < sizeLine/\W (i+1) m' (ys++[y]) σ2 (upd H4 D (.lst (ys++[y]))) else W (i+1) m' ys σ2 H3):=by
 have ll:=aU cy;refine cM (xs:=rs.map V.ref) (λi ys σ2 H2=>ys=((hm aa).take i).map V.str/\(∃y0 y1,σ2=[y0,y1])/\aA H H2/\H2 D=some (.lst ys))
  ⟨rfl,⟨none,none,rfl⟩,af hD _,ae⟩ (λi ys σ2 H2 _ h=>?_) (λi x ys σ2 H2 ex h=>?_) (λys σ2 H2 h=>?_)
 .obtain⟨_,_,sm,_⟩:=h;exact sm.seq hR
 .obtain⟨rfl,⟨y0,y1,rfl⟩,sm,wI⟩:=h;rw [bz] at ex;obtain⟨r,er,rfl⟩:=cC.mp ex;obtain⟨ru,e1,p,v1,v2⟩:=cy.get er;have li:=(bu.mp e1).1;refine⟨r,_,rfl,sm.tup v1,rfl,_,_,rfl,_,_,rfl,rfl,?_⟩;refine yl ?_;refine⟨_,rfl,wI,bM (by rw [au,bO];omega),?_,⟨_,_,rfl⟩,λb o hb=>?_,ae⟩
  .have:(hm aa)[i]?=some ru.1:=by unfold hm;rw [bz,e1];rfl
   rw [cP,this,bG];rfl
  rw [aj (λz=>by rw [z,hD] at hb;cases hb)];exact sm b o hb
 obtain⟨rfl,_,sm,wI⟩:=h;rw [au,ll,mW (by unfold hm;rw [au];exact aF _)] at wI;exact q H2 sm wI
def Bo (K:ba):Sp:=λvs H Q _=>∃(R:Addr)(rs:List Addr)(aa:List ar)(b:Bool),vs=[.ref R,.bl b]/\aH K H R (rs.map V.ref)/\bK K H rs aa/\Small aa /\
 ∀(D:Addr)(H':Hp),H D=none->aA H H'->H' D=some (.lst ((cK b aa).map V.str))->(cK b aa).length<=64->Q (.ref D) H'
abbrev NE:List Str:=["_law_rules","_law_words_here","_law_head","_law_parts","_law_heads","_law_ended_here","_law_again","_law_good_here"]
def jR:aK NE ["_law_rules","_law_words_here"] (av zN):=iM rfl rfl rfl rfl (by decide +kernel)
def FR (F:iB K "_law_ended" "_law_ended" zN f fd)(T:Txt mg):bR P w K mg base gk 1 f fd ["_law_rules","_law_words_here"] (Bo K):=by
 refine F.ok jR (λvs H Q E h=>?_) (λeX A outer s H vs Q E hr h=>?_)
 .obtain⟨R,rs,aa,b,rfl,_⟩:=h;rfl
 obtain⟨R,rs,aa,b,rfl,hR,cy,C7,q⟩:=h;have Vu:=C7.one;have Vt:=C7.most;refine⟨_,ai (az (i:=4) jR.nd rfl (Or.inr rfl) (bD ["_law_head","_law_parts"] [] rfl (a8 (pv 0)) (br rfl rfl) (by decide +kernel) rfl (by decide +kernel)
   (λ_ _ _ _ _=>fR (n:=2) K rfl (aB (aq (i:=0) (show (["_law_head","_law_parts"]:List Str).Nodup by decide +kernel) rfl (bC rfl)) (aB (aq (i:=1) (show (["_law_head","_law_parts"]:List Str).Nodup by decide +kernel) rfl (bC rfl)) b_))) (λ_ _ _ _ _=>b8)
   (λ_ _ _ _ _=>pv 0)))
  (ai (az (i:=5) jR.nd rfl (Or.inr rfl) (a_ ag))
  (ai (bL cg rfl (a8 (pv 0)) (aq (i:=6) jR.nd rfl (bC rfl))
   (ak (bL cg rfl (a8 (pv 0)) (fR (n:=2) K rfl (aB (aq (i:=2) jR.nd rfl (bC rfl)) (aB (aq (i:=3) jR.nd rfl (bC rfl)) b_)))
    (ai (az (i:=7) jR.nd rfl (bC rfl) (aD (il rfl) rfl T.all boot_all (ab
      (bD ["_law_part"] [(5,"_law_ended_here"),(4,"_law_heads"),(1,"_law_words_here")] rfl (fZ (pv 3)) (br rfl rfl) (by decide +kernel) rfl (by decide +kernel)
       (λ_ _ _ _ _=>aq (i:=0) (show (["_law_part","_law_ended_here","_law_heads","_law_words_here"]:List Str).Nodup by decide +kernel) rfl (bC rfl)) (λ_ _ _ _ _=>b8)
       (λ_ _ _ _ _=>Kz (fu (gJ K) (pv 0) (pv 1) rfl) (kT (kU (pv 3) (kT (fu (jh K) (pv 0) (pv 2) rfl)))))) ag)))
    (ak (bI (PW.pt (kR (eI (pv 7)) (i8 (aX iL (pv 2) (pv 5) rfl))))
     (ak (cI (g9 gF gW gX bU (pv 5) (ab (pv 2) ag)))) aQ))))))
  (ak (aN (pv 5))))),?_⟩
 nofun
 refine⟨_,rfl,R,rfl,⟨_,hR⟩,λD hD=>jY hR cy ∅ hD λH1 s1 eD=>?_⟩;refine goN ?_
 ac_rfl
 refine⟨rq,λL hL=>?_⟩;have s2:=s1.trans (af hL (.lst []));have Hd:=af hL (.lst []) _ _ eD;have nL:L≠D:=λz=>by rw [z,eD] at hL;cases hL
 have fL:H L=none:=s1.free hL;have e2:upd H1 L (.lst []) L=some (.lst []):=ae;generalize upd H1 L (.lst [])=H2 at s2 Hd e2;refine goN ?_
 ac_rfl
 have ll:=aU cy;refine⟨_,rfl,R,rfl,⟨_,s2.seq hR⟩,cJ (xs:=rs.map V.ref) (λi σ H3=>∃(es:List Str)(y2 y3 y6 y7:Option V),σ=[aM R,some (.bl b),y2,y3,aM D,aM L,y6,y7]/\aA H H3/\H3 D=some (.lst ((hm aa).map V.str))/\H3 L=some (.lst (es.map V.str))/\es=passes (λe=>gA b (hm aa) e aa) i []/\es.length<=8 * i) ⟨[],_,_,_,_,rfl,s2,Hd,e2,rfl,by simp⟩ ?_ ?_ ?_⟩
 .rintro i σ H3 _ ⟨es,y2,y3,y6,y7,rfl,s3,_⟩;exact s3.seq hR
 .intro i x σ H3 ex jW
  ac_nf0
  obtain⟨es,y2,y3,y6,y7,rfl,s3,Iq,WS,he,QS⟩:=jW;have li:=(bu.mp ex).1;rw [au] at li;refine goN ?_
  ac_nf
  refine⟨_,rfl,R,rfl,⟨_,s3.seq hR⟩,cJ (xs:=rs.map V.ref) (λj σ H4=>∃(i4:List Str)(y2 y3 y7:Option V),σ=[aM R,some (.bl b),y2,y3,aM D,aM L,some x,y7]/\aA H H4/\H4 D=some (.lst ((hm aa).map V.str))/\H4 L=some (.lst (i4.map V.str))/\i4=gA b (hm aa) es (aa.take j)/\i4.length<=8 * i+j) ⟨es,_,_,_,rfl,s3,Iq,WS,rfl,∅⟩ ?_ ?_ ?_⟩
  .rintro j σ H4 _ ⟨i4,y2,y3,y7,rfl,s4,_⟩;exact s4.seq hR
  .intro j x2 σ H4 pF jW
   ac_nf0
   obtain⟨i4,y2,y3,y7,rfl,s4,Dy,OF,Aw,QR⟩:=jW;have lj:=(bu.mp pF).1;rw [au] at lj;rw [bz] at pF;obtain⟨r,er,rfl⟩:=cC.mp pF;obtain⟨ru,e1,p,v1,v2⟩:=cy.get er;have iY:=C7.xg ru (b9 e1);refine⟨r,_,rfl,s4.tup v1,rfl,_,_,rfl,_,_,rfl,rfl,?_⟩;refine⟨_,rfl,p,rfl,⟨_,s4.tup v2⟩,λD2 jb=>k_ (zs:=ru.2) [aM L,aM D,some (.bl b)] (λz=>decide (z∈i4) || (b && !decide (z∈hm aa))) rfl (s4.tup v2) ∅ jb (λz _ H5 Qy s5 hq=>?_) λH5 s5 WV=>?_⟩
   .refine⟨_,rfl,_,rfl,L,_,rfl,.inl (aH.of (s5 _ _ OF)),rfl,cU _,?_⟩;refine⟨_,rfl,?_⟩;rw [fU];show if decide (z∈i4)=true then _ else _;refine cf (λc=>?_) (λc=>?_)
    .rw [c] at hq;exact hq
    have c':decide (z∈i4)=false:=by simpa using c
    rw [c',Bool.false_or] at hq;refine⟨_,rfl,b,rfl,?_⟩;refine cf (λcb=>?_) (λcb=>?_)
    .rw [cb,jn] at hq;refine⟨_,rfl,_,rfl,D,_,rfl,.inl (aH.of (s5 _ _ Dy)),rfl,cU _,?_⟩;rw [fU];exact hq
    have cb':b=false:=by simpa using cb
    rw [cb',qT] at hq;exact hq
   refine⟨D2,_,rfl,aH.of WV,?_⟩;rw [all_map];refine goN ?_
   ac_rfl
   have tM:=s4.trans s5;have Dx:=s5 _ _ OF;have pe:gA b (hm aa) es (aa.take (j+1))=dM b (hm aa) i4 ru:=by
    rw [Aw,cP,e1];unfold gA;rw [ve];rfl
   refine⟨_,rfl,_,rfl,?_⟩;refine cf (λc=>?_) (λc=>?_)
   .refine⟨_,rfl,_,rfl,L,_,rfl,.inl (aH.of Dx),rfl,cU _,_,rfl,?_⟩;rw [fU];show if (!decide (ru.1∈i4))=true then _ else _;refine cf (λc2=>?_) (λc2=>?_)
    .refine⟨_,rfl,.inl ⟨rfl,_,aH.of Dx⟩,_,rfl,L,_,_,rfl,rfl,Dx,bM (by rw [au];omega),?_⟩;refine⟨i4++[ru.1],_,_,_,rfl,λb o hb=>?_,by rw [aj (gB nL)];exact s5 _ _ Dy,by rw [ae,bG];rfl,?_,by rw [a9];simp;omega⟩
     .rw [aj (λz=>by rw [z,fL] at hb;cases hb)];exact tM b o hb
     rw [pe];unfold dM;rw [c,jn,ax c2]
    refine⟨i4,_,_,_,rfl,tM,s5 _ _ Dy,Dx,?_,∅⟩;rw [pe];unfold dM;rw [c,jn,ay c2]
   refine⟨i4,_,_,_,rfl,tM,s5 _ _ Dy,Dx,?_,∅⟩;rw [pe];unfold dM;rw [ay (λz=>c (gE.mp z).1)]
  rintro σ H4 ⟨i4,y2,y3,y7,rfl,s4,Dy,OF,Aw,QR⟩;rw [au,ll] at QR;rw [au,ll,cE] at Aw;exact⟨i4,_,_,_,_,rfl,s4,Dy,OF,by rw [Aw,he];rfl,∅⟩
 rintro σ H3 ⟨es,y2,y3,y6,y7,rfl,s3,Iq,WS,he,QS⟩;rw [au,ll] at he QS;refine⟨_,rfl,?_⟩;have e:cK b aa=es:=he.symm;exact q L H3 fL s3 (by rw [e];exact WS) (by rw [e];omega)
end
def uO (zs:List Str) (j:Nat):d8 (zs.map V.str) none (some (0+(j:Int)))=(zs.take j).map V.str:=by
 rw [j6];unfold d8;rw [HT.gG,HT.gZ,mj,jL,au,mR]
 conv=>rhs;rw [List.take_eq_take_min,au]
def DG (zs:List Str) (j:Nat):d8 (zs.map V.str) (some (0+(j:Int)+1)) none=(zs.drop (j+1)).map V.str:=by
 rw [j6,show (j:Int)+1=((j+1:Nat):Int) by push_cast;rfl];unfold d8;rw [HT.gG,HT.gZ,au,oK];by_cases h:j+1<=zs.length
 .rw [mq h,mW (by rw [ff,au];exact aF _)]
 rw [qY ∅,Nat.sub_self,oO,ze (by rw [au];omega)]
def AY (aa:List ar) (ms:List Str):Prop:=∀(i:Nat)(h:Str),ms[i]?=some h->(∃jI,aa[0]?=some jI/\h=jI.1)\/∃ru∈aa,ru.1∈ms.take i/\h∈ru.2
def HQ (aa:List ar)(ru:ar) (j:Nat)(z:Str):Prop:=ru.2[j]?=some z/\z∈hm aa/\∀(k:Nat)(y:Str),k≠j->ru.2[k]?=some y->y∈cK false aa
def PlO (aa:List ar) (cs:List Str):Prop:=∀(i:Nat)(h:Str),cs[i]?=some h->∀ru∈aa,ru.1=h->∀(j:Nat)(z:Str),HQ aa ru j z->z∈cs.take i
structure Ce (aa:List ar) (ms cs:List Str):Prop where
 en:∀z∈hm aa,z∈cK true aa
 mo:AY aa ms
 ma:∀z∈hm aa,z∈ms
 cn:cs.Nodup
 ch:∀x∈cs,x∈hm aa
 co:PlO aa cs
 ca:∀z∈hm aa,z∈cs
def AY.app {aa:List ar}{ms zs:List Str}{ru:ar}(h:AY aa ms)(hr:ru∈aa)(h1:ru.1∈ms)(h2:∀z∈zs,z∈ru.2):AY aa (ms++zs):=by
 intro i x hx;by_cases l:i < ms.length
 .rw [pS l] at hx;rcases h i x hx with a | ⟨r,a,b,c⟩
  .exact .inl a
  exact .inr ⟨r,a,by rw [pT ∅];exact b,c⟩
 rw [mY ∅] at hx;refine .inr ⟨ru,hr,?_,h2 x (b9 hx)⟩;rw [List.take_append,mW ∅];exact h_ _ h1
def XR (aa:List ar)(ri:List ar)(gT:List (Str×Str)):Prop:=∀ru∈ri,∀(j:Nat)(z:Str),HQ aa ru j z->(ru.1,z)∈gT
structure OU (aa:List ar)(gT:List (Str×Str)) (cs:List Str):Prop where
 cn:cs.Nodup
 ch:∀x∈cs,x∈hm aa
 co:∀(i:Nat)(h:Str),cs[i]?=some h->∀z,(h,z)∈gT->z∈cs.take i
def OU.add {aa:List ar}{gT:List (Str×Str)}{cs:List Str}{nm:Str}(h:OU aa gT cs)(n:nm∉cs)(hh:nm∈hm aa)(a:∀z,(nm,z)∈gT->z∈cs):OU aa gT (cs++[nm]):=by
 refine⟨j7.mpr ⟨h.cn,by simp,λx hx y hy z=>n (by rw [<-bF.mp hy,<-z];exact hx)⟩,λx hx=>?_,λi x hx z hz=>?_⟩
 .rcases bQ.mp hx with q | q
  .exact h.ch x q
  rw [bF.mp q];exact hh
 by_cases l:i < cs.length
 .rw [pS l] at hx;rw [pT ∅];exact h.co i x hx z hz
 have li:=(bu.mp hx).1;rw [a9,gw] at li;have:i=cs.length:=by omega
 subst this;rw [mY (aF _),Nat.sub_self] at hx;cases hx;rw [pT (aF _),cE];exact a z hz
section
def EL (K:ba):Sp:=λvs H Q _=>∃(R:Addr)(rs:List Addr)(aa:List ar),vs=[.ref R]/\aH K H R (rs.map V.ref)/\bK K H rs aa/\Small aa /\
 ∀(b:Bool)(H':Hp),aA H H'->(b=true->∃ms cs,Ce aa ms cs)->Q (.bl b) H'
abbrev NG:List Str:=["_law_rules","_law_head","_law_parts","_law_heads","_law_ended_here","_law_met","_law_again","_law_empty","_law_alone","_law_k","_law_others","_law_placed","_law_name","_law_later"]
def fO:aK NG ["_law_rules"] (av E3):=iM rfl rfl rfl rfl (by decide +kernel)
def Ju (F:iB K "_law_good" "_law_good" E3 f fd)(T:Txt mg)(GE:aC P w K mg base 1 "_law_ended" ["_law_rules","_law_words_here"] (Bo K)):bR P w K mg base gk 2 f fd ["_law_rules"] (EL K):=by
 refine F.ok fO (λvs H Q E h=>?_) (λeX A outer s H vs Q E hr h=>?_)
 .obtain⟨R,rs,aa,rfl,_⟩:=h;rfl
 obtain⟨R,rs,aa,rfl,hR,cy,C7,q⟩:=h;have Vu:=C7.one;have Vt:=C7.most;refine⟨_,ai (az (i:=3) fO.nd rfl (Or.inr rfl) (bD ["_law_head","_law_parts"] [] rfl (a8 (pv 0)) (br rfl rfl) (by decide +kernel) rfl (by decide +kernel)
   (λ_ _ _ _ _=>fR (n:=2) K rfl (aB (aq (i:=0) (show (["_law_head","_law_parts"]:List Str).Nodup by decide +kernel) rfl (bC rfl)) (aB (aq (i:=1) (show (["_law_head","_law_parts"]:List Str).Nodup by decide +kernel) rfl (bC rfl)) b_))) (λ_ _ _ _ _=>b8)
   (λ_ _ _ _ _=>pv 0)))
  (ai (az (i:=4) fO.nd rfl (Or.inr rfl) (bp GE hr rfl (ab (pv 0) (ab f_ ag))))
  (ai (az (i:=5) fO.nd rfl (Or.inr rfl) (bY dq (pv 3) dr (bS ao)))
  (ai (bL cg rfl (a8 (pv 0)) (aq (i:=6) fO.nd rfl (bC rfl))
   (ak (bL cg rfl (a8 (pv 0)) (fR (n:=2) K rfl (aB (aq (i:=1) fO.nd rfl (bC rfl)) (aB (aq (i:=2) fO.nd rfl (bC rfl)) b_)))
    (ak (bI (aX lG (pv 1) (pv 5) rfl)
     (ak (az (i:=5) fO.nd rfl (Or.inr rfl) (aI dH (pv 5)
      (bD ["_law_part"] [(3,"_law_heads"),(5,"_law_met")] rfl (fZ (pv 2)) (br rfl rfl) (by decide +kernel) rfl (by decide +kernel)
       (λ_ _ _ _ _=>aq (i:=0) (show (["_law_part","_law_heads","_law_met"]:List Str).Nodup by decide +kernel) rfl (bC rfl))
       (λ_ _ _ _ _=>ip (PW.pt (kR (aX (gJ K) (pv 0) (pv 1) rfl) (i8 (aX (jh K) (pv 0) (pv 2) rfl)))))
       (λ_ _ _ _ _=>pv 0))))) aQ)))))
  (ai (az (i:=7) fO.nd rfl (Or.inr rfl) (bp GE hr rfl (ab (pv 0) (ab f_ ag))))
  (ai (az (i:=8) fO.nd rfl (bC rfl) (a_ ag))
  (ai (bL cg rfl (a8 (pv 0)) (fR (n:=2) K rfl (aB (aq (i:=1) fO.nd rfl (bC rfl)) (aB (aq (i:=2) fO.nd rfl (bC rfl)) b_)))
   (ak (bL cg rfl (gM rfl T.Cw (ab (aD aG rfl T.len cY (ab (pv 2) ag)) ag)) (aq (i:=9) fO.nd rfl (bC rfl))
    (ai (az (i:=10) fO.nd rfl (bC rfl) (aI wk (bY qy (pv 2) dr (bS (pv 9))) (bY qy (pv 2) (bS (aI du (pv 9) ao)) dr)))
    (ak (bI (PW.pt (kR (aX lG (aL aZ (pv 2) (pv 9) (λ_ _=>rfl)) (pv 3) rfl) (i8 (eI (aD (il rfl) rfl T.all boot_all (ab
      (bD ["_law_part"] [(7,"_law_empty")] rfl (fZ (pv 10)) (br rfl rfl) (by decide +kernel) rfl (by decide +kernel)
       (λ_ _ _ _ _=>aq (i:=0) (show (["_law_part","_law_empty"]:List Str).Nodup by decide +kernel) rfl (bC rfl)) (λ_ _ _ _ _=>b8)
       (λ_ _ _ _ _=>fu (gJ K) (pv 0) (pv 1) rfl)) ag))))))
     (ak (cI (g9 gF gW gX bU (pv 8) (ab (bo (ab (pv 1) (ab (aL aZ (pv 2) (pv 9) (λ_ _=>rfl)) ag))) ag)))) aQ))))))
  (ai (az (i:=11) fO.nd rfl (Or.inr rfl) (a_ ag))
  (ai (bL cg rfl (a8 (pv 0)) (aq (i:=6) fO.nd rfl (bC rfl))
   (ak (bL cg rfl (a8 (pv 3)) (aq (i:=12) fO.nd rfl (Or.inr rfl))
    (ai (i9 (iy:=13) ["_law_pair"] [(12,"_law_name")] fO.nd rfl rfl rfl (a8 (pv 8)) (br rfl rfl) (by decide +kernel) rfl (by decide +kernel)
      (λ_ _ _ _ _=>aq (i:=0) (show (["_law_pair","_law_name"]:List Str).Nodup by decide +kernel) rfl (bC rfl))
      (λ_ _ _ _ _=>ip (aX hJ (aL (wD K) (pv 0) ao (λ_ _=>rfl)) (pv 1) (bJ _))) (λ_ _ _ _ _=>aL (wD K) (pv 0) ao (λ_ _=>rfl)))
    (ak (bI (PW.pt (kR (eI (aD (il rfl) rfl T.all boot_all (ab
      (bD ["_law_other"] [(11,"_law_placed")] rfl (a8 (pv 13)) (br rfl rfl) (by decide +kernel) rfl (by decide +kernel)
       (λ_ _ _ _ _=>aq (i:=0) (show (["_law_other","_law_placed"]:List Str).Nodup by decide +kernel) rfl (bC rfl)) (λ_ _ _ _ _=>b8)
       (λ_ _ _ _ _=>fu (gJ K) (pv 0) (pv 1) rfl)) ag))) (i8 (aX iL (pv 12) (pv 11) rfl))))
     (ak (cI (g9 gF gW gX bU (pv 11) (ab (pv 12) ag)))) aQ))))))
  (ak (aN (aD (il rfl) rfl T.all boot_all (ab
   (bD ["_law_name"] [(4,"_law_ended_here"),(5,"_law_met"),(11,"_law_placed")] rfl (a8 (pv 3)) (br rfl rfl) (by decide +kernel) rfl (by decide +kernel)
    (λ_ _ _ _ _=>aq (i:=0) (show (["_law_name","_law_ended_here","_law_met","_law_placed"]:List Str).Nodup by decide +kernel) rfl (bC rfl)) (λ_ _ _ _ _=>b8)
    (λ_ _ _ _ _=>kU (fu (gJ K) (pv 0) (pv 1) rfl) (kU (fu (gJ K) (pv 0) (pv 2) rfl) (kT (fu (gJ K) (pv 0) (pv 3) rfl))))) ag)))))))))))),?_⟩
 nofun
 have ll:=aU cy;refine⟨_,rfl,R,rfl,⟨_,hR⟩,λD hD=>jY hR cy ∅ hD λH1 s1 eD=>?_⟩;refine goN ?_
 ac_rfl
 refine⟨_,rfl,R,rs,aa,true,rfl,s1.seq hR,cy.same s1,C7,λEn H2 fE s2 eE lE=>?_⟩;refine goN ?_
 ac_rfl
 have WE:d8 ((hm aa).map V.str) none (some 1)=((hm aa).take 1).map V.str:=uO (hm aa) 1;have QV:(hm aa).length=aa.length:=by unfold hm;rw [au]
 refine⟨_,rfl,_,rfl,D,_,rfl,aH.of (s2 _ _ eD),λM0 hM0=>?_⟩;rw [WE];have lm0:((hm aa).take 1).length<=1:=by rw [bO];omega
 have YD:AY aa ((hm aa).take 1):=λi h e=>by
  have li:=(bu.mp e).1;have:i=0:=by omega
  subst this;rw [xn ∅] at e;rw [bz] at e;obtain⟨r0,e0,rfl⟩:=cC.mp e;exact .inl ⟨r0,e0,rfl⟩
 generalize (hm aa).take 1=m0 at lm0 YD;have k3:=af hM0 (.lst (m0.map V.str));have s3:=(s1.trans s2).trans k3;have Iq:=k3 _ _ (s2 _ _ eD);have WT:=k3 _ _ eE;have ZZ:upd H2 M0 (.lst (m0.map V.str)) M0=some (.lst (m0.map V.str)):=ae;generalize upd H2 M0 (.lst (m0.map V.str))=H3 at k3 s3 Iq WT ZZ;refine goN ?_
 ac_rfl
 refine⟨_,rfl,R,rfl,⟨_,s3.seq hR⟩,cJ (xs:=rs.map V.ref) (λi σ H4=>∃(M:Addr) (ms:List Str)(y1 y2 y6:Option V),σ=[aM R,y1,y2,aM D,aM En,aM M,y6,none,none,none,none,none,none,none]/\aA H3 H4/\H4 M=some (.lst (ms.map V.str))/\ms.length<=8+40 * i/\AY aa ms) ⟨M0,m0,_,_,_,rfl,λ_ _ h=>h,ZZ,∅,YD⟩ ?_ ?_ ?_⟩
 .rintro i σ H4 _ ⟨M,ms,y1,y2,y6,rfl,s4,_⟩;exact s4.seq (s3.seq hR)
 .intro i x σ H4 ex jW
  ac_nf0
  obtain⟨M,ms,y1,y2,y6,rfl,s4,eM,lM,mO⟩:=jW;have li:=(bu.mp ex).1;rw [au] at li;refine goN ?_
  ac_nf
  refine⟨_,rfl,R,rfl,⟨_,s4.seq (s3.seq hR)⟩,cJ (xs:=rs.map V.ref) (λj σ H5=>∃(M:Addr) (ms:List Str)(y1 y2:Option V),σ=[aM R,y1,y2,aM D,aM En,aM M,some x,none,none,none,none,none,none,none]/\aA H3 H5/\H5 M=some (.lst (ms.map V.str))/\ms.length<=8+40 * i+4 * j/\AY aa ms) ⟨M,ms,_,_,rfl,s4,eM,∅,mO⟩ ?_ ?_ ?_⟩
  .rintro j σ H5 _ ⟨M,ms,y1,y2,rfl,s5,_⟩;exact s5.seq (s3.seq hR)
  .intro j x2 σ H5 pF jW
   ac_nf0
   obtain⟨M,ms,y1,y2,rfl,s5,eM,lM,mO⟩:=jW;have lj:=(bu.mp pF).1;rw [au] at lj;rw [bz] at pF;obtain⟨r,er,rfl⟩:=cC.mp pF;obtain⟨ru,e1,p,v1,v2⟩:=cy.get er;have iY:=C7.xg ru (b9 e1);have xI:=s3.trans s5;refine⟨r,_,rfl,xI.tup v1,rfl,_,_,rfl,_,_,rfl,rfl,?_⟩;refine⟨_,rfl,_,rfl,M,_,rfl,.inl (aH.of eM),rfl,cU _,_,rfl,?_⟩;refine cf (λc=>?_) (λc=>?_)
   .refine⟨_,rfl,_,rfl,p,rfl,⟨_,xI.tup v2⟩,λD2 jb=>gQ (xs:=ru.2.map V.str) (λk ys σ2 H6=>∃zs:List Str,ys=zs.map V.str/\zs.length<=k/\(∃y0,σ2=[y0,aM D,aM M])/\aA H5 H6/\H6 D2=some (.lst ys)/\∀z∈zs,z∈ru.2)
     ⟨[],rfl,aF _,⟨none,rfl⟩,af jb _,ae,λ_ h=>(by cases h)⟩ (λk ys σ2 H6 _ h=>?_) (λk v ys σ2 H6 ex h=>?_) (λys σ2 H6 h=>?_)⟩
    .obtain⟨_,_,_,_,s6,_⟩:=h;exact s6.tup (xI.tup v2)
    .obtain⟨zs,rfl,lz,⟨y0,rfl⟩,s6,Hd,zm⟩:=h;have lk:=(bu.mp ex).1;rw [au] at lk;rw [bz] at ex;obtain⟨z,ez,rfl⟩:=cC.mp ex;refine goN ?_;refine⟨_,rfl,_,rfl,D,_,rfl,.inl (aH.of (s6 _ _ (s5 _ _ Iq))),rfl,cU _,_,rfl,?_⟩;refine cf (λc1=>?_) (λc1=>?_)
     .refine⟨_,rfl,_,rfl,M,_,rfl,.inl (aH.of (s6 _ _ eM)),rfl,cU _,_,rfl,?_⟩;refine cf (λc2=>?_) (λc2=>?_)
      .refine⟨_,rfl,Hd,bM (by rw [au];omega),zs++[z],by rw [bG];rfl,by rw [a9];simp;omega,⟨_,rfl⟩,λb o hb=>?_,ae,λy hy=>(bQ.mp hy).elim (zm y) λq=>(bF.mp q) ▸ b9 ez⟩;rw [aj (λz=>by rw [z,jb] at hb;cases hb)];exact s6 b o hb
      exact⟨zs,rfl,∅,⟨_,rfl⟩,s6,Hd,zm⟩
     refine cT ?_;exact⟨zs,rfl,∅,⟨_,rfl⟩,s6,Hd,zm⟩
    obtain⟨zs,rfl,lz,_,s6,Hd,zm⟩:=h;have cm:ru.1∈ms:=cZ ((fU _ _).symm.trans c);rw [au] at lz;refine⟨M,D2,_,_,rfl,rfl,s6 _ _ eM,Hd,fits (by rw [au,au];omega),λM2 hM2=>?_⟩;rw [<-bG];refine⟨M2,ms++zs,_,_,rfl,(s5.trans s6).trans (af hM2 _),ae,by rw [a9];omega,mO.app (b9 e1) cm zm⟩
   exact⟨M,ms,_,_,rfl,s5,eM,∅,mO⟩
  rintro σ H5 ⟨M,ms,y1,y2,rfl,s5,eM,lM,mO⟩;rw [au,ll] at lM;exact⟨M,ms,_,_,_,rfl,s5,eM,∅,mO⟩
 rintro σ H4 ⟨M,ms,y1,y2,y6,rfl,s4,eM,lM,mO⟩;have xJ:=s3.trans s4;refine⟨_,rfl,R,rs,aa,false,rfl,xJ.seq hR,cy.same xJ,C7,λEm H5 fEm s5 Z0 lEm=>?_⟩;refine goN ?_
 ac_rfl
 refine⟨rq,λAl Wm=>?_⟩;have k6:=af Wm (.lst []);have s6:=(xJ.trans s5).trans k6;have SY:=k6 _ _ (s5 _ _ (s4 _ _ Iq));have Z1:=k6 _ _ (s5 _ _ (s4 _ _ WT));have ZY:=k6 _ _ (s5 _ _ eM);have Rp:=k6 _ _ Z0;have Z8:upd H5 Al (.lst []) Al=some (.lst []):=ae;have nA:∀b o,H5 b=some o->b≠Al:=λb o h z=>by rw [z,Wm] at h;cases h
 have nAD:=nA _ _ (s5 _ _ (s4 _ _ Iq));have nAE:=nA _ _ (s5 _ _ (s4 _ _ WT));have nAM:=nA _ _ (s5 _ _ eM);have nAm:=nA _ _ Z0;have fAl:H Al=none:=(xJ.trans s5).free Wm;generalize upd H5 Al (.lst [])=H6 at k6 s6 SY Z1 ZY Rp Z8;refine goN ?_
 ac_rfl
 let Kp:Hp->Prop:=λH7=>aA H H7/\H7 D=some (.lst ((hm aa).map V.str))/\H7 En=some (.lst ((cK true aa).map V.str))/\H7 M=some (.lst (ms.map V.str))/\H7 Em=some (.lst ((cK false aa).map V.str))
 have ja:∀{H7 H8:Hp},Kp H7->aA H7 H8->Kp H8:=λh s=>⟨h.1.trans s,s _ _ h.2.1,s _ _ h.2.2.1,s _ _ h.2.2.2.1,s _ _ h.2.2.2.2⟩;have Qk:∀{H7:Hp}{xs:List V},Kp H7->Kp (upd H7 Al (.lst xs)):=λh=>⟨λb o hb=>by rw [aj (λz=>by rw [z,fAl] at hb;cases hb)];exact h.1 b o hb,by rw [aj nAD];exact h.2.1,by rw [aj nAE];exact h.2.2.1,by rw [aj nAM];exact h.2.2.2.1,by rw [aj nAm];exact h.2.2.2.2⟩
 let Lu:Hp->List Addr->List (Str×Str)->Prop:=λH7 as gT=>Paired (λa (pr:Str×Str)=>aS K H7 a [.str pr.1,.str pr.2]) as gT
 refine⟨_,rfl,R,rfl,⟨_,s6.seq hR⟩,cJ (xs:=rs.map V.ref) (λi σ H7=>∃(as:List Addr)(gT:List (Str×Str))(y1 y2 y6 y9 yQ:Option V),σ=[aM R,y1,y2,aM D,aM En,aM M,y6,aM Em,aM Al,y9,yQ,none,none,none]/\Kp H7/\H7 Al=some (.lst (as.map V.ref))/\Lu H7 as gT/\as.length<=4 * i/\XR aa (aa.take i) gT) ⟨[],[],_,_,_,_,_,rfl,⟨s6,SY,Z1,ZY,Rp⟩,Z8,.nil,by simp,λru h=>(by simp at h)⟩ ?_ ?_ ?_⟩
 .rintro i σ H7 _ ⟨as,gT,y1,y2,y6,y9,yQ,rfl,kp,_⟩;exact kp.1.seq hR
 .intro i x2 σ H7 pF jW
  ac_nf0
  obtain⟨as,gT,y1,y2,y6,y9,yQ,rfl,kp,eA,pA,lA,aO⟩:=jW;have lj:=(bu.mp pF).1;rw [au] at lj;rw [bz] at pF;obtain⟨r,er,rfl⟩:=cC.mp pF;obtain⟨ru,e1,p,v1,v2⟩:=cy.get er;have iY:=C7.xg ru (b9 e1);refine⟨r,_,rfl,kp.1.tup v1,rfl,_,_,rfl,_,_,rfl,rfl,?_⟩;refine⟨_,rfl,p,_,rfl,.inr (kp.1.tup v2),_,rfl,by rw [au];omega,by rw [au];omega,?_⟩;rw [au,kx];refine gP (n:=ru.2.length) (λj σ H8=>∃(as:List Addr)(gT:List (Str×Str))(y9 yQ:Option V),σ=[aM R,some (.str ru.1),aM p,aM D,aM En,aM M,y6,aM Em,aM Al,y9,yQ,none,none,none]/\Kp H8/\H8 Al=some (.lst (as.map V.ref))/\Lu H8 as gT/\as.length<=4 * i+j/\XR aa (aa.take i) gT/\∀(j2:Nat)(z2:Str),j2 < j->HQ aa ru j2 z2->(ru.1,z2)∈gT) ⟨as,gT,_,_,rfl,kp,eA,pA,∅,aO,λj2 _ h=>∅⟩ ?_ ?_
  .intro j σ H8 hj jW
   ac_nf0
   obtain⟨as,gT,y9,yQ,rfl,kp,eA,pA,lA,aO,aJ⟩:=jW;obtain⟨z,ez⟩:∃z,ru.2[j]?=some z:=⟨ru.2[j]'∅,dG ∅⟩;have atj:jZ (ru.2.map V.str) (0+(j:Int))=some (.str z):=by
    rw [j6];exact bZ (by rw [bz,ez];rfl)
   have eq1:=uO ru.2 j;have eq2:=DG ru.2 j;have lq1:(ru.2.take j).length<=ru.2.length:=by rw [bO];omega
   have lq2:(ru.2.drop (j+1)).length<=ru.2.length:=by rw [ff];omega
   have Mm:∀y,y∈ru.2.take j++ru.2.drop (j+1)->∃k,k≠j/\ru.2[k]?=some y:=λy hy=>by
    rcases bQ.mp hy with h | h
    .obtain⟨k,lk,ek⟩:=qv h;exact⟨k,∅,ek⟩
    obtain⟨k,ek⟩:=iH h;rw [q9] at ek;exact⟨j+1+k,∅,ek⟩
   generalize ru.2.take j=q1 at eq1 lq1 Mm;generalize ru.2.drop (j+1)=q2 at eq2 lq2 Mm;refine goN ?_
   ac_rfl
   refine⟨_,rfl,_,rfl,_,rfl,p,_,rfl,kp.1.tup v2,λt1 H9 s9 e9=>?_⟩;rw [eq1] at e9;refine⟨_,rfl,_,rfl,_,_,rfl,rfl,_,rfl,p,_,rfl,s9.tup (kp.1.tup v2),λt2 HA sA Z9=>?_⟩;rw [eq2] at Z9;refine⟨t1,t2,_,_,rfl,rfl,sA.tup e9,Z9,fits (by rw [au,au];omega),λt3 HB sB eB=>?_⟩;rw [<-bG] at eB;refine goN ?_
   ac_rfl
   have Uk:=s9.trans (sA.trans sB);have Ga:=ja kp Uk;have WY:=Uk _ _ eA;have Yo:Lu HB as gT:=Paired.e_ pA λa pr z=>Uk.tup z;have x9:∀{HC:Hp},aA HB HC->¬HQ aa ru j z->∃(as:List Addr)(gT:List (Str×Str))(y9' Tw:Option V),[aM R,some (.str ru.1),aM p,aM D,aM En,aM M,y6,aM Em,aM Al,some (.int (0+(j:Int))),aM t3,none,none,none]=[aM R,some (.str ru.1),aM p,aM D,aM En,aM M,y6,aM Em,aM Al,y9',Tw,none,none,none]/\Kp HC/\HC Al=some (.lst (as.map V.ref))/\Lu HC as gT/\as.length<=4 * i+(j+1)/\XR aa (aa.take i) gT/\∀(j2:Nat)(z2:Str),j2 < j+1->HQ aa ru j2 z2->(ru.1,z2)∈gT:=λ{HC} sC nl=>⟨as,gT,_,_,rfl,ja Ga sC,sC _ _ WY,Paired.e_ Yo λa pr z=>sC.tup z,∅,aO,λj2 z2 h lo=>by
    by_cases c:j2 < j
    .exact aJ j2 z2 c lo
    have:j2=j:=by omega
    subst this;have e2:=lo.1;rw [ez] at e2;cases e2;exact absurd lo nl⟩
   refine⟨_,rfl,_,rfl,p,_,_,_,rfl,rfl,Ga.1.tup v2,atj,_,rfl,D,_,rfl,.inl (aH.of Ga.2.1),rfl,cU _,_,rfl,?_⟩;refine cf (λc1=>?_) (λc1=>?_)
   .refine⟨_,rfl,t3,rfl,⟨_,eB⟩,λD2 jb=>k_ (zs:=q1++q2) [aM Em] (λz=>decide (z∈cK false aa)) rfl eB (by rw [a9];omega) jb (λz _ H5 Qy s5 hq=>?_) λHC sC eC=>?_⟩
    .refine⟨_,rfl,_,rfl,Em,_,rfl,.inl (aH.of (s5 _ _ Ga.2.2.2.2)),rfl,cU _,?_⟩;rw [fU];exact hq
    refine⟨D2,_,rfl,aH.of eC,_,rfl,?_⟩;refine cf (λc2=>?_) (λc2=>?_)
    .have kpC:=ja Ga sC;refine⟨_,rfl,.inl ⟨rfl,_,aH.of (sC _ _ WY)⟩,_,rfl,_,rfl,_,rfl,p,_,_,_,rfl,rfl,kpC.1.tup v2,atj,iP,λt ht=>?_⟩;have kD:=af ht (.tup [.str ru.1,.str z]);have sD:=sC.trans kD;have vD:aS K (upd HC t (.tup [.str ru.1,.str z])) t [.str ru.1,.str z]:=aS.of ae;generalize upd HC t (.tup [.str ru.1,.str z])=HD at kD sD vD;have WX:=sD _ _ WY;refine⟨Al,_,_,rfl,rfl,WX,bM (by rw [au];omega),?_⟩;exact⟨as++[t],gT++[(ru.1,z)],_,_,rfl,Qk (ja Ga sD),by rw [ae,bG];rfl,hZ (Paired.e_ Yo λa pr z=>a7 WX (sD.tup z)) (a7 WX vD),by rw [a9];simp;omega,λr Su j2 z2 lo=>h_ _ (aO r Su j2 z2 lo),λj2 z2 h lo=>by
      by_cases c:j2 < j
      .exact h_ _ (aJ j2 z2 c lo)
      have:j2=j:=by omega
      subst this;have e2:=lo.1;rw [ez] at e2;cases e2;exact fQ _ cH⟩
    refine x9 sC λlo=>c2 ?_;rw [all_map];refine gK.mpr λy hy=>bh ?_;obtain⟨k,nk,ek⟩:=Mm y hy;exact lo.2.2 k y nk ek
   refine cT ?_;exact x9 (λ_ _ h=>h) λlo=>c1 ((fU _ _).trans (bh lo.2.1))
  rintro σ H8 ⟨as,gT,y9,yQ,rfl,kp,eA,pA,lA,aO,aJ⟩;refine⟨as,gT,_,_,_,_,_,rfl,kp,eA,pA,∅,λr Su j2 z2 lo=>?_⟩;rw [cP,e1] at Su;rcases bQ.mp Su with h | h
  .exact aO r h j2 z2 lo
  have:r=ru:=bF.mp h;subst this;exact aJ j2 z2 (bu.mp lo.1).1 lo
 rintro σ H7 ⟨as,gT,y1,y2,y6,y9,yQ,rfl,kp,eA,pA,lA,aO⟩;rw [au,ll] at lA aO;rw [cE] at aO;refine⟨rq,λCm Wk=>?_⟩;have k8:=af Wk (.lst []);have Vd:=ja kp k8;have Z7:=k8 _ _ eA;have Yq:Lu (upd H7 Cm (.lst [])) as gT:=Paired.e_ pA λa pr z=>k8.tup z;have Z3:upd H7 Cm (.lst []) Cm=some (.lst []):=ae;have nC:∀b o,H7 b=some o->b≠Cm:=λb o h z=>by rw [z,Wk] at h;cases h
 have nCA:=nC _ _ eA;have nCD:=nC _ _ kp.2.1;have nCE:=nC _ _ kp.2.2.1;have nCM:=nC _ _ kp.2.2.2.1;have nCm:=nC _ _ kp.2.2.2.2;have fCm:H Cm=none:=kp.1.free Wk;have Qj:∀{H7:Hp}{xs:List V},Kp H7->Kp (upd H7 Cm (.lst xs)):=λh=>⟨λb o hb=>by rw [aj (λz=>by rw [z,fCm] at hb;cases hb)];exact h.1 b o hb,by rw [aj nCD];exact h.2.1,by rw [aj nCE];exact h.2.2.1,by rw [aj nCM];exact h.2.2.2.1,by rw [aj nCm];exact h.2.2.2.2⟩;generalize upd H7 Cm (.lst [])=H8 at k8 Vd Z7 Yq Z3;refine goN ?_
 ac_rfl
 have lap:=aU pA;refine⟨_,rfl,R,rfl,⟨_,Vd.1.seq hR⟩,cJ (xs:=rs.map V.ref) (λi σ H9=>∃(cs:List Str)(y1 y2 y6 y9 yQ IG IF:Option V),σ=[aM R,y1,y2,aM D,aM En,aM M,y6,aM Em,aM Al,y9,yQ,aM Cm,IG,IF]/\Kp H9/\H9 Al=some (.lst (as.map V.ref))/\Lu H9 as gT/\H9 Cm=some (.lst (cs.map V.str))/\cs.length<=8 * i/\OU aa gT cs) ⟨[],_,_,_,_,_,_,_,rfl,Vd,Z7,Yq,Z3,by simp,⟨by simp,λ_ h=>(by cases h),λi h e=>(by cases e)⟩⟩ ?_ ?_ ?_⟩
 .rintro i σ H9 _ ⟨cs,y1,y2,y6,y9,yQ,IG,IF,rfl,Ie,_⟩;exact Ie.1.seq hR
 .intro i x σ H9 ex jW
  ac_nf0
  obtain⟨cs,y1,y2,y6,y9,yQ,IG,IF,rfl,Ie,Z6,Yp,Lf,lC9,Rx⟩:=jW;have li:=(bu.mp ex).1;rw [au] at li;refine goN ?_
  ac_nf
  refine⟨_,rfl,D,rfl,⟨_,aH.of Ie.2.1⟩,cJ (xs:=(hm aa).map V.str) (λj σ HA=>∃(cs:List Str)(IG IF:Option V),σ=[aM R,y1,y2,aM D,aM En,aM M,some x,aM Em,aM Al,y9,yQ,aM Cm,IG,IF]/\Kp HA/\HA Al=some (.lst (as.map V.ref))/\Lu HA as gT/\HA Cm=some (.lst (cs.map V.str))/\cs.length<=8 * i+j/\OU aa gT cs) ⟨cs,_,_,rfl,Ie,Z6,Yp,Lf,∅,Rx⟩ ?_ ?_ ?_⟩
  .rintro j σ HA _ ⟨cs,IG,IF,rfl,Ql,_⟩;exact aH.of Ql.2.1
  .intro j x2 σ HA pF jW
   ac_nf0
   obtain⟨cs,IG,IF,rfl,Ql,OH,PL,OG,YK,Tb⟩:=jW;have lj:=(bu.mp pF).1;rw [au] at lj;rw [bz] at pF;obtain⟨nm,enm,rfl⟩:=cC.mp pF;refine goN ?_
   ac_rfl
   refine⟨_,rfl,Al,rfl,⟨_,aH.of OH⟩,λD2 jb=>cM (xs:=as.map V.ref) (λk ys σ2 HB=>∃zs:List Str,ys=zs.map V.str/\zs.length<=k/\(∃y0,σ2=[y0,some (.str nm)])/\aA HA HB/\HB D2=some (.lst ys)/\∀pr∈gT.take k,pr.1=nm->pr.2∈zs)
    ⟨[],rfl,aF _,⟨none,rfl⟩,af jb _,ae,λ_ h=>(by simp at h)⟩ (λk ys σ2 HB _ h=>?_) (λk v ys σ2 HB ex h=>?_) (λys σ2 HB h=>?_)⟩
   .obtain⟨_,_,_,_,sB,_⟩:=h;exact aH.of (sB _ _ OH)
   .obtain⟨zs,rfl,lz,⟨u0,rfl⟩,sB,eB,zA⟩:=h;have lk:=(bu.mp ex).1;rw [au] at lk;rw [bz] at ex;obtain⟨a,ea,rfl⟩:=cC.mp ex;obtain⟨pr,ZJ⟩:∃pr,gT[k]?=some pr:=⟨gT[k]'∅,dG ∅⟩;obtain⟨a',Ld,va⟩:=Paired.at_ PL k pr ZJ;rw [ea] at Ld;cases Ld;refine goN ?_;have tk:gT.take (k+1)=gT.take k++[pr]:=by rw [cP,ZJ];rfl
    refine⟨_,rfl,a,_,_,_,rfl,rfl,sB.tup va,rfl,_,rfl,rfl,_,rfl,?_⟩;refine cf (λc1=>?_) (λc1=>?_)
    .refine⟨_,rfl,a,_,_,_,rfl,rfl,sB.tup va,rfl,eB,bM (by rw [au];omega),zs++[pr.2],by rw [bG];rfl,by rw [a9];simp;omega,⟨_,rfl⟩,λb o hb=>?_,ae,λp2 oE e2=>?_⟩
     .rw [aj (λz=>by rw [z,jb] at hb;cases hb)];exact sB b o hb
     rw [tk] at oE;rcases bQ.mp oE with h | h
     .exact h_ _ (zA p2 h e2)
     rw [bF.mp h];exact fQ _ cH
    refine⟨zs,rfl,∅,⟨_,rfl⟩,sB,eB,λp2 oE e2=>?_⟩;rw [tk] at oE;rcases bQ.mp oE with h | h
    .exact zA p2 h e2
    have:p2=pr:=bF.mp h;rw [this] at e2;exact absurd (bh (congrArg V.str e2)) c1
   obtain⟨zs,rfl,lz,_,sB,eB,zA⟩:=h;rw [au] at lz zA;rw [lap,cE] at zA;refine goN ?_
   ac_rfl
   have Ga:=ja Ql sB;have x9:∀{HC:Hp},aA HB HC->∃(cs:List Str)(Tv Tu:Option V),[aM R,y1,y2,aM D,aM En,aM M,some x,aM Em,aM Al,y9,yQ,aM Cm,some (.str nm),aM D2]=[aM R,y1,y2,aM D,aM En,aM M,some x,aM Em,aM Al,y9,yQ,aM Cm,Tv,Tu]/\Kp HC/\HC Al=some (.lst (as.map V.ref))/\Lu HC as gT/\HC Cm=some (.lst (cs.map V.str))/\cs.length<=8 * i+(j+1)/\OU aa gT cs:=λ{HC} sC=>⟨cs,_,_,rfl,ja Ga sC,sC _ _ (sB _ _ OH),Paired.e_ PL λa pr z=>sC.tup (sB.tup z),sC _ _ (sB _ _ OG),∅,Tb⟩;refine⟨_,rfl,D2,rfl,⟨_,aH.of eB⟩,λD3 yj=>qb (zs:=zs) [aM Cm] (λz=>decide (z∈cs)) rfl (aH.of eB) ∅ yj (λz _ H5 Qy s5 hq=>?_) λHC sC eC=>?_⟩
   .refine⟨_,rfl,_,rfl,Cm,_,rfl,.inl (aH.of (s5 _ _ (sB _ _ OG))),rfl,cU _,?_⟩;rw [fU];exact hq
   refine⟨D3,_,rfl,aH.of eC,_,rfl,?_⟩;refine cf (λc2=>?_) (λc2=>?_)
   .refine⟨_,rfl,_,rfl,Cm,_,rfl,.inl (aH.of (sC _ _ (sB _ _ OG))),rfl,cU _,_,rfl,?_⟩;refine cf (λc1=>?_) (λc1=>?_)
    .have WW:=sC _ _ (sB _ _ OG);have nc:nm∉cs:=λh=>by
      have c1':(!KZ (V.str nm) (cs.map V.str))=true:=c1;rw [fU,bh h] at c1';cases c1'
     have ac:∀z∈zs,z∈cs:=λz hz=>by
      rw [all_map] at c2;exact cZ (gK.mp c2 z hz)
     refine⟨_,rfl,.inl ⟨rfl,_,aH.of WW⟩,_,rfl,Cm,_,_,rfl,rfl,WW,bM (by rw [au];omega),?_⟩;exact⟨cs++[nm],_,_,rfl,Qj (ja Ga sC),by rw [aj nCA];exact sC _ _ (sB _ _ OH),Paired.e_ PL λa pr z=>a7 WW (sC.tup (sB.tup z)),by rw [ae,bG];rfl,by rw [a9];simp;omega,Tb.add nc (b9 enm) λz hz=>ac z (zA (nm,z) hz rfl)⟩
    exact x9 sC
   refine cT ?_;exact x9 sC
  rintro σ HA ⟨cs,IG,IF,rfl,Ql,OH,PL,OG,YK,Tb⟩;rw [au,QV] at YK;exact⟨cs,_,_,_,_,_,_,_,rfl,Ql,OH,PL,OG,∅,Tb⟩
 rintro σ H9 ⟨cs,y1,y2,y6,y9,yQ,IG,IF,rfl,Ie,Z6,Yp,Lf,lC9,Rx⟩;refine⟨_,rfl,D,rfl,⟨_,aH.of Ie.2.1⟩,λD3 yj=>qb (zs:=hm aa) [aM En,aM M,aM Cm] (λz=>decide (z∈cK true aa) && (decide (z∈ms) && decide (z∈cs))) rfl (aH.of Ie.2.1) ∅ yj (λz _ H5 Qy s5 hq=>?_) λHC sC eC=>?_⟩
 .refine⟨_,rfl,_,rfl,En,_,rfl,.inl (aH.of (s5 _ _ Ie.2.2.1)),rfl,cU _,_,rfl,?_⟩;rw [fU];show if decide (z∈cK true aa)=true then _ else _;refine cf (λc=>?_) (λc=>?_)
  .rw [c,jn] at hq;refine⟨_,rfl,_,rfl,M,_,rfl,.inl (aH.of (s5 _ _ Ie.2.2.2.1)),rfl,cU _,_,rfl,?_⟩;rw [fU];show if decide (z∈ms)=true then _ else _;refine cf (λc=>?_) (λc=>?_)
   .rw [c,jn] at hq;refine⟨_,rfl,_,rfl,Cm,_,rfl,.inl (aH.of (s5 _ _ Lf)),rfl,cU _,?_⟩;rw [fU];exact hq
   have c':decide (z∈ms)=false:=by simpa using c
   rw [c',qT] at hq;exact hq
  have c':decide (z∈cK true aa)=false:=by simpa using c
  rw [c',qT] at hq;exact hq
 refine⟨D3,_,rfl,aH.of eC,?_⟩;rw [all_map];refine q _ _ (Ie.1.trans sC) λhb=>⟨ms,cs,?_⟩;have al:=λz hz=>gE.mp (gK.mp hb z hz);refine⟨λz hz=>cZ (al z hz).1,mO,λz hz=>cZ (gE.mp (al z hz).2).1,Rx.cn,Rx.ch,λi h e ru iY er j z lo=>?_,λz hz=>cZ (gE.mp (al z hz).2).2⟩;exact Rx.co i h e z (er ▸ aO ru iY j z lo)
end
theorem aW {α β:Type}{F:α->β->Prop}:∀{xs:List α}{ys:List β}{IH:List α}{XS:List β},Paired F xs ys->Paired F IH XS->Paired F (xs++IH) (ys++XS)
 | _,_,_,_,.nil,h=>h
 | _,_,_,_,.cons a b,h=>.cons a (aW b h)
def kb {aa:List ar}{x:Str}:x∈hm aa↔x∈hd aa:=by
 constructor
 .intro h;obtain⟨ru,a,b⟩:=cX.mp h;exact b ▸ n8 a
 intro h;obtain⟨ru,a,b⟩:=K3 h;exact cX.mpr ⟨ru,a,b⟩
def Ce.PM {aa:List ar}{fK ms cs:List Str}(g:Ce aa ms cs)(n3:fK.length<=3)(xf:∀ru∈aa,ru.1∈fK)(p3:∀ru∈aa,ru.2.length<=3):yJ aa fK (cK true aa) ms cs:=by
 have Sr:∀x∈hm aa,x∈fK:=λx hx=>by
  obtain⟨ru,a,b⟩:=cX.mp hx;exact b ▸ xf ru a
 have eo:=G9 true aa;refine⟨n3,xf,p3,eo.nd,λx hx=>Sr x (eo.sub x hx),λi h e=>?_,λh hh=>g.en h (kb.mpr hh),g.mo,λh hh=>g.ma h (kb.mpr hh),g.cn,λx hx=>Sr x (g.ch x hx),λi h e ru iY er j z ez hz Oo=>?_,λh hh=>g.ca h (kb.mpr hh)⟩
 .obtain⟨bq,a,b⟩:=eo.ord i h e;exact⟨bq,a,λp hp=>(b p hp).imp id λq z=>q.2 (kb.mpr z)⟩
 exact g.co i h e ru iY er j z ⟨ez,kb.mpr hz,λk y nk ey=>Ha (Oo k y nk ey)⟩
def Cs {aa:List ar}{fK ws:List Str}(nd:fK.Nodup)(n0:0 < fK.length)(n3:fK.length<=3)(dj:∀x∈fK,x∉ws)(hl:aa.length=fK.length)
  (hs:∀(j:Nat)(ru:ar),aa[j]?=some ru->fK[j]?=some ru.1/\pJ fK ws j ru.2):yJ aa fK fK.reverse fK fK:=by
 have at_:∀(a:Nat)(h:Str),fK[a]?=some h->∃bq,aa[a]?=some (h,bq)/\pJ fK ws a bq:=λa h e=>by
  have la:=(bu.mp e).1;have e2:aa[a]?=some (aa[a]'∅):=dG ∅;obtain⟨x1,x2⟩:=hs a _ e2;rw [e] at x1;refine⟨(aa[a]'∅).2,?_,x2⟩;rw [e2]
  congr 1
  exact Prod.ext (ir x1).symm rfl
 have By:∀ru∈aa,∃a:Nat,fK[a]?=some ru.1/\pJ fK ws a ru.2:=λru h=>by
  obtain⟨a,e⟩:=iH h;exact⟨a,hs a ru e⟩
 have SF:∀x,x∈hd aa->x∈fK:=λx hx=>by
  obtain⟨ru,a,b⟩:=K3 hx;obtain⟨k,e,_⟩:=By ru a;exact b ▸ b9 e
 have wN:∀x∈ws,x∉hd aa:=λx hx h=>dj x (SF x h) hx;refine⟨n3,λru h=>?_,λru h=>?_,List.pairwise_reverse.mpr (nd.imp λh=>h.symm),λx hx=>List.mem_reverse.mp hx,λi h e=>?_,λh hh=>List.mem_reverse.mpr (SF h hh),λi h e=>?_,λh hh=>SF h hh,nd,λ_ h=>h,λi h e ru iY er j z ez hz Oo=>?_,λh hh=>SF h hh⟩
 .obtain⟨a,e,_⟩:=By ru h;exact b9 e
 .obtain⟨a,e,sk⟩:=By ru h;rcases sk with ⟨n',wx,_,_,_,l2,h | h⟩ | ⟨_,_,l2⟩
  .rw [h,a9];simp;omega
  .rw [h,dY];omega
  omega
 .have li:=(bu.mp e).1;rw [qM] at li;rw [vw li] at e;obtain⟨bq,e2,sk⟩:=at_ _ h e;refine⟨bq,b9 e2,λp hp=>?_⟩;rcases sk with ⟨n',wx,e3,_,hw,_,ql⟩ | ⟨_,hw,_⟩
  .have cs:p=n'\/p∈wx:=by
    rcases ql with h | h
    .rw [h] at hp;rcases bQ.mp hp with q | q
     .exact .inr q
     exact .inl (bF.mp q)
    rw [h] at hp;rcases bW.mp hp with q | q
    .exact .inl q
    exact .inr q
   rcases cs with rfl | q
   .left;have l3:=(bu.mp e3).1;have e4:fK.reverse[i - 1]?=some p:=by
     rw [vw ∅,<-e3]
     congr 1
     omega
    refine b9 (i:=i - 1) ?_;rw [xn ∅];exact e4
   exact .inr (wN p (hw p q))
  exact .inr (wN p (hw p hp))
 .match i,e with
  | 0,e =>
   obtain⟨bq,e2,_⟩:=at_ 0 h e;exact .inl ⟨_,e2,rfl⟩
  | i+1,e =>
   have li:=(bu.mp e).1;have e5:fK[i]?=some (fK[i]'∅):=dG ∅;obtain⟨bq,e2,sk⟩:=at_ i _ e5;refine .inr ⟨_,b9 e2,?_,?_⟩
   .refine b9 (i:=i) ?_;rw [xn ∅];exact e5
   rcases sk with ⟨n',wx,e3,_,hw,_,ql⟩ | ⟨l,_,_⟩
   .rw [e] at e3;cases e3;show h∈bq;rcases ql with q | q
    .rw [q];exact fQ _ cH
    rw [q];exact cH
   omega
 exfalso;obtain⟨a,_,sk⟩:=By ru iY;rcases sk with ⟨n',wx,_,RR,hw,_,ql⟩ | ⟨_,hw,_⟩
 .obtain⟨y,hy⟩:=List.exists_mem_of_ne_nil wx RR;have hy2:y∈ru.2:=by
   rcases ql with q | q
   .rw [q];exact h_ _ hy
   rw [q];exact dA _ hy
  obtain⟨k,ek⟩:=iH hy2;by_cases c:k=j
  .subst c;rw [ez] at ek;cases ek;exact wN _ (hw _ hy) hz
  exact wN y (hw y hy) (Lb (Oo k y c ek))
 exact wN z (hw z (b9 ez)) hz
def yJ.en {aa:List ar}{fK E M Pl:List Str}(O:yJ aa fK E M Pl):∀z∈hm aa,z∈cK true aa:=λz hz=>by
 have all:∀(n i:Nat)(h:Str),i < n->E[i]?=some h->h∈cK true aa:=by
  intro n
  induction n with
  | zero=>intro i h l;omega
  | succ n ih =>
   intro i h l e;obtain⟨bq,a,b⟩:=O.eO i h e;refine ou a λp hp=>?_;rcases b p hp with q | q
   .obtain⟨j,lj,ej⟩:=qv q;exact .inl (ih j p ∅ ej)
   exact .inr ⟨rfl,λw=>q (kb.mp w)⟩
 obtain⟨i,e⟩:=iH (O.eA z (kb.mp hz));exact all (i+1) i z ∅ e
def HK (aa:List ar)(rk:Str->Nat):Prop:=(∀x,rk x<=3)/\∀ru∈aa,∀(j:Nat)(z:Str),ru.2[j]?=some z->z∈hd aa->(∀(k:Nat)(y:Str),k≠j->ru.2[k]?=some y->Em aa y)->rk z < rk ru.1
theorem Gk:∀(l:List Str)(x:Str),Ec l x<=l.length
 | [],x=>aF _
 | a::r,x=>by
  unfold Ec;by_cases c:a=x
  .rw [ax c];exact dW _
  rw [ay c];exact Nat.succ_le_succ (Gk r x)
def yJ.rank {aa:List ar}{ns E M Pl:List Str}(o:yJ aa ns E M Pl):HK aa (Ec Pl):=by
 refine⟨λx=>?_,λru iY j z ez hz h=>?_⟩
 .have h1:=Gk Pl x;have h2:=iX _ _ o.lN o.YJ;have h3:=o.n3;omega
 exact nX _ _ _ (o.lO _ _ (r9 Pl ru.1 (o.lA _ (n8 iY))) ru iY rfl j z ez hz h)
structure RL (c:Int)(aa:List ar):Prop where
 one:1<=aa.length
 six:aa.length<=6
 ins:∀ru∈aa,ru.1∈dw c/\ru.2.length<=3/\∀x∈ru.2,x∈dw c++iZ c
 en:∀z∈hm aa,z∈cK true aa
 rank:∃rk,HK aa rk
 good:∃rk b,Good aa rk b
section
def EK (K:ba):Sp:=λvs H Q _=>∃(S:Addr)(ns:List Int) (at_:Nat),vs=[.ref S,.int (at_:Int)]/\aH K H S (ns.map V.int)/\ns.length<=1000 /\
 ∀(c:Int)(R:Addr)(rs:List Addr)(aa:List ar)(H':Hp),c=cellAt ns at_->H R=none->aA H H'->H' R=some (.lst (rs.map V.ref))->bK K H' rs aa->RL c aa->Q (.ref R) H'
def mx:aK ["_law_script","_law_at","_law_cell","_law_names_here","_law_words_here","_law_rules","_law_more_here","_law_free"] ["_law_script","_law_at"] (av E2):=iM rfl rfl rfl rfl (by decide +kernel)
def Jt (F:iB K "_law_grammar" "_law_grammar" E2 f fd)(T:Txt mg)(GC:aC P w K mg base 2 "_law_cell_at" ["_law_script","_law_k"] (rH K))(GN:aC P w K mg base 2 "_law_names" ["_law_cell"] Bk)(GW:aC P w K mg base 2 "_law_words" ["_law_cell"] xw)
  (GS:aC P w K mg base 2 "_law_skeleton" ["_law_script","_law_at","_law_names_here","_law_words_here"] (EG K))(GM:aC P w K mg base 2 "_law_more" ["_law_script","_law_at","_law_names_here","_law_many","_law_words_here"] (EI K))(GG:aC P w K mg base 2 "_law_good" ["_law_rules"] (EL K)) :
  bR P w K mg base gk 3 f fd ["_law_script","_law_at"] (EK K):=by
 refine F.ok mx (λvs H Q E h=>?_) (λeX A outer s H vs Q E hr h=>?_)
 .obtain⟨S,ns,at_,rfl,_⟩:=h;rfl
 obtain⟨S,ns,at_,rfl,hS,hn,q⟩:=h;refine⟨_,ai (az (i:=2) mx.nd rfl (bC rfl) (bp GC hr rfl (ab (pv 0) (ab (pv 1) ag))))
  (ai (az (i:=3) mx.nd rfl (bC rfl) (bp GN hr rfl (ab (pv 2) ag)))
  (ai (az (i:=4) mx.nd rfl (bC rfl) (bp GW hr rfl (ab (pv 2) ag)))
  (ai (az (i:=5) mx.nd rfl (bC rfl) (bp GS hr rfl (ab (pv 0) (ab (aI du (pv 1) ao) (ab (pv 3) (ab (pv 4) ag))))))
  (ai (az (i:=6) mx.nd rfl (bC rfl) (bp GM hr rfl (ab (pv 0) (ab (aI du (pv 1) ao) (ab (pv 3) (ab (aI c_ (aI fS (pv 2) ao) ao) (ab (pv 4) ag)))))))
  (ai (iK (bI (aX hJ (aI c_ (aI fS (pv 2) ao) ao) ao (bJ _))
   (ai (az (i:=7) mx.nd rfl (bC rfl) (bp GM hr rfl (ab (pv 0) (ab (aI du (pv 1) ao) (ab (pv 3) (ab (aI du ao (aI c_ (aI fS (pv 2) ao) ao)) (ab (pv 4) ag)))))))
   (ak (bI (eI (bp GG hr rfl (ab (pv 7) ag))) (ak (aN (pv 7))) aQ))) aQ))
  (ai (bI (eI (bp GG hr rfl (ab (aI dH (pv 5) (pv 6)) ag))) (ak (aN (aI dH (pv 5) (pv 6)))) aQ)
  (ak (aN (pv 5))))))))),?_⟩
 refine⟨_,rfl,_,rfl,S,ns,at_,rfl,hS,hn,λc hc=>?_⟩;have gl:=su c;have wl:=Az c;refine⟨_,rfl,c,rfl,λN H1 fN s1 eN=>?_⟩;refine⟨_,rfl,c,rfl,λW H2 fW s2 eW=>?_⟩;have E7:=s1.trans s2;have OE:=s2 _ _ eN;refine⟨_,rfl,_,rfl,_,_,rfl,rfl,_,rfl,_,rfl,S,N,W,ns,at_+1,dw c,iZ c,(by show [V.ref S,V.int ((at_:Int)+1),V.ref N,V.ref W]=_;congr 3),E7.seq hS,hn,OE,eW,∅,∅,∅,∅,λR1 Kw kQ H3 f3 s3 e3 Ur l3 X9=>?_⟩;have Cu:=E7.trans s3;obtain⟨m,VN⟩:∃m:Nat,c / 9 % 4=(m:Int):=⟨(c / 9 % 4).toNat,∅⟩;refine⟨_,rfl,_,rfl,_,_,rfl,rfl,_,rfl,_,rfl,_,_,rfl,rfl,⟨by decide,by decide⟩,_,_,rfl,rfl,(by show (0:Int) < 4;decide),_,rfl,S,N,W,ns,at_+4,m,dw c,iZ c,(by show [V.ref S,V.int ((at_:Int)+4),V.ref N,V.int (c / 9 % 4),V.ref W]=_;rw [VN];congr 3),Cu.seq hS,hn,s3 _ _ OE,s3 _ _ eW,∅,∅,∅,∅,λR2 Ma pb H4 f4 s4 e4 Sa l4 in4=>?_⟩;have xJ:=Cu.trans s4;have e34:=s4 _ _ e3;have Mc:=Ur.same s4;have O1:=Cs (Dk c) gl.1 gl.2 (Dl c) l3 X9;have in1:∀ru∈kQ,ru.1∈dw c/\ru.2.length<=3/\∀x∈ru.2,x∈dw c++iZ c:=λru h=>by
  refine⟨O1.xf ru h,O1.p3 ru h,λx hx=>?_⟩;obtain⟨a,e⟩:=iH h;rcases (X9 a ru e).2 with ⟨n',wx,en,_,hw,_,ql⟩ | ⟨_,hw,_⟩
  .have cs:x=n'\/x∈wx:=by
    rcases ql with h | h
    .rw [h] at hx;rcases bQ.mp hx with q | q
     .exact .inr q
     exact .inl (bF.mp q)
    rw [h] at hx;rcases bW.mp hx with q | q
    .exact .inl q
    exact .inr q
   rcases cs with rfl | q
   .exact h_ _ (b9 en)
   exact fQ _ (hw x q)
  exact fQ _ (hw x hx)
 have PQ:∀{aa:List ar}{ms cs:List Str},Ce aa ms cs->1<=aa.length->aa.length<=6->(∀ru∈aa,ru.1∈dw c/\ru.2.length<=3/\∀x∈ru.2,x∈dw c++iZ c)->RL c aa:=λg a b i=>⟨a,b,i,g.en,⟨_,(g.PM gl.2 (λru h=>(i ru h).1) λru h=>(i ru h).2.1).rank⟩,_,_,(g.PM gl.2 (λru h=>(i ru h).1) λru h=>(i ru h).2.1).good⟩;have Pp:∀{aa:List ar},1<=aa.length->aa.length<=6->(∀ru∈aa,ru.1∈dw c/\ru.2.length<=3/\∀x∈ru.2,x∈dw c++iZ c)->Small aa:=λa b i=>⟨a,∅,λru h=>by have:=(i ru h).2.1;omega⟩;refine⟨λσ H5=>∃y7,σ=[aM S,some (.int (at_:Int)),some (.int c),aM N,aM W,aM R1,aM R2,y7]/\aA H4 H5,?_,?_⟩
 .refine⟨_,rfl,_,_,rfl,rfl,⟨by decide,by decide⟩,_,_,rfl,rfl,(by show (0:Int) < 2;decide),rfl,_,rfl,?_⟩;refine cf (λcc=>?_) (λcc=>?_)
  .have VM:1+c / 9 % 4=((m+1:Nat):Int):=by omega
   refine⟨_,rfl,_,rfl,_,_,rfl,rfl,_,rfl,_,rfl,_,_,rfl,rfl,⟨by decide,by decide⟩,_,_,rfl,rfl,(by show (0:Int) < 4;decide),_,_,rfl,rfl,_,rfl,S,N,W,ns,at_+4,m+1,dw c,iZ c,(by show [V.ref S,V.int ((at_:Int)+4),V.ref N,V.int (1+c / 9 % 4),V.ref W]=_;rw [VM];congr 3),xJ.seq hS,hn,s4 _ _ (s3 _ _ OE),s4 _ _ (s3 _ _ eW),∅,∅,∅,∅,λR3 Yj Fb H5 f5 s5 e5 Yl l5 Y0=>?_⟩;have xI:=xJ.trans s5;refine⟨_,rfl,R3,Yj,Fb,rfl,aH.of e5,Yl,Pp ∅ ∅ Y0,λb H6 s6 hb=>⟨b,rfl,?_⟩⟩;refine cf (λc2=>?_) (λc2=>?_)
   .obtain⟨ms,cs,g⟩:=hb c2;exact⟨_,rfl,q c R3 Yj Fb H6 hc (xJ.free f5) (xI.trans s6) (s6 _ _ e5) (Yl.same s6) (PQ g ∅ ∅ Y0)⟩
   exact⟨_,rfl,s5.trans s6⟩
  exact⟨_,rfl,aA.refl _⟩
 rintro σ H5 ⟨y7,rfl,s5⟩;have xI:=xJ.trans s5;have eA:=s5 _ _ e34;have eB:=s5 _ _ e4;have aaf:=aU Mc;have aae:=aU Sa;have YZ:∀ru∈kQ++pb,ru.1∈dw c/\ru.2.length<=3/\∀x∈ru.2,x∈dw c++iZ c:=λru h=>(bQ.mp h).elim (in1 ru) (in4 ru);have Ea:1<=(kQ++pb).length/\(kQ++pb).length<=6:=by rw [a9];omega
 have Yk:bK K H5 (Kw++Ma) (kQ++pb):=aW (Mc.same s5) (Sa.same s5);refine⟨_,rfl,_,rfl,R1,R2,_,_,rfl,rfl,eA,eB,fits (by rw [au,au];omega),λR4 hR4=>?_⟩;rw [<-bG];have k6:=af hR4 (.lst ((Kw++Ma).map V.ref));have e6:upd H5 R4 (.lst ((Kw++Ma).map V.ref)) R4=some (.lst ((Kw++Ma).map V.ref)):=ae;generalize upd H5 R4 (.lst ((Kw++Ma).map V.ref))=H6 at k6 e6;have E6:=xI.trans k6;refine⟨R4,Kw++Ma,kQ++pb,rfl,aH.of e6,Yk.same k6,Pp Ea.1 Ea.2 YZ,λb H7 s7 hb=>⟨b,rfl,?_⟩⟩;have uq:=k6.trans s7;refine cf (λc2=>?_) (λc2=>?_)
 .obtain⟨ms,cs,g⟩:=hb c2;refine⟨_,rfl,_,rfl,R1,R2,_,_,rfl,rfl,uq _ _ eA,uq _ _ eB,fits (by rw [au,au];omega),λR5 V_=>?_⟩;rw [<-bG];exact q c R5 (Kw++Ma) (kQ++pb) _ hc ((E6.trans s7).free V_) ((E6.trans s7).trans (af V_ _)) ae ((Yk.same uq).same (af V_ _)) (PQ g Ea.1 Ea.2 YZ)
 exact⟨_,rfl,q c R1 Kw kQ H7 hc (E7.free f3) (E6.trans s7) (uq _ _ eA) ((Mc.same s5).same uq) ⟨∅,∅,in1,O1.en,⟨_,O1.rank⟩,_,_,O1.good⟩⟩
end
end hU
namespace L2
open PySem PySem.Spec PyProof.Rows
def Ds:List V->List V->Bool
 | [],[]=>true
 | x::xs,y::ys=>uL x y && Ds xs ys
 | _,_=>false
theorem uM:∀(xs ys:List V),((List.range (min xs.length ys.length)).all (λj=>uL (xs.getD j .fg) (ys.getD j .fg)) && (xs.length == ys.length))=Ds xs ys
 | [],[]=>rfl
 | [],y::ys=>by simp [Ds]
 | x::xs,[]=>by simp [Ds]
 | x::xs,y::ys=>by
  have ih:=uM xs ys;show _=(uL x y && Ds xs ys);rw [<-ih,dY,dY,Nat.succ_min_succ,List.range_succ_eq_map,List.all_cons,List.all_map];simp only [Function.comp_def,List.getD_cons_zero,List.getD_cons_succ,Nat.succ_eq_add_one];rw [Bool.and_assoc]
  congr 2
  simp
def AF {A:Around}{s:Shared}{xs ys:List V}{aT dF:List Value}(r:bf xs aT)(r2:bf ys dF)(fx:xs.all ib=true)(fy:ys.all ib=true) (j:Nat)(h1:j < aT.toArray.size)(h2:j < dF.toArray.size) :
  SeqAt.EqAt A s aT.toArray[j] dF.toArray[j] (uL (xs.getD j .fg) (ys.getD j .fg)):=by
 have l1:=r.length;have l2:=r2.length;have k1:j < aT.length:=by simpa using h1
 have k2:j < dF.length:=by simpa using h2
 have g1:xs[j]?=some (xs[j]'∅):=dG ∅;have g2:ys[j]?=some (ys[j]'∅):=dG ∅;obtain⟨u1,e1,q1⟩:=r.get g1;obtain⟨u2,e2,q2⟩:=r2.get g2;have f1:aT.toArray[j]=u1:=by
  have:=(bu.mp e1).2;simpa using this
 have f2:dF.toArray[j]=u2:=by
  have:=(bu.mp e2).2;simpa using this
 rw [f1,f2];have d1:xs.getD j .fg=xs[j]'∅:=by rw [xo,g1];rfl
 have d2:ys.getD j .fg=ys[j]'∅:=by rw [xo,g2];rfl
 rw [d1,d2];exact AJ q1 q2 (gK.mp fx _ (qW _)) (gK.mp fy _ (qW _))
def G6 {X:Cx}{ah:List (Addr×Obj)}{σ:St}{H:Hp}{s:Shared}(I:Inv X ah σ H s)(A:Around){a b:Addr}{xs ys:List V}(ha:aS X.K H a xs)(hb:aS X.K H b ys)(fx:xs.all ib=true)(fy:ys.all ib=true)(ne:a≠b)(hu:A.units < cLine):SeqAt.EqAt A s (.ref a) (.ref b) (Ds xs ys):=by
 refine .of_refs ne ?_;obtain⟨aT,r,pl,hz⟩:=I.tuple ha;obtain⟨dF,r2,uw,Qu⟩:=I.tuple hb;have l1:=r.length;have l2:=r2.length;have q:=SeqAt.RcAt.tuples (A:=A) (s:=s) (e:=λj=>uL (xs.getD j .fg) (ys.getD j .fg)) pl uw hu (λj h1 h2=>AF r r2 fx fy j h1 h2);have e:((List.range (min aT.toArray.size dF.toArray.size)).all (λj=>uL (xs.getD j .fg) (ys.getD j .fg)) && aT.toArray.size == dF.toArray.size)=Ds xs ys:=by
  rw [<-uM];simp only [bX,<-l1,<-l2]
 rw [e] at q;exact q
def rL1 (K:ba):R2:=λx y H Q=>∃p q xs b ys,x=.ref p/\y=.ref q/\aH K H p xs/\aH K H q [.ref b]/\aS K H b ys/\ys.all ib=true /\
 ((xs=[]/\Q (.bl true) H)\/∃a zs,xs=[.ref a]/\a≠b/\aS K H a zs/\zs.all ib=true/\Q (.bl (!Ds zs ys)) H)
def xS {X:Cx}(hu:X.A.units+1 < cLine):jG X (compareOp .NotEq) (rL1 X.K):=by
 intro ah s σ H x y v u Q I rx ry h;obtain⟨p,q,xs,b,ys,rfl,rfl,hp,hq,hb,fy,h⟩:=h;cases rx;cases ry;obtain⟨aT,r,pl,hz⟩:=I.list hp;obtain⟨dF,r2,uw,Qu⟩:=I.list hq;have l1:=r.length;have l2:=r2.length;rcases h with ⟨rfl,q⟩ | ⟨a,zs,rfl,ne,ha,fz,q⟩
 .refine SeqAt.RcNeAt.lists_lengths pl.isList uw.isList ?_ ∅ X.prog X.w X.xe _ ⟨.bl true,H,I,rfl,q⟩;rw [bX,bX,<-l1,<-l2];rfl
 refine SeqAt.RcNeAt.lists (e:=λ_=>Ds zs ys) pl.isList uw.isList (by simp only [bX];rw [<-l1,<-l2];rfl) ∅ (λj h1 h2=>?_) X.prog X.w X.xe _ ?_
 .have j0:j=0:=by
   simp only [bX,<-l1,gw] at h1;omega
  subst j0;obtain⟨u1,e1,q1⟩:=r.get (show [V.ref a][0]?=some (.ref a) from rfl);obtain⟨u2,e2,q2⟩:=r2.get (show [V.ref b][0]?=some (.ref b) from rfl);have f1:aT.toArray[0]=u1:=by
   have:=(bu.mp e1).2;simpa using this
  have f2:dF.toArray[0]=u2:=by
   have:=(bu.mp e2).2;simpa using this
  rw [f1,f2];cases (show u1=Value.ref a from q1);cases (show u2=Value.ref b from q2);exact G6 I X.A.in1 ha hb fz fy ne (by rw [mn];omega)
 have e:(!(List.range aT.toArray.size).all λ_=>Ds zs ys)=!Ds zs ys:=by
  rw [bX,<-l1];cases Ds zs ys <;> rfl
 rw [e];exact⟨.bl _,H,I,rfl,q⟩
def xV {X:Cx}(n:Nat)(hu:X.A.units+(n+1) < cLine):jG X (compareOp .Eq) (λx y H Q=>∃p q xs ys,x=.ref p/\y=.ref q/\aS X.K H p xs/\aS X.K H q ys/\Paired (DY X.K H n) xs ys/\Q (.bl true) H):=by
 intro ah s σ H x y v u Q I rx ry h;obtain⟨a,b,xs,ys,rfl,rfl,ha,hb,p,q⟩:=h;cases rx;cases ry;obtain⟨aT,r,pl,hz⟩:=I.tuple ha;obtain⟨dF,r2,uw,Qu⟩:=I.tuple hb;have l1:=r.length;have l2:=r2.length;have lp:=aU p;refine SeqAt.RcAt.tuples (e:=λ_=>true) pl uw ∅ (λj h1 h2=>jF r r2 p (λx y u v d r1 r2=>sV I n X.A.in1 x y u v d r1 r2 (by rw [mn];omega)) j h1 h2) X.prog X.w X.xe _ ?_;have e:((List.range (min aT.toArray.size dF.toArray.size)).all (λ_=>true) && aT.toArray.size == dF.toArray.size)=true:=by
  have:aT.toArray.size=dF.toArray.size:=by simp only [bX];omega
  rw [this];simp
 rw [e];exact⟨.bl true,H,I,rfl,q⟩
open PySem
def Uw (K:ba):R2:=λx y H Q=>∃y',y=.str y'/\((∃z,x=.str z/\Q (.bl (decide (V.str z=V.str y'))) H)\/∃a xs,x=.ref a/\aS K H a xs/\Q (.bl false) H)
def Fy {X:Cx}(hu:X.A.units < cLine):jG X (compareOp .Eq) (Uw X.K):=by
 intro ah s σ H x y v u Q I rx ry h;obtain⟨y',rfl,h⟩:=h;rcases h with ⟨z,rfl,q⟩ | ⟨a,xs,rfl,ha,q⟩
 .exact hJ ah s σ H _ _ v u Q I rx ry ⟨rfl,q⟩
 cases rx;obtain⟨t,rfl⟩:=ry;obtain⟨aT,r,pl,hz⟩:=I.tuple ha;exact SeqAt.RcAt.tuple_str y' t pl hu X.prog X.w X.xe _ ⟨.bl false,H,I,rfl,q⟩
end L2
namespace hU
open PySem L2 M11
abbrev zO:Stmt:=top 6
section
def wB:PySem.W.kitOne K (.type "tuple") (.type "str")=some false:=by kernel_rfl
def Ge:PySem.W.kitOne K (.type "str") (.type "tuple")=some false:=by kernel_rfl
def Gd:PySem.W.kitOne K (.type "str") (.type "int")=some false:=by kernel_rfl
def kit_is:PySem.W.kitOne K (.type "int") (.type "str")=some false:=by kernel_rfl
def Gf:PySem.W.kitOne K (.type "int") (.type "tuple")=some false:=by kernel_rfl
def Gg:PySem.W.kitOne K (.type "bool") (.type "int")=some true:=by kernel_rfl
def HM (m:Nat)(y:V):Prop:=(∃n:Int,y=.int n/\¬(0<=n/\n < (m:Int)))\/(∃t,y=.bl t)\/∃z,y=.str z
def Bq:Sp:=λvs H Q _=>∃(y:V) (m:Nat),vs=[y,.int (m:Int)]/\((∃k:Nat,y=.int (k:Int)/\k < m/\Q (.bl true) H)\/(HM m y/\Q (.bl false) H))
def I_:aK ["number","many"] ["number","many"] (av zO):=iM rfl rfl rfl rfl (by decide +kernel)
def FV (F:iB K "is_number_below" "is_number_below" zO f fd)(T:Txt mg):bR P w K mg base gk 1 f fd ["number","many"] Bq:=by
 refine F.ok I_ (λvs H Q E h=>?_) (λeX A outer s H vs Q E hr h=>?_)
 .obtain⟨y,m,rfl,_⟩:=h;rfl
 obtain⟨y,m,rfl,h⟩:=h;refine⟨_,ak (aN (kU (aD di rfl T.Gn kF (ab (pv 0) (ab (g_ (v:=.ty "int") rfl T.int PyProof.Rows.boot_int rfl) ag)))
  (kU (zZ (aD di rfl T.Gn kF (ab (pv 0) (ab (g_ (v:=.ty "bool") rfl T.boo PyProof.Rows.boot_bool rfl) ag))))
  (kT (Fs KA nU ao (pv 0) (pv 1)))))),?_⟩
 dsimp only [yw];rcases h with ⟨k,rfl,hk,q⟩ | ⟨⟨n,rfl,hn⟩ | ⟨t,rfl⟩ | ⟨z,rfl⟩,q⟩
 .refine⟨_,rfl,.int k,"int","int",true,rfl,.int k,eQ,true,rfl,?_⟩;refine d0 ?_;refine⟨_,rfl,.int k,"int","bool",false,rfl,.int k,Ao,false,rfl,true,rfl,?_⟩;refine d0 ?_;refine⟨_,rfl,_,_,rfl,rfl,_,rfl,?_⟩;refine cf (λ_=>?_) (λc=>absurd (bh ∅) c);refine⟨_,rfl,_,_,rfl,rfl,?_⟩;show Q (.bl (decide ((k:Int) < (m:Int)))) H;rw [bh ∅];exact q
 .refine⟨_,rfl,.int n,"int","int",true,rfl,.int n,eQ,true,rfl,?_⟩;refine d0 ?_;refine⟨_,rfl,.int n,"int","bool",false,rfl,.int n,Ao,false,rfl,true,rfl,?_⟩;refine d0 ?_;refine⟨_,rfl,_,_,rfl,rfl,_,rfl,?_⟩;refine cf (λc=>?_) (λc=>?_)
  .refine⟨_,rfl,_,_,rfl,rfl,?_⟩;show Q (.bl (decide (n < (m:Int)))) H;have c':=cZ c;rw [b0 (λl=>hn ⟨c',l⟩)];exact q
  have e:V.bl (decide ((0:Int)<=n))=V.bl false:=by
   cases hh:decide ((0:Int)<=n) with
   | true=>exact absurd hh c
   | false=>rfl
  first
   | exact q
   | (rw [e];exact q)
 .refine⟨_,rfl,.bl t,"bool","int",true,rfl,.bl t,Gg,true,rfl,?_⟩;refine d0 ?_;refine⟨_,rfl,.bl t,"bool","bool",true,rfl,.bl t,eQ,true,rfl,false,rfl,?_⟩;refine cT ?_;exact q
 refine⟨_,rfl,.str z,"str","int",false,rfl,.str z,Gd,false,rfl,?_⟩;refine cT ?_;exact q
end
mutual
inductive Tr
 | w (z:Str)
 | n (k:Nat)(cs:gR)
inductive gR
 | nil
 | cons (t:Tr)(r:gR)
end
def gR.jk:gR->List Tr
 | .nil=>[]
 | .cons t r=>t::r.jk
mutual
def fV (K:ba)(H:Hp):Tr->V->Prop
 | .w z,v=>v=.str z
 | .n k cs,v=>∃a p vs,v=.ref a/\aS K H a [.int (k:Int),.ref p]/\aS K H p vs/\hX K H cs vs
def hX (K:ba)(H:Hp):gR->List V->Prop
 | .nil,vs=>vs=[]
 | .cons t r,vs=>∃v zq,vs=v::zq/\fV K H t v/\hX K H r zq
end
mutual
def row:Tr->List Str
 | .w z=>[z]
 | .n _ cs=>rows cs
def rows:gR->List Str
 | .nil=>[]
 | .cons t r=>row t++rows r
end
mutual
def sz:Tr->Nat
 | .w _=>1
 | .n _ cs=>1+EA cs
def EA:gR->Nat
 | .nil=>0
 | .cons t r=>sz t+EA r
end
mutual
def dp:Tr->Nat
 | .w _=>0
 | .n _ cs=>1+xj cs
def xj:gR->Nat
 | .nil=>0
 | .cons t r=>max (dp t) (xj r)
end
mutual
def Is (aa:List ar):Tr->Str->Prop
 | .w z,x=>x=z/\z∉hd aa
 | .n k cs,x=>∃bq,aa[k]?=some (x,bq)/\tO aa cs bq
def tO (aa:List ar):gR->List Str->Prop
 | .nil,ps=>ps=[]
 | .cons t r,ps=>∃p Bz,ps=p::Bz/\Is aa t p/\tO aa r Bz
end
section
variable {K:ba}
mutual
theorem fV.keep {H H':Hp}(k:∀a xs,aS K H a xs->aS K H' a xs):∀(t:Tr){v:V},fV K H t v->fV K H' t v
 | .w z,v,h=>by unfold fV at *;exact h
 | .n m cs,v,h=>by
  unfold fV at *;obtain⟨a,p,vs,e,h1,h2,h3⟩:=h;exact⟨a,p,vs,e,k _ _ h1,k _ _ h2,hX.keep k cs h3⟩
theorem hX.keep {H H':Hp}(k:∀a xs,aS K H a xs->aS K H' a xs):∀(ts:gR){vs:List V},hX K H ts vs->hX K H' ts vs
 | .nil,vs,h=>by unfold hX at *;exact h
 | .cons t r,vs,h=>by
  unfold hX at *;obtain⟨v,zq,e,h1,h2⟩:=h;exact⟨v,zq,e,fV.keep k t h1,hX.keep k r h2⟩
end
theorem hX.paired {H:Hp}:∀(ts:gR){vs:List V},hX K H ts vs->Paired (λv t=>fV K H t v) vs ts.jk
 | .nil,vs,h=>by unfold hX at h;subst h;exact .nil
 | .cons t r,vs,h=>by
  unfold hX at h;obtain⟨v,zq,rfl,h1,h2⟩:=h;exact .cons h1 (hX.paired r h2)
theorem rS:∀ts:gR,rows ts=ts.jk.flatMap row
 | .nil=>by unfold rows;rfl
 | .cons t r=>by unfold rows;rw [rS r];rfl
def EB:∀t:Tr,1<=sz t
 | .w _=>by unfold sz;exact aF _
 | .n _ cs=>by unfold sz;omega
theorem tO.paired {aa:List ar}:∀(ts:gR){ps:List Str},tO aa ts ps->ts.jk.length=ps.length/\∀(j:Nat) t p,ts.jk[j]?=some t->ps[j]?=some p->Is aa t p
 | .nil,ps,h=>by
  unfold tO at h;subst h;exact⟨rfl,λj t p e=>by simp [gR.jk] at e⟩
 | .cons t r,ps,h=>by
  unfold tO at h;obtain⟨p,Bz,rfl,h1,h2⟩:=h;obtain⟨a,b⟩:=tO.paired r h2;refine⟨by show r.jk.length+1=Bz.length+1;omega,λj u q e1 e2=>?_⟩;cases j with
  | zero=>cases e1;cases e2;exact h1
  | succ j=>exact b j u q e1 e2
theorem Hh:∀(ts:gR)(t:Tr),t∈ts.jk->dp t<=xj ts
 | .nil,t,h=>by cases h
 | .cons u r,t,h=>by
  unfold xj;rcases bW.mp h with e | e
  .rw [e];omega
  have:=Hh r t e;omega
end
section
def pW {α β:Type}{F:α->β->Prop}{us:List α}{ts:List β}(p:Paired F us ts)(h:us≠[]):∃uc u gI t,us=uc++[u]/\ts=gI++[t]/\Paired F uc gI/\F u t:=by
 have p2:=Paired.Fc p;have hr:us.reverse≠[]:=λz=>h (List.reverse_eq_nil_iff.mp z);generalize e1:us.reverse=Cj at p2 hr;generalize e2:ts.reverse=xb at p2;cases p2 with
 | nil=>exact absurd rfl hr
 | @cons u t IK RU a b =>
  refine⟨IK.reverse,u,RU.reverse,t,?_,?_,Paired.Fc b,a⟩
  .rw [<-List.reverse_reverse us,e1,qK]
  rw [<-List.reverse_reverse ts,e2,qK]
def xO {us:List V}{u:V}:(us++[u])[(us++[u]).length - 1]?=some u:=by
 rw [a9];simp
end
inductive Dd
 | step (z:Str)
 | make (k:Nat)
def W5:Dd->List V
 | .step z=>[.str "step",.str z]
 | .make k=>[.str "make",.int (k:Int)]
mutual
def jK:Tr->List Dd
 | .w z=>[.step z]
 | .n k cs=>jX cs++[.make k]
def jX:gR->List Dd
 | .nil=>[]
 | .cons t r=>jK t++jX r
end
def B2 (k:Nat)(cs:gR):jK (.n k cs)=jX cs++[.make k]:=by rw [jK]
theorem ox:∀ts:gR,jX ts=ts.jk.flatMap jK
 | .nil=>by unfold jX;rfl
 | .cons t r=>by unfold jX;rw [ox r];rfl
mutual
theorem oz:∀t:Tr,(jK t).length=sz t
 | .w z=>by unfold jK sz;rfl
 | .n k cs=>by
  unfold jK sz;rw [a9,oy cs,gw];omega
theorem oy:∀ts:gR,(jX ts).length=EA ts
 | .nil=>by unfold jX EA;rfl
 | .cons t r=>by unfold jX EA;rw [a9,oz t,oy r]
end
theorem YF:∀l:List Tr,l.length<=(l.map sz).sum
 | []=>aF _
 | x::r=>by
  have:=EB x;have:=YF r;rw [cO,kJ,dY];omega
def gR.lL:List Tr->gR
 | []=>.nil
 | t::r=>.cons t (gR.lL r)
theorem vH:∀l:List Tr,(gR.lL l).jk=l
 | []=>rfl
 | t::r=>by show t::(gR.lL r).jk=t::r;rw [vH r]
theorem hX.PR {K:ba}{H:Hp}:∀{vs:List V}{ts:List Tr},Paired (λv t=>fV K H t v) vs ts->hX K H (gR.lL ts) vs
 | _,_,.nil=>by unfold gR.lL hX;rfl
 | _,_,.cons h p=>by unfold gR.lL hX;exact⟨_,_,rfl,h,hX.PR p⟩
def sg (aa:List ar) (k:Nat):Option Str:=aa[k]?.map (·.1)
def gC (aa:List ar)(t:Tr)(part:Str):Bool:=match t with
 | .w z=>!decide (part∈hd aa) && decide (z=part)
 | .n k _=>decide (part∈hd aa) && decide (sg aa k=some part)
def i0 (aa:List ar):List Tr->List Str->Bool
 | [],[]=>true
 | t::ts,p::ps=>gC aa t p && i0 aa ts ps
 | _,_=>false
def fM (aa:List ar) (k:Nat)(eZ:List Tr):Option (List Tr):=match aa[k]? with
 | none=>none
 | some ru=>if (decide (ru.2.length<=eZ.length) && i0 aa (eZ.drop (eZ.length - ru.2.length)) ru.2)=true then some (eZ.take (eZ.length - ru.2.length)++[.n k (gR.lL (eZ.drop (eZ.length - ru.2.length)))]) else none
def W4 (aa:List ar)(eZ:List Tr):Dd->Option (List Tr)
 | .step z=>some (eZ++[.w z])
 | .make k=>fM aa k eZ
def XJ (aa:List ar):Dd->Prop
 | .step z=>z∉hd aa
 | .make k=>k < aa.length
structure NZ (aa:List ar)(ds:List Dd)(eZ:List Tr):Prop where
 is:∀t∈eZ,∃x,Is aa t x
 dd:eZ.flatMap jK=ds
def Nt {aa:List ar}{t:Tr}{x p:Str}(h:Is aa t x)(f:gC aa t p=true):Is aa t p:=by
 cases t with
 | w z =>
  unfold gC at f;have f2:=gE.mp f;unfold Is at h ⊢;have e:=cZ f2.2;exact⟨e.symm,h.2⟩
 | n k cs =>
  unfold gC at f;have f2:=gE.mp f;unfold Is at h ⊢;obtain⟨bq,e1,e2⟩:=h;have e:=cZ f2.2;unfold sg at e;rw [e1] at e;have e3:x=p:=by
   have:some x=some p:=e;injection this
  exact⟨bq,by rw [e1,e3],e2⟩
theorem sL {aa:List ar}:∀(ts:List Tr) (ps:List Str),(∀t∈ts,∃x,Is aa t x)->i0 aa ts ps=true->tO aa (gR.lL ts) ps
 | [],[],_,_=>by unfold gR.lL tO;rfl
 | [],_::_,_,f=>by cases f
 | _::_,[],_,f=>by cases f
 | t::ts,p::ps,h,f=>by
  have f2:=gE.mp (show (gC aa t p && i0 aa ts ps)=true from f);obtain⟨x,hx⟩:=h t cH;unfold gR.lL tO;exact⟨p,ps,rfl,Nt hx f2.1,sL ts ps (λu hu=>h u (dA _ hu)) f2.2⟩
def ik {aa:List ar}{k:Nat}{eZ pV:List Tr}(e:fM aa k eZ=some pV):∃ru,aa[k]?=some ru/\ru.2.length<=eZ.length/\i0 aa (eZ.drop (eZ.length - ru.2.length)) ru.2=true/\pV=eZ.take (eZ.length - ru.2.length)++[.n k (gR.lL (eZ.drop (eZ.length - ru.2.length)))]:=by
 unfold fM at e;cases er:aa[k]? with
 | none=>rw [er] at e;cases e
 | some ru =>
  rw [er] at e;have e:(if (decide (ru.2.length<=eZ.length) && i0 aa (eZ.drop (eZ.length - ru.2.length)) ru.2)=true then some (eZ.take (eZ.length - ru.2.length)++[.n k (gR.lL (eZ.drop (eZ.length - ru.2.length)))]) else none)=some pV:=e;by_cases c:(decide (ru.2.length<=eZ.length) && i0 aa (eZ.drop (eZ.length - ru.2.length)) ru.2)=true
  .rw [ax c] at e;obtain⟨c1,c2⟩:=gE.mp c;exact⟨ru,rfl,cZ c1,c2,(ir e).symm⟩
  rw [ay c] at e;cases e
theorem NZ.W4 {aa:List ar}{ds:List Dd}{eZ pV:List Tr}{d:Dd}(h:NZ aa ds eZ)(hd2:XJ aa d)(e:hU.W4 aa eZ d=some pV):NZ aa (ds++[d]) pV:=by
 cases d with
 | step z =>
  cases (show some (eZ++[Tr.w z])=some pV from e);refine⟨λt ht=>?_,?_⟩
  .rcases bQ.mp ht with q | q
   .exact h.is t q
   rw [bF.mp q];exact⟨z,by unfold Is;exact⟨rfl,hd2⟩⟩
  rw [i5,h.dd];simp [jK]
 | make k =>
  obtain⟨ru,er,le,fl,rfl⟩:=ik (show fM aa k eZ=some pV from e);refine⟨λt ht=>?_,?_⟩
  .rcases bQ.mp ht with q | q
   .exact h.is t (i6 q)
   rw [bF.mp q];refine⟨ru.1,?_⟩;unfold Is;exact⟨ru.2,er,sL _ _ (λt ht=>h.is t (mV ht)) fl⟩
  rw [i5,zf,B2,ox,vH,<-lW,<-i5,pR,h.dd]
def NZ.top {aa:List ar}{ds:List Dd}{eZ:List Tr}(h:NZ aa ds eZ){k:Nat}{cs:gR}(ht:Tr.n k cs∈eZ):k < aa.length:=by
 obtain⟨x,hx⟩:=h.is _ ht;unfold Is at hx;obtain⟨bq,e,_⟩:=hx;exact(bu.mp e).1
def NZ.nil {aa:List ar}:NZ aa [] []:=⟨λ_ h=>(by cases h),rfl⟩
def EE:Dd->List Str
 | .step z=>[z]
 | .make _=>[]
mutual
theorem qw:∀t:Tr,(jK t).flatMap EE=row t
 | .w z=>by unfold jK row;rfl
 | .n k cs=>by
  unfold jK row;rw [i5,xu cs];simp [EE]
theorem xu:∀ts:gR,(jX ts).flatMap EE=rows ts
 | .nil=>by unfold jX rows;rfl
 | .cons t r=>by unfold jX rows;rw [i5,qw t,xu r]
end
def jE (o:Option (List Tr)):Option Tr:=match o with
 | some [.n k cs]=>some (.n k cs)
 | _=>none
inductive De
 | d (x:Dd)
 | si (n:Int)
 | no
 | dn
def XQ (m:Nat)(xs:List V):Prop:=(∃z,xs=[.str z]/\z ≠ "done")\/(∃(z:Str) (y:Int),xs=[.str z,.int y]/\z ≠ "step" /\ z ≠ "make")\/∃y,xs=[.str "make",y]/\HM m y
def HV (m:Nat)(H:Hp)(a:Addr):De->Prop
 | .d x=>H a=some (.tup (W5 x))
 | .si n=>H a=some (.tup [.str "step",.int n])
 | .no=>∃xs,H a=some (.tup xs)/\XQ m xs
 | .dn=>H a=some (.tup [.str "done"])
def HV.keep {m:Nat}{H H':Hp}{a:Addr}(k:∀xs,H a=some (.tup xs)->H' a=some (.tup xs)):∀{d:De},HV m H a d->HV m H' a d
 | .d x,h=>k _ h
 | .si n,h=>k _ h
 | .no,⟨xs,h,b⟩=>⟨xs,k _ h,b⟩
 | .dn,h=>k _ h
def HV.same {m:Nat}{H H':Hp}{a:Addr}(s:aA H H'){d:De}(h:HV m H a d):HV m H' a d:=h.keep λ_ z=>s _ _ z
abbrev lR (m:Nat)(H:Hp)(as:List Addr)(es:List De):Prop:=Paired (λa d=>HV m H a d) as es
theorem lR.same {m:Nat}{H H':Hp}{as:List Addr}{es:List De}(h:lR m H as es)(s:aA H H'):lR m H' as es:=Paired.e_ h λ_ _ z=>z.same s
def jH (aa:List ar):De->Prop
 | .d (.make k)=>k < aa.length
 | _=>True
def hz (aa:List ar):Str:=(hd aa).headD ""
def K0 {aa:List ar}(h:aa≠[]):hz aa∈hd aa:=by
 cases aa with
 | nil=>exact absurd rfl h
 | cons r rs =>
  have h1:r.1∈hd (r::rs):=n8 cH;unfold hz;cases e:hd (r::rs) with
  | nil=>rw [e] at h1;cases h1
  | cons a b=>exact cH
def sS (aa:List ar)(ts:List Tr):De->Option (List Tr)
 | .d x=>W4 aa ts x
 | .si _=>some (ts++[.w (hz aa)])
 | _=>none
def pZ (aa:List ar)(ts:List Tr):De->Option (List Tr)
 | .d (.step z)=>if z∈hd aa then none else some (ts++[.w z])
 | .d (.make k)=>fM aa k ts
 | _=>none
def eY (f:List Tr->De->Option (List Tr)):List De->List Tr->Option (List Tr)
 | [],p=>some p
 | d::r,p=>(f p d).bind (eY f r)
theorem kP (f:List Tr->De->Option (List Tr)):∀(ds es:List De)(p:List Tr),eY f (ds++es) p=(eY f ds p).bind (eY f es)
 | [],es,p=>rfl
 | d::r,es,p=>by
  show (f p d).bind (eY f (r++es))=((f p d).bind (eY f r)).bind (eY f es);cases f p d with
  | none=>rfl
  | some q=>exact kP f r es q
def ur {f:List Tr->De->Option (List Tr)}{ds:List De}{i:Nat}{d:De}{p ts:List Tr}(e:ds[i]?=some d)(h:eY f (ds.take i) p=some ts):eY f (ds.take (i+1)) p=f ts d:=by
 rw [cP,e];show eY f (ds.take i++[d]) p=_;rw [kP,h];show (f ts d).bind (eY f [])=_;cases f ts d with
 | none=>rfl
 | some q=>rfl
def uu {f:List Tr->De->Option (List Tr)}{ds:List De}{i:Nat}{d:De}{p ts:List Tr}(e:ds[i]?=some d)(h:eY f (ds.take i) p=some ts)(n:f ts d=none):eY f ds p=none:=by
 have e1:ds=ds.take i++(d::ds.drop (i+1)):=by
  have li:=(bu.mp e).1;have e2:ds.drop i=d::ds.drop (i+1):=by
   rw [List.drop_eq_getElem_cons li]
   congr 1
   exact(bu.mp e).2
  rw [<-e2,pR]
 rw [e1,kP,h];show (f ts d).bind _=none;rw [n];rfl
def Ci (aa:List ar)(ts:List Tr):Prop:=∃h∈hd aa,Tr.w h∈ts
def jD {aa:List ar}{h p:Str}(hh:h∈hd aa):gC aa (.w h) p=false:=by
 show (!decide (p∈hd aa) && decide (h=p))=false;by_cases c:p∈hd aa
 .rw [bh c];rfl
 rw [b0 c,b0 (λ(e:h=p)=>c (e ▸ hh))];rfl
theorem sJ {aa:List ar}:∀{ts:List Tr}{ps:List Str}{t:Tr},i0 aa ts ps=true->t∈ts->∃p∈ps,gC aa t p=true
 | [],_,_,_,h=>by cases h
 | _::_,[],_,f,_=>by cases f
 | a::ts,b::ps,t,f,h=>by
  have f2:=gE.mp (show (gC aa a b && i0 aa ts ps)=true from f);rcases bW.mp h with e | e
  .exact⟨b,cH,e ▸ f2.1⟩
  obtain⟨p,hp,q⟩:=sJ f2.2 e;exact⟨p,dA _ hp,q⟩
def Hj {aa:List ar}{ts gI:List Tr}{de:De}(h:Ci aa ts)(e:sS aa ts de=some gI):Ci aa gI:=by
 obtain⟨x,hx,hm⟩:=h;have app:∀u,Ci aa (ts++[u]):=λu=>⟨x,hx,h_ _ hm⟩;cases de with
 | d y =>
  cases y with
  | step z=>cases (show some (ts++[Tr.w z])=some gI from e);exact app _
  | make k =>
   obtain⟨ru,er,le,fl,rfl⟩:=ik (show fM aa k ts=some gI from e);refine⟨x,hx,h_ _ ?_⟩;rw [<-pR (ts.length - ru.2.length) ts] at hm;rcases bQ.mp hm with q | q
   .exact q
   obtain⟨p,_,fp⟩:=sJ fl q;rw [jD hx] at fp;cases fp
 | si n=>cases (show some (ts++[Tr.w (hz aa)])=some gI from e);exact app _
 | no=>cases e
 | dn=>cases e
theorem pG {aa:List ar}:∀(ds:List De){ts:List Tr},Ci aa ts->jE (eY (sS aa) ds ts)=none
 | [],ts,⟨x,hx,hm⟩=>by
  show jE (some ts)=none
  match ts,hm with
  | [.w _],_=>rfl
  | [.n k cs],hm=>rcases bW.mp hm with q | q <;> cases q
  | .w _::_::_,_=>rfl
  | .n _ _::_::_,_=>rfl
 | d::r,ts,h=>by
  show jE ((sS aa ts d).bind (eY (sS aa) r))=none;cases e:sS aa ts d with
  | none=>rfl
  | some q=>exact pG r (Hj h e)
theorem o9 {aa:List ar}(qF:aa≠[]):∀(ds:List De)(ts:List Tr),jE (eY (sS aa) ds ts)=jE (eY (pZ aa) ds ts)
 | [],_=>rfl
 | d::r,ts=>by
  show jE ((sS aa ts d).bind (eY (sS aa) r))=jE ((pZ aa ts d).bind (eY (pZ aa) r));cases d with
  | d y =>
   cases y with
   | step z =>
    show jE (eY (sS aa) r (ts++[.w z]))=jE ((if z∈hd aa then none else some (ts++[.w z])).bind (eY (pZ aa) r));by_cases c:z∈hd aa
    .rw [ax c];exact pG r ⟨z,c,fQ _ cH⟩
    rw [ay c];exact o9 qF r _
   | make k =>
    show jE ((fM aa k ts).bind _)=jE ((fM aa k ts).bind _);cases fM aa k ts with
    | none=>rfl
    | some q=>exact o9 qF r q
  | si n =>
   show jE (eY (sS aa) r (ts++[.w (hz aa)]))=none;exact pG r ⟨hz aa,K0 qF,fQ _ cH⟩
  | no=>rfl
  | dn=>rfl
def qf (aa:List ar)(ts:List Tr):Prop:=∀t∈ts,(∃x,Is aa t x)\/∃h∈hd aa,t=.w h
def qf.nil {aa:List ar}:qf aa []:=λ_ h=>by cases h
def qf.make {aa:List ar}{ts gI:List Tr}{k:Nat}(h:qf aa ts)(e:fM aa k ts=some gI):qf aa gI:=by
 obtain⟨ru,er,le,fl,rfl⟩:=ik e;intro t ht;rcases bQ.mp ht with q | q
 .exact h t (i6 q)
 rw [bF.mp q];refine .inl ⟨ru.1,?_⟩;unfold Is;refine⟨ru.2,er,sL _ _ (λt ht=>?_) fl⟩;rcases h t (mV ht) with w | ⟨x,hx,rfl⟩
 .exact w
 obtain⟨p,_,fp⟩:=sJ fl ht;rw [jD hx] at fp;cases fp
def qf.push {aa:List ar}{ts:List Tr}(h:qf aa ts)(z:Str):qf aa (ts++[.w z]):=λt ht=>by
 rcases bQ.mp ht with q | q
 .exact h t q
 rw [bF.mp q];by_cases c:z∈hd aa
 .exact .inr ⟨z,c,rfl⟩
 exact .inl ⟨z,by unfold Is;exact⟨rfl,c⟩⟩
theorem qf.sS {aa:List ar}{ts gI:List Tr}{de:De}(h:qf aa ts)(e:hU.sS aa ts de=some gI):qf aa gI:=by
 cases de with
 | d y =>
  cases y with
  | step z=>cases (show some (ts++[Tr.w z])=some gI from e);exact h.push z
  | make k=>exact h.make e
 | si n=>cases (show some (ts++[Tr.w (hz aa)])=some gI from e);exact h.push _
 | no=>cases e
 | dn=>cases e
theorem qf.pZ {aa:List ar}{ts gI:List Tr}{de:De}(h:qf aa ts)(e:hU.pZ aa ts de=some gI):qf aa gI:=by
 cases de with
 | d y =>
  cases y with
  | step z =>
   have e:(if z∈hd aa then none else some (ts++[Tr.w z]))=some gI:=e;by_cases c:z∈hd aa
   .rw [ax c] at e;cases e
   rw [ay c] at e;cases e;exact h.push z
  | make k=>exact h.make e
 | si n=>cases e
 | no=>cases e
 | dn=>cases e
def qf.top {aa:List ar}{ts:List Tr}(h:qf aa ts){k:Nat}{cs:gR}(ht:Tr.n k cs∈ts):k < aa.length:=by
 rcases h _ ht with ⟨x,hx⟩ | ⟨x,_,e⟩
 .unfold Is at hx;obtain⟨bq,e,_⟩:=hx;exact(bu.mp e).1
 cases e
theorem qz {aa:List ar}{f:List Tr->De->Option (List Tr)}(hf:∀{ts gI:List Tr}{de:De},qf aa ts->f ts de=some gI->qf aa gI):∀(ds:List De){ts gI:List Tr},qf aa ts->eY f ds ts=some gI->qf aa gI
 | [],ts,gI,h,e=>by cases e;exact h
 | d::r,ts,gI,h,e=>by
  have e:(f ts d).bind (eY f r)=some gI:=e;cases e1:f ts d with
  | none=>rw [e1] at e;cases e
  | some q=>rw [e1] at e;exact qz hf r (hf h e1) e
def resT (aa:List ar)(es:List De):Option Tr:=match es.getLast? with
 | some .dn=>jE (eY (pZ aa) es.dropLast [])
 | _=>none
abbrev vT:Stmt:=top 8
abbrev v9:Stmt:=top 9
abbrev v7:Stmt:=top 10
abbrev v8:Stmt:=top 11
abbrev rP:Stmt:=top 12
abbrev wZ (K:ba)(H:Hp)(us:List V)(ts:List Tr):Prop:=Paired (λv t=>fV K H t v) us ts
theorem wZ.keep {K:ba}{H H':Hp}{us:List V}{ts:List Tr}(k:∀a xs,aS K H a xs->aS K H' a xs)(h:wZ K H us ts):wZ K H' us ts:=Paired.e_ h λ_ t z=>fV.keep k t z
def j5 (H:Hp)(d:Addr)(aa:List ar):Prop:=∃kE,H d=some (.dK kE)/\∀z,(bw kE (Sum.inr z)).isSome=decide (z∈hd aa)
def j5.same {H H':Hp}{d:Addr}{aa:List ar}(h:j5 H d aa)(s:aA H H'):j5 H' d aa:=let ⟨kE,a,b⟩:=h;⟨kE,s _ _ a,b⟩
theorem j5.upd {H:Hp}{d P:Addr}{aa:List ar}{xs:List V}{o:HO}(h:j5 H d aa)(e:H P=some (.lst xs)):j5 (upd H P o) d aa:=let ⟨kE,a,b⟩:=h;⟨kE,by rw [aj (λz=>by rw [z,e] at a;cases a)];exact a,b⟩
section
def Bp (K:ba):Sp:=λvs H Q _=>∃(R d:Addr)(rs:List Addr)(aa:List ar)(v:V)(t:Tr)(part:Str),vs=[.ref R,.ref d,v,.str part]/\aH K H R (rs.map V.ref)/\bK K H rs aa/\j5 H d aa/\fV K H t v/\(∀k cs,t=.n k cs->k < aa.length)/\Q (.bl (gC aa t part)) H
def IZ:aK ["rules","heads","child","part"] ["rules","heads","child","part"] (av rP):=iM rfl rfl rfl rfl (by decide +kernel)
def FT (F:iB K "is_child" "is_child" rP f fd)(T:Txt mg):bR P w K mg base gk 1 f fd ["rules","heads","child","part"] (Bp K):=by
 refine F.ok IZ (λvs H Q E h=>?_) (λeX A outer s H vs Q E hr h=>?_)
 .obtain⟨R,d,rs,aa,v,t,part,rfl,_⟩:=h;rfl
 obtain⟨R,d,rs,aa,v,t,part,rfl,hR,cy,⟨kE,wI,hd2⟩,ht,hk,q⟩:=h;have hu:=gh hr;have Vq:=Nat.lt_of_succ_lt hu;refine⟨_,ai (bI (eJ (jf hu (pv 3) (pv 1)))
   (ak (aN (kU (zZ (aD di rfl T.Gn kF (ab (pv 2) (ab (g_ (v:=.ty "str") rfl T.str lh rfl) ag))))
    (kT (fu hJ (aL aZ (aL bB (pv 0) (aL aZ (pv 2) ao (λ_ _=>rfl)) (λ_ _=>rfl)) ao (λ_ _=>rfl)) (pv 3) (bJ _)))))) aQ)
  (ak (aN (fu (Fy Vq) (pv 2) (pv 3) (bJ _)))),?_⟩
 nofun
 refine⟨_,rfl,_,rfl,d,_,rfl,cq.k (k:=Sum.inr part) wI,_,rfl,?_⟩;rw [hd2 part];refine cf (λc=>?_) (λc=>?_)
 .cases t with
  | w z =>
   unfold fV at ht;subst ht;have e:gC aa (.w z) part=false:=by
    unfold gC;rw [c];rfl
   rw [e] at q;refine⟨_,rfl,.str z,"str","str",true,rfl,.str z,eQ,true,rfl,false,rfl,?_⟩;refine cT ?_;exact q
  | n k cs =>
   unfold fV at ht;obtain⟨a,p,us,rfl,ha,hp,_⟩:=ht;have lk:=hk k cs rfl;have er:aa[k]?=some aa[k]:=dG lk;obtain⟨r,err,p2,v1,v2⟩:=Paired.at_ cy k _ er;have uZ:jZ (rs.map V.ref) (k:Int)=some (.ref r):=bZ (by rw [bz,err];rfl);have e:gC aa (.n k cs) part=decide (V.str aa[k].1=V.str part):=by
    have eh:sg aa k=some aa[k].1:=by unfold sg;rw [er];rfl
    show (decide (part∈hd aa) && decide (sg aa k=some part))=_;rw [c,eh];rw [jn];by_cases h:aa[k].1=part
    .rw [bh (congrArg some h),bh (congrArg V.str h)]
    rw [b0 (λz=>h (ir z)),b0 (λz=>h (by injection z))]
   rw [e] at q;refine⟨_,rfl,.ref a,"tuple","str",false,rfl,.tup ha,wB,false,rfl,true,rfl,?_⟩;refine d0 ?_;exact⟨_,rfl,_,rfl,a,_,_,_,rfl,rfl,ha,rfl,R,_,_,_,rfl,rfl,hR,uZ,r,_,_,_,rfl,rfl,v1,rfl,_,rfl,rfl,q⟩
 have c':decide (part∈hd aa)=false:=by simpa using c
 cases t with
 | w z =>
  unfold fV at ht;subst ht;have e:gC aa (.w z) part=decide (V.str z=V.str part):=by
   unfold gC;rw [c'];show (true && decide (z=part))=_;rw [jn];by_cases h:z=part
   .rw [bh h,bh (congrArg V.str h)]
   rw [b0 h,b0 (λy=>h (by injection y))]
  rw [e] at q;exact⟨_,rfl,_,rfl,part,rfl,.inl ⟨z,rfl,q⟩⟩
 | n k cs =>
  unfold fV at ht;obtain⟨a,p,us,rfl,ha,hp,_⟩:=ht;have e:gC aa (.n k cs) part=false:=by
   unfold gC;rw [c'];rfl
  rw [e] at q;exact⟨_,rfl,_,rfl,part,rfl,.inr ⟨a,_,rfl,ha,q⟩⟩
def xC (K:ba):Sp:=λvs H Q _=>∃(d Pl:Addr)(aa:List ar)(us:List V)(y:V),vs=[.ref d,.ref Pl,y]/\j5 H d aa/\H Pl=some (.lst us)/\us.length<=100000/\((∃z,y=.str z/\z∉hd aa/\Q (.bl true) (upd H Pl (.lst (us++[.str z]))))\/(∃z,y=.str z/\z∈hd aa/\Q (.bl false) H)\/∃n,y=.int n/\Q (.bl false) H)
def ET:aK ["heads","pile","word"] ["heads","pile","word"] (av v7):=iM rfl rfl rfl rfl (by decide +kernel)
def CL (F:iB K "do_step" "do_step" v7 f fd)(T:Txt mg):bR P w K mg base gk 1 f fd ["heads","pile","word"] (xC K):=by
 refine F.ok ET (λvs H Q E h=>?_) (λeX A outer s H vs Q E hr h=>?_)
 .obtain⟨d,Pl,aa,us,z,rfl,_⟩:=h;rfl
 obtain⟨d,Pl,aa,us,y,rfl,⟨kE,wI,hd2⟩,hP,hl,h⟩:=h;have hu:=gh hr;refine⟨_,ai (bI (PW.pt (lY (iE (eI (aD di rfl T.Gn kF (ab (pv 2) (ab (g_ (v:=.ty "str") rfl T.str lh rfl) ag)))))
   (jS (eJ (jf hu (pv 2) (pv 0)))))) (ak (aN f_)) aQ)
  (ai (cI (g9 gF gW gX bU (pv 1) (ab (pv 2) ag)))
  (ak (aN f_))),?_⟩
 nofun
 rcases h with ⟨z,rfl,hz,q⟩ | ⟨z,rfl,hz,q⟩ | ⟨n,rfl,q⟩
 .refine⟨_,rfl,.str z,"str","str",true,rfl,.str z,eQ,true,rfl,?_⟩;refine cT ?_;refine⟨_,rfl,_,rfl,d,_,rfl,cq.k (k:=Sum.inr z) wI,_,rfl,?_⟩;rw [hd2 z,b0 hz];refine cT ?_;exact⟨_,rfl,.inl ⟨rfl,_,aH.of hP⟩,_,rfl,Pl,_,_,rfl,rfl,hP,bM ∅,q⟩
 .refine⟨_,rfl,.str z,"str","str",true,rfl,.str z,eQ,true,rfl,?_⟩;refine cT ?_;refine⟨_,rfl,_,rfl,d,_,rfl,cq.k (k:=Sum.inr z) wI,_,rfl,?_⟩;rw [hd2 z,bh hz];refine d0 ?_;exact q
 refine⟨_,rfl,.int n,"int","str",false,rfl,.int n,kit_is,false,rfl,?_⟩;refine d0 ?_;exact q
theorem wL {aa:List ar}:∀{ts:List Tr}{ps:List Str}{i:Nat}{t:Tr}{p:Str},i0 aa ts ps=true->ts[i]?=some t->ps[i]?=some p->gC aa t p=true
 | [],[],_,_,_,_,e,_=>by cases e
 | [],_::_,_,_,_,f,_,_=>by cases f
 | _::_,[],_,_,_,f,_,_=>by cases f
 | a::ts,b::ps,0,t,p,f,e1,e2=>by
  have f2:=gE.mp (show (gC aa a b && i0 aa ts ps)=true from f);cases e1;cases e2;exact f2.1
 | a::ts,b::ps,i+1,t,p,f,e1,e2=>by
  have f2:=gE.mp (show (gC aa a b && i0 aa ts ps)=true from f);exact wL f2.2 e1 e2
theorem qH {aa:List ar}:∀{ts:List Tr}{ps:List Str},ts.length=ps.length->(∀(i:Nat) t p,ts[i]?=some t->ps[i]?=some p->gC aa t p=true)->i0 aa ts ps=true
 | [],[],_,_=>rfl
 | [],_::_,e,_=>by cases e
 | _::_,[],e,_=>by cases e
 | a::ts,b::ps,e,h=>by
  show (gC aa a b && i0 aa ts ps)=true;rw [h 0 a b rfl rfl,qH (Nat.succ.inj e) λi t p e1 e2=>h (i+1) t p e1 e2];rfl
end
theorem dB {α β:Type}{F:α->β->Prop}:∀{xs:List α}{ys:List β},Paired F xs ys->∀n,Paired F (xs.take n) (ys.take n)
 | _,_,_,0=>by rw [oO,oO];exact .nil
 | _,_,.nil,_+1=>.nil
 | _,_,.cons a b,n+1=>.cons a (dB b n)
theorem dC {α β:Type}{F:α->β->Prop}:∀{xs:List α}{ys:List β},Paired F xs ys->∀n,Paired F (xs.drop n) (ys.drop n)
 | _,_,h,0=>h
 | _,_,.nil,_+1=>.nil
 | _,_,.cons a b,n+1=>dC b n
def Cq {α:Type}{us:List α}{n:Nat}(h:n < us.length):us.take (n+1)=us.take n++[us[n]]:=by
 rw [cP,dG h];rfl
section
structure XD (K:ba)(H:Hp)(R d Pl:Addr)(rs:List Addr)(aa:List ar)(us:List V)(ts:List Tr):Prop where
 hR:H R=some (.lst (rs.map V.ref))
 cy:bK K H rs aa
 wI:j5 H d aa
 hP:H Pl=some (.lst us)
 pl:wZ K H us ts
 xg:us.length<=100000
 nR:R≠Pl
 sh:∀ru∈aa,ru.2.length<=8
 sr:aa.length<=1000
 top:∀j cs,Tr.n j cs∈ts->j < aa.length
def xD (K:ba):Sp:=λvs H Q _=>∃(R d Pl:Addr)(rs:List Addr)(aa:List ar)(us:List V)(ts:List Tr)(y:V),vs=[.ref R,.ref d,.ref Pl,y]/\XD K H R d Pl rs aa us ts/\((HM aa.length y/\Q (.bl false) H)\/∃k:Nat,y=.int (k:Int)/\k < aa.length /\
 (∀H',cW Pl H H'->fM aa k ts=none->Q (.bl false) H')/\(∀H' uc gI,cW Pl H H'->fM aa k ts=some gI->H' Pl=some (.lst uc)->wZ K H' uc gI->uc.length<=us.length+1->Q (.bl true) H'))
def rM:aK ["rules","heads","pile","number","children","part"] ["rules","heads","pile","number"] (av v8):=iM rfl rfl rfl rfl (by decide +kernel)
def CM (F:iB K "do_make" "do_make" v8 f fd)(T:Txt mg)(GB:aC P w K mg base 1 "is_number_below" ["number","many"] Bq)(GC:aC P w K mg base 1 "is_child" ["rules","heads","child","part"] (Bp K)):bR P w K mg base gk 2 f fd ["rules","heads","pile","number"] (xD K):=by
 refine F.ok rM (λvs H Q E h=>?_) (λeX A outer s H vs Q E hr h=>?_)
 .obtain⟨R,d,Pl,rs,aa,us,ts,k,rfl,_⟩:=h;rfl
 obtain⟨R,d,Pl,rs,aa,us,ts,y,rfl,M,h⟩:=h;refine⟨_,ai (bI (iE (eI (bp GB hr rfl (ab (pv 3) (ab (aD aG rfl T.len cY (ab (pv 0) ag)) ag))))) (ak (aN f_)) aQ)
  (ai (az (i:=4) rM.nd rfl (bC rfl) (a_ ag))
  (ai (bL cg rfl (fZ (Mj (aL aZ (aL bB (pv 0) (pv 3) (λ_ _=>rfl)) ao (λ_ _=>rfl)))) (aq (i:=5) rM.nd rfl (bC rfl))
   (ai (bI (PW.pt (lY (iE (iV (pv 2) (λ_=>rfl))) (jS (iE (eI (bp GC hr rfl (ab (pv 0) (ab (pv 1) (ab (aL bB (pv 2) (ka iD ao) (λ_ _=>rfl)) (ab (pv 5) ag)))))))))) (ak (aN f_)) aQ)
   (ak (cI (g9 gF gW gX bU (pv 4) (ab (Ft gF PySem.F.slot_list_pop PySem.F.type_list_pop F4 (pv 2)) ag))))))
  (ai (cI (g9 gF gW gX bU (pv 2) (ab (bo (ab (pv 3) (ab (bc dQ rfl T.tup mX (ab (Jg (pv 4)) ag)) ag))) ag)))
  (ak (aN f_))))),?_⟩
 nofun
 have ll:=aU M.cy;rcases h with ⟨nn,q⟩ | ⟨k,rfl,lk,q0,q1⟩
 .refine⟨_,rfl,_,rfl,R,_,rfl,.inl (aH.of M.hR),y,rs.length,(by show [y,V.int ((rs.map V.ref).length:Int)]=_;rw [au]),.inr ⟨by rw [ll];exact nn,false,rfl,?_⟩⟩;refine d0 ?_;exact q
 have lp:=aU M.pl;have fw:=M.xg;have er:aa[k]?=some aa[k]:=dG lk;generalize iY:aa[k]=ru at er;have h8:=M.sh ru (b9 er);obtain⟨r,err,p,v1,v2⟩:=Paired.at_ M.cy k ru er;have uZ:jZ (rs.map V.ref) (k:Int)=some (.ref r):=bZ (by rw [bz,err];rfl);refine⟨_,rfl,_,rfl,R,_,rfl,.inl (aH.of M.hR),_,(rs.map V.ref).length,rfl,.inl ⟨k,rfl,by rw [au];omega,true,rfl,?_⟩⟩;refine cT ?_;refine⟨rq,λC hC=>?_⟩;have s1:=af hC (.lst []);have YC:C≠Pl:=λz=>by rw [z,M.hP] at hC;cases hC
 have Z5:upd H C (.lst []) C=some (.lst []):=ae;generalize upd H C (.lst [])=H1 at s1 Z5;refine⟨_,rfl,_,rfl,R,_,_,_,rfl,rfl,aH.of (s1 _ _ M.hR),uZ,r,_,_,_,rfl,rfl,s1.tup v1,rfl,p,_,rfl,s1.tup v2,λp2 oE=>?_⟩;have s2:=s1.trans (af oE (.tup (ru.2.map V.str).reverse));have BV:=af oE (.tup (ru.2.map V.str).reverse) _ _ Z5;have Rg:aS K (upd H1 p2 (.tup (ru.2.map V.str).reverse)) p2 (ru.2.map V.str).reverse:=aS.of ae;generalize upd H1 p2 (.tup (ru.2.map V.str).reverse)=H2 at s2 BV Rg;rw [<-List.map_reverse] at Rg
 let Kq:Hp->Prop:=λH5=>cW Pl H H5/\aS K H5 p2 (ru.2.reverse.map V.str)
 have MH:∀{H5:Hp},Kq H5->∀a xs,aS K H a xs->aS K H5 a xs:=λkq a xs z=>by
  rcases z with (z | ⟨u,z⟩) | z
  .exact .inl (.inl (kq.1 _ _ (λy=>by rw [y,M.hP] at z;cases z) z))
  .exact .inl (.inr ⟨u,kq.1 _ _ (λy=>by rw [y,M.hP] at z;cases z) z⟩)
  exact .inr z
 have PX:∀gI,fM aa k ts=some gI->ru.2.length<=ts.length/\i0 aa (ts.drop (ts.length - ru.2.length)) ru.2=true:=λgI e=>by
  obtain⟨H_,e1,e2,e3,_⟩:=ik e;rw [er] at e1;cases e1;exact⟨e2,e3⟩
 have none_of:(∀gI,fM aa k ts≠some gI)->fM aa k ts=none:=λh=>by
  cases e:fM aa k ts with
  | none=>rfl
  | some x=>exact absurd e (h x)
 refine⟨p2,rfl,⟨_,Rg⟩,?_⟩;refine oo (xs:=ru.2.reverse.map V.str) (λi σ H5=>∃(y5:Option V),σ=[aM R,aM d,aM Pl,some (.int (k:Int)),aM C,y5]/\Kq H5/\i<=us.length/\H5 Pl=some (.lst (us.take (us.length - i)))/\H5 C=some (.lst (us.drop (us.length - i)).reverse) /\
  ∀(j:Nat) t x,j < i->ts[ts.length - 1 - j]?=some t->ru.2.reverse[j]?=some x->gC aa t x=true) ⟨none,rfl,⟨λb o _ hb=>s2 _ _ hb,Rg⟩,dW _,by rw [jL,cE];exact s2 _ _ M.hP,by rw [jL,oR];exact BV,λj _ _ h=>∅⟩ ?_ ?_ ?_
 .rintro i σ H5 _ ⟨y5,rfl,kq,_⟩;exact kq.2
 .rintro i x σ H5 ex ⟨y5,rfl,kq,li,eP,eC,fa⟩
  ac_nf0
  rw [bz] at ex;obtain⟨x,SM,rfl⟩:=cC.mp ex;have lx:=(bu.mp SM).1;rw [qM] at lx;refine goN ?_
  ac_rfl
  refine⟨_,rfl,!(us.take (us.length - i)).isEmpty,.inl ⟨_,aH.of eP,rfl⟩,?_⟩;refine cf (λc=>?_) (λc=>?_)
  .have e0:us.take (us.length - i)=[]:=by
    cases hh:us.take (us.length - i) with
    | nil=>rfl
    | cons a b=>rw [hh] at c;cases c
   have l0:=congrArg List.length e0;rw [bO,jo] at l0;refine q0 H5 kq.1 (none_of λgI e=>?_);have:=(PX gI e).1;omega
  have ln:us.length - i≠0:=λz=>by rw [z,oO] at c;exact c rfl
  obtain⟨m,hm⟩:∃m,us.length - i=m+1:=⟨us.length - i - 1,∅⟩;have lm:m < us.length:=by omega
  have et:us.take (us.length - i)=us.take m++[us[m]]:=by rw [hm];exact Cq lm
  have em:us[m]?=some us[m]:=dG lm;have Q_:ts[m]?=some (ts[m]'∅):=dG ∅;obtain⟨u,eu,tv⟩:=Paired.at_ M.pl m _ Q_;rw [em] at eu;have eu:us[m]=u:=ir eu;generalize htm:ts[m]'∅=t0 at Q_ tv;have TM:=fV.keep (MH kq) t0 tv;have atl:jZ (us.take m++[u]) (-1)=some u:=Ht _ _;rw [et,eu] at eP;have tp:∀j cs,t0=.n j cs->j < aa.length:=λj cs e=>M.top j cs (e ▸ b9 Q_);refine⟨_,rfl,_,rfl,_,rfl,_,rfl,Pl,_,_,_,rfl,rfl,aH.of eP,atl,_,rfl,R,d,rs,aa,u,t0,x,rfl,aH.of (kq.1 _ _ M.nR M.hR),M.cy.keep (MH kq),?_,TM,tp,?_⟩
  .obtain⟨kE,a1,a2⟩:=M.wI;exact⟨kE,kq.1 _ _ (λz=>by rw [z,M.hP] at a1;cases a1) a1,a2⟩
  refine⟨_,rfl,?_⟩;refine cf (λc2=>?_) (λc2=>?_)
  .have OL:gC aa t0 x=false:=by simpa using c2
   refine q0 H5 kq.1 (none_of λgI e=>?_);obtain⟨a1,a2⟩:=PX gI e;have a3:(ts.drop (ts.length - ru.2.length))[ru.2.length - 1 - i]?=some t0:=by
    rw [q9,<-Q_]
    congr 1
    omega
   have a4:ru.2[ru.2.length - 1 - i]?=some x:=by
    rw [vw lx] at SM;exact SM
   rw [wL a2 a3 a4] at OL;cases OL
  have OL:gC aa t0 x=true:=by
   cases hh:gC aa t0 x with
   | true=>rfl
   | false=>rw [hh] at c2;exact absurd rfl c2
  have nPC:Pl≠C:=YC.symm;refine⟨_,rfl,.inl ⟨rfl,_,aH.of eC⟩,_,rfl,.inl ⟨rfl,_,aH.of eP⟩,Pl,_,u,rfl,rfl,eP,xO,?_⟩;rw [ua];have Z4:upd H5 Pl (.lst (us.take m)) C=some (.lst (us.drop (us.length - i)).reverse):=by rw [aj YC];exact eC
  refine⟨C,_,_,rfl,rfl,Z4,bM (by rw [qM,ff];omega),?_⟩;have ZK:us.length - (i+1)=m:=by omega
  have ed:(us.drop m).reverse=(us.drop (us.length - i)).reverse++[u]:=by
   rw [hm,List.drop_eq_getElem_cons lm,qK,eu]
  refine⟨_,rfl,⟨λb o nb hb=>?_,?_⟩,∅,?_,?_,λj t x2 hj e1 e2=>?_⟩
  .rw [aj (λz=>by rw [z,hC] at hb;cases hb),aj nb];exact kq.1 b o nb hb
  .exact a7 Z4 (a7 eP kq.2)
  .rw [ZK,aj nPC,ae]
  .rw [ZK,ae,ed]
  by_cases cj:j < i
  .exact fa j t x2 cj e1 e2
  have:j=i:=by omega
  subst this;rw [SM] at e2;cases e2;have e3:ts[ts.length - 1 - j]?=some t0:=by rw [<-Q_];congr 1;omega
  rw [e3] at e1;cases e1;exact OL
 rintro σ H5 ⟨y5,rfl,kq,li,eP,eC,fa⟩;rw [au,qM] at li eP eC fa;have fl:i0 aa (ts.drop (ts.length - ru.2.length)) ru.2=true:=qH (by rw [ff];omega) λi t x e1 e2=>by
  have l2:=(bu.mp e2).1;rw [q9] at e1;refine fa (ru.2.length - 1 - i) t x ∅ ?_ ?_
  .rw [<-e1];congr 1;omega
  rw [vw ∅,<-e2];congr 1;omega
 have mk:fM aa k ts=some (ts.take (ts.length - ru.2.length)++[.n k (gR.lL (ts.drop (ts.length - ru.2.length)))]):=by
  unfold fM;rw [er];show (if (decide (ru.2.length<=ts.length) && i0 aa (ts.drop (ts.length - ru.2.length)) ru.2)=true then _ else none)=_;rw [ax (by rw [fl,bh ∅];rfl)]
 refine⟨_,rfl,.inl ⟨rfl,_,aH.of eP⟩,_,rfl,_,rfl,C,_,rfl,aH.of eC,λL2 GQ=>?_⟩;rw [List.reverse_reverse];have s6:=af GQ (.lst (us.drop (us.length - ru.2.length)));have Hc:upd H5 L2 (.lst (us.drop (us.length - ru.2.length))) L2=some (.lst (us.drop (us.length - ru.2.length))):=ae;generalize upd H5 L2 (.lst (us.drop (us.length - ru.2.length)))=H6 at s6 Hc;refine⟨L2,_,rfl,.inl ⟨aH.of Hc,λt2 jl=>⟨iP,λnd Ih=>?_⟩⟩⟩;have s8:=s6.trans ((af jl (.tup (us.drop (us.length - ru.2.length)))).trans (af Ih (.tup [.int (k:Int),.ref t2])));have vt:aS K (upd (upd H6 t2 (.tup (us.drop (us.length - ru.2.length)))) nd (.tup [.int (k:Int),.ref t2])) t2 (us.drop (us.length - ru.2.length)):=(af Ih _).tup (aS.of ae);have vn:aS K (upd (upd H6 t2 (.tup (us.drop (us.length - ru.2.length)))) nd (.tup [.int (k:Int),.ref t2])) nd [.int (k:Int),.ref t2]:=aS.of ae;generalize upd (upd H6 t2 (.tup (us.drop (us.length - ru.2.length)))) nd (.tup [.int (k:Int),.ref t2])=H8 at s8 vt vn;have SW:=s8 _ _ eP;refine⟨Pl,_,_,rfl,rfl,SW,bM (by rw [bO];omega),?_⟩;have kt:∀a xs,aS K H a xs->aS K (upd H8 Pl (.lst (us.take (us.length - ru.2.length)++[.ref nd]))) a xs:=λa xs z=>a7 SW (s8.tup (MH kq a xs z));have D_:=wZ.keep kt M.pl;refine q1 _ _ _ (λb o nb hb=>?_) mk ae ?_ (by rw [a9,bO,gw];omega)
 .rw [aj nb];exact s8 _ _ (kq.1 b o nb hb)
 rw [<-lp];refine aW (dB D_ _) (.cons ?_ .nil);unfold fV;exact⟨nd,t2,us.drop (us.length - ru.2.length),rfl,a7 SW vn,a7 SW vt,hX.PR (dC D_ _)⟩
end
def Nu {z y:Str}(h:z≠y):uL (.str z) (.str y)=false:=by
 simp [uL,h]
def HV.last {m:Nat}{H:Hp}{a:Addr}:∀{de:De},HV m H a de->∃xs,H a=some (.tup xs)/\xs.all ib=true/\((de=.dn/\xs=[.str "done"])\/(de≠.dn/\Ds xs [.str "done"]=false))
 | .d (.step z),h=>⟨_,h,rfl,.inr ⟨(λe=>by cases e),by show (_ && false)=false;rw [oN]⟩⟩
 | .d (.make k),h=>⟨_,h,rfl,.inr ⟨(λe=>by cases e),by show (_ && false)=false;rw [oN]⟩⟩
 | .si n,h=>⟨_,h,rfl,.inr ⟨(λe=>by cases e),by show (_ && false)=false;rw [oN]⟩⟩
 | .no,⟨xs,h,b⟩=>by
  refine⟨xs,h,?_⟩;rcases b with ⟨z,rfl,hz⟩ | ⟨z,y,rfl,_,_⟩ | ⟨y,rfl,hn⟩
  .refine⟨rfl,.inr ⟨(λe=>by cases e),?_⟩⟩;show (uL (.str z) (.str "done") && true)=false;rw [Bool.and_true];exact Nu hz
  .exact⟨rfl,.inr ⟨(λe=>by cases e),by show (_ && false)=false;rw [oN]⟩⟩
  refine⟨?_,.inr ⟨(λe=>by cases e),by show (_ && false)=false;rw [oN]⟩⟩;rcases hn with ⟨n,rfl,_⟩ | ⟨t,rfl⟩ | ⟨z,rfl⟩ <;> rfl
 | .dn,h=>⟨_,h,rfl,.inl ⟨rfl,rfl⟩⟩
section
def xE (K:ba):Sp:=λvs H Q _=>∃(R d Pl a:Addr)(rs:List Addr)(aa:List ar)(us:List V)(ts:List Tr)(de:De),vs=[.ref R,.ref d,.ref Pl,.ref a]/\XD K H R d Pl rs aa us ts/\HV aa.length H a de/\jH aa de /\
 (∀H',cW Pl H H'->pZ aa ts de=none->Q (.bl false) H')/\(∀H' uc gI,cW Pl H H'->pZ aa ts de=some gI->H' Pl=some (.lst uc)->wZ K H' uc gI->uc.length<=us.length+1->Q (.bl true) H')
def EU:aK ["rules","heads","pile","deed"] ["rules","heads","pile","deed"] (av v9):=iM rfl rfl rfl rfl (by decide +kernel)
def CN (F:iB K "do_deed" "do_deed" v9 f fd)(T:Txt mg)(GS:aC P w K mg base 2 "do_step" ["heads","pile","word"] (xC K))(GM:aC P w K mg base 2 "do_make" ["rules","heads","pile","number"] (xD K)):bR P w K mg base gk 3 f fd ["rules","heads","pile","deed"] (xE K):=by
 refine F.ok EU (λvs H Q E h=>?_) (λeX A outer s H vs Q E hr h=>?_)
 .obtain⟨R,d,Pl,a,rs,aa,us,ts,de,rfl,_⟩:=h;rfl
 obtain⟨R,d,Pl,a,rs,aa,us,ts,de,rfl,M,hv,ok,q0,q1⟩:=h;have fw:=M.xg;have same:cW Pl H H:=λ_ _ _ h=>h;refine⟨_,ai (bI (aX uA (aD aG rfl T.len cY (ab (pv 3) ag)) ao (bJ _)) (ak (aN f_)) aQ)
  (ai (bI (aX hJ (aL aZ (pv 3) ao (λ_ _=>rfl)) bx (bJ _)) (ak (aN (bp GS hr rfl (ab (pv 1) (ab (pv 2) (ab (aL aZ (pv 3) ao (λ_ _=>rfl)) ag)))))) aQ)
  (ak (aN (kU (fu hJ (aL aZ (pv 3) ao (λ_ _=>rfl)) bx (bJ _)) (kT (bp GM hr rfl (ab (pv 0) (ab (pv 1) (ab (pv 2) (ab (aL aZ (pv 3) ao (λ_ _=>rfl)) ag)))))))))),?_⟩
 nofun
 have one:∀{z:Str},H a=some (.tup [.str z])->pZ aa ts de=none->∃x,([some (V.ref R),aM d,aM Pl,aM a]:St)[3]?=some (some x)/\True:=λ_ _=>⟨_,rfl,trivial⟩;cases de with
 | d y =>
  cases y with
  | step z =>
   have hv:aS K H a [.str "step",.str z]:=aS.of hv;refine⟨_,rfl,a,_,rfl,.inr hv,rfl,false,rfl,?_⟩;refine cT ?_;refine⟨_,rfl,a,_,_,_,rfl,rfl,hv,rfl,rfl,true,rfl,?_⟩;refine d0 ?_;by_cases c:z∈hd aa
   .refine⟨_,rfl,_,rfl,_,rfl,a,_,_,_,rfl,rfl,hv,rfl,d,Pl,aa,us,.str z,rfl,M.wI,M.hP,fw,.inr (.inl ⟨z,rfl,c,?_⟩)⟩;exact q0 H same (show (if z∈hd aa then none else some (ts++[Tr.w z]))=_ from ax c)
   refine⟨_,rfl,_,rfl,_,rfl,a,_,_,_,rfl,rfl,hv,rfl,d,Pl,aa,us,.str z,rfl,M.wI,M.hP,fw,.inl ⟨z,rfl,c,?_⟩⟩;refine q1 _ _ (ts++[.w z]) (λb o nb hb=>by rw [aj nb];exact hb) (show (if z∈hd aa then none else some (ts++[Tr.w z]))=_ from ay c) ae ?_ (by rw [a9];simp);refine aW (wZ.keep (λ_ _ z=>a7 M.hP z) M.pl) (.cons ?_ .nil);unfold fV;rfl
  | make k =>
   have hv:aS K H a [.str "make",.int (k:Int)]:=aS.of hv;refine⟨_,rfl,a,_,rfl,.inr hv,rfl,false,rfl,?_⟩;refine cT ?_;refine⟨_,rfl,a,_,_,_,rfl,rfl,hv,rfl,rfl,false,rfl,?_⟩;refine cT ?_;refine⟨_,rfl,a,_,_,_,rfl,rfl,hv,rfl,rfl,true,rfl,?_⟩;refine d0 ?_;exact⟨_,rfl,_,rfl,_,rfl,_,rfl,a,_,_,_,rfl,rfl,hv,rfl,R,d,Pl,rs,aa,us,ts,_,rfl,M,.inr ⟨k,rfl,ok,q0,q1⟩⟩
 | si n =>
  have hv:aS K H a [.str "step",.int n]:=aS.of hv;refine⟨_,rfl,a,_,rfl,.inr hv,rfl,false,rfl,?_⟩;refine cT ?_;refine⟨_,rfl,a,_,_,_,rfl,rfl,hv,rfl,rfl,true,rfl,?_⟩;refine d0 ?_;refine⟨_,rfl,_,rfl,_,rfl,a,_,_,_,rfl,rfl,hv,rfl,d,Pl,aa,us,.int n,rfl,M.wI,M.hP,fw,.inr (.inr ⟨n,rfl,?_⟩)⟩;exact q0 H same rfl
 | no =>
  obtain⟨xs,hv,bd⟩:=hv;have hv:aS K H a xs:=aS.of hv;rcases bd with ⟨z,rfl,_⟩ | ⟨z,y,rfl,n1,n2⟩ | ⟨y,rfl,hn⟩
  .refine⟨_,rfl,a,_,rfl,.inr hv,rfl,true,rfl,?_⟩;refine d0 ?_;exact q0 H same rfl
  .refine⟨_,rfl,a,_,rfl,.inr hv,rfl,false,rfl,?_⟩;refine cT ?_;refine⟨_,rfl,a,_,_,_,rfl,rfl,hv,rfl,rfl,false,?_,?_⟩
   .show V.bl (decide (V.str z=V.str "step"))=V.bl false;rw [b0 λe=>n1 (by injection e)]
   refine cT ?_;refine⟨_,rfl,a,_,_,_,rfl,rfl,hv,rfl,rfl,false,?_,?_⟩
   .show V.bl (decide (V.str z=V.str "make"))=V.bl false;rw [b0 λe=>n2 (by injection e)]
   refine cT ?_;have e:V.bl (decide (V.str z=V.str "make"))=V.bl false:=by rw [b0 λe=>n2 (by injection e)]
   first
    | exact q0 H same rfl
    | (rw [e];exact q0 H same rfl)
    | (show Q (V.bl (decide (V.str z=V.str "make"))) H;rw [e];exact q0 H same rfl)
  refine⟨_,rfl,a,_,rfl,.inr hv,rfl,false,rfl,?_⟩;refine cT ?_;refine⟨_,rfl,a,_,_,_,rfl,rfl,hv,rfl,rfl,false,rfl,?_⟩;refine cT ?_;refine⟨_,rfl,a,_,_,_,rfl,rfl,hv,rfl,rfl,true,rfl,?_⟩;refine d0 ?_;exact⟨_,rfl,_,rfl,_,rfl,_,rfl,a,_,_,_,rfl,rfl,hv,rfl,R,d,Pl,rs,aa,us,ts,_,rfl,M,.inl ⟨hn,q0 H same rfl⟩⟩
 | dn =>
  have hv:aS K H a [.str "done"]:=aS.of hv;refine⟨_,rfl,a,_,rfl,.inr hv,rfl,true,rfl,?_⟩;refine d0 ?_;exact q0 H same rfl
def uP (l:List Addr)(n:Addr):d8 ((l++[n]).map V.ref) (some (-1)) none=[V.ref n]:=by
 unfold d8;have h1:HT.gy ((l++[n]).map V.ref).length 0 (some (-1))=l.length:=by
  rw [au,a9,gw];show (if (-1:Int) < 0 then ((-1:Int)+((l.length+1:Nat):Int)).toNat else min (-1:Int).toNat (l.length+1))=l.length;rw [ax (by decide)];omega
 rw [h1,HT.gG,<-oK,List.drop_append_of_le_length (aF _),oR,pO];rw [au,a9,gw,show l.length+1 - l.length=1 ∅];rfl
def uQ (l:List Addr)(n:Addr):d8 ((l++[n]).map V.ref) none (some (-1))=l.map V.ref:=by
 unfold d8;have h1:HT.gy ((l++[n]).map V.ref).length ((l++[n]).map V.ref).length (some (-1))=l.length:=by
  rw [au,a9,gw];show (if (-1:Int) < 0 then ((-1:Int)+((l.length+1:Nat):Int)).toNat else min (-1:Int).toNat (l.length+1))=l.length;rw [ax (by decide)];omega
 rw [h1,HT.gG,mj,jL,<-mR,pT (aF _),cE]
def xx (K:ba):Sp:=λvs H Q _=>∃(R L:Addr)(rs as:List Addr)(aa:List ar)(es:List De),vs=[.ref R,.ref L]/\H R=some (.lst (rs.map V.ref))/\bK K H rs aa/\(∀ru∈aa,ru.2.length<=8)/\aa.length<=1000/\aH K H L (as.map V.ref)/\lR aa.length H as es/\(∀d∈es,jH aa d)/\es.length<=90000 /\
 ∀H',aA H H'->(resT aa es=none->Q .fg H')/\∀t v,resT aa es=some t->fV K H' t v->Q v H'
def nE:aK ["rules","deeds","heads","pile","deed"] ["rules","deeds"] (av vT):=iM rfl rfl rfl rfl (by decide +kernel)
def CG (F:iB K "tree_of" "tree_of" vT f fd)(T:Txt mg)(GH:aC P w K mg base 3 "heads_of" ["rules"] (jP K))(GD:aC P w K mg base 3 "do_deed" ["rules","heads","pile","deed"] (xE K)):bR P w K mg base gk 4 f fd ["rules","deeds"] (xx K):=by
 refine F.ok nE (λvs H Q E h=>?_) (λeX A outer s H vs Q E hr h=>?_)
 .obtain⟨R,L,rs,as,aa,es,rfl,_⟩:=h;rfl
 obtain⟨R,L,rs,as,aa,es,rfl,hR,cy,h8,bE,hL,D0,JW,dl,q⟩:=h;have yf:=gh hr;refine⟨_,ai (bI (aX (xS yf) (bY dq (pv 1) (bS (ka iD ao)) dr) (a_ (ab (bo (ab bx ag)) ag)) (bJ _)) (ak (aN je)) aQ)
  (ai (az (i:=2) nE.nd rfl (bC rfl) (bc (dS rfl) rfl T.AN gi (ab (bD ["head"] [] rfl (a8 (bp GH hr rfl (ab (pv 0) ag))) (br rfl rfl) (by decide +kernel) rfl (by decide +kernel)
   (λ_ _ _ _ _=>aq (i:=0) (show (["head"]:List Str).Nodup by decide +kernel) rfl (bC rfl)) (λ_ _ _ _ _=>b8) (λ_ _ _ _ _=>bo (ab (pv 0) (ab f_ ag)))) ag)))
  (ai (az (i:=3) nE.nd rfl (bC rfl) (a_ ag))
  (ai (bL cg rfl (a8 (bY dq (pv 1) dr (bS (ka iD ao)))) (aq (i:=4) nE.nd rfl (bC rfl))
   (ak (bI (iE (eI (bp GD hr rfl (ab (pv 0) (ab (pv 2) (ab (pv 3) (ab (pv 4) ag))))))) (ak (aN je)) aQ)))
  (ak (aN (rT (PW.pt (kR (aX hJ (aD aG rfl T.len cY (ab (pv 3) ag)) ao (bJ _)) (i8 (iE (eI (aD di rfl T.Gn kF (ab (aL bB (pv 3) ao (λ_ _=>rfl)) (ab (g_ (v:=.ty "str") rfl T.str lh rfl) ag)))))))) (aL bB (pv 3) ao (λ_ _=>rfl)) je)))))),?_⟩
 nofun
 refine⟨_,rfl,_,rfl,_,rfl,L,_,rfl,hL,λC1 Ni=>?_⟩;have Sm:=aU D0;by_cases ca:as=[]
 .subst ca;have ee:es=[]:=zh.mp Sm.symm;subst ee;have s1:=af Ni (.lst (d8 (([]:List Addr).map V.ref) (some (-1)) none));have e1:upd H C1 (.lst (d8 (([]:List Addr).map V.ref) (some (-1)) none)) C1=some (.lst []):=ae;generalize upd H C1 (.lst (d8 (([]:List Addr).map V.ref) (some (-1)) none))=H1 at s1 e1;refine⟨qg,λt1 BN=>⟨qg,λC2 yX=>?_⟩⟩;have k3:=(af BN (.tup [V.str "done"])).trans (af yX (.lst [V.ref t1]));have et:aS K (upd (upd H1 t1 (.tup [V.str "done"])) C2 (.lst [V.ref t1])) t1 [.str "done"]:=(af yX _).tup (aS.of ae);have BV:upd (upd H1 t1 (.tup [V.str "done"])) C2 (.lst [V.ref t1]) C2=some (.lst [V.ref t1]):=ae;generalize upd (upd H1 t1 (.tup [V.str "done"])) C2 (.lst [V.ref t1])=H3 at k3 et BV;refine⟨C1,C2,_,t1,_,rfl,rfl,aH.of (k3 _ _ e1),aH.of BV,et,rfl,.inl ⟨rfl,true,rfl,?_⟩⟩;refine d0 ?_;exact(q H3 (s1.trans k3)).1 rfl
 obtain⟨Eg,a0,AG,e0,rfl,rfl,DP,TC⟩:=pW D0 ca;rw [uP];obtain⟨Tx,K1,Wo,NO⟩:=TC.last;have s1:=af Ni (.lst [V.ref a0]);have e1:upd H C1 (.lst [V.ref a0]) C1=some (.lst [V.ref a0]):=ae;generalize upd H C1 (.lst [V.ref a0])=H1 at s1 e1;refine⟨qg,λt1 BN=>⟨qg,λC2 yX=>?_⟩⟩;have na:a0≠t1:=λz=>by rw [<-z,s1 _ _ K1] at BN;cases BN
 have k3:=(af BN (.tup [V.str "done"])).trans (af yX (.lst [V.ref t1]));have et:aS K (upd (upd H1 t1 (.tup [V.str "done"])) C2 (.lst [V.ref t1])) t1 [.str "done"]:=(af yX _).tup (aS.of ae);have BV:upd (upd H1 t1 (.tup [V.str "done"])) C2 (.lst [V.ref t1]) C2=some (.lst [V.ref t1]):=ae;generalize upd (upd H1 t1 (.tup [V.str "done"])) C2 (.lst [V.ref t1])=H3 at k3 et BV;have s3:=s1.trans k3;refine⟨C1,C2,_,t1,_,rfl,rfl,aH.of (k3 _ _ e1),aH.of BV,et,rfl,.inr ⟨a0,Tx,rfl,na,aS.of (s3 _ _ K1),Wo,_,rfl,?_⟩⟩;rcases NO with ⟨rfl,rfl⟩ | ⟨nd,NO⟩
 rotate_left
 .rw [NO];refine d0 ?_;refine(q H3 s3).1 ?_;unfold resT;rw [rm,xm];cases e0 with
  | dn=>exact absurd rfl nd
  | d x=>rfl
  | si n=>rfl
  | no=>rfl
 refine cT ?_;have q2:∀H',aA H H'->(jE (eY (pZ aa) AG [])=none->Q .fg H')/\∀t v,jE (eY (pZ aa) AG [])=some t->fV K H' t v->Q v H':=λH' s=>by
  have:=q H' s;unfold resT at this;rw [rm,xm,ua] at this;exact this
 have NI:∀d∈AG,jH aa d:=λd h=>JW d (h_ _ h);have dl0:AG.length<=90000:=by rw [a9] at dl;omega
 have R3:=s3 _ _ hR;have Ur:=cy.same s3;refine⟨_,rfl,R,rs,aa,rfl,aH.of R3,Ur,bE,λD1 H4 f4 s4 e4=>?_⟩;have JC:=iO (aa.map (·.1)) [];simp only [jo,au] at JC;refine⟨D1,rfl,⟨_,aH.of e4⟩,λD2 jb=>qa (aH.of e4) ∅ jb λtz H5 s5 e5 p5=>?_⟩;have kp:Paired (λt (kv:aR×V)=>aS K H5 t [kV kv.1,kv.2]) tz ((hd aa).map λh=>((Sum.inr h:aR),V.bl true)):=cx p5 λ_ _ z=>z;refine⟨D2,tz,_,rfl,e5,kp,λd tN=>?_⟩;have P5:∀z,(bw (df ((hd aa).map λh=>((Sum.inr h:aR),V.bl true)) []) (Sum.inr z)).isSome=decide (z∈hd aa):=λz=>by
  rw [m_];by_cases c:z∈hd aa
  .rw [ax c,bh c];rfl
  rw [ay c,b0 c];rfl
 generalize df ((hd aa).map λh=>((Sum.inr h:aR),V.bl true)) []=kE at P5;have s6:=(s4.trans s5).trans (af tN (.dK kE));have Lc:upd H5 d (.dK kE) d=some (.dK kE):=ae;generalize upd H5 d (.dK kE)=H6 at s6 Lc;have E6:=s3.trans s6;refine⟨rq,λPl Q0=>?_⟩;have k7:=af Q0 (.lst []);have WO:upd H6 Pl (.lst []) Pl=some (.lst []):=ae;have Zz:H Pl=none:=E6.free Q0;have nRP:R≠Pl:=λz=>by rw [z,Zz] at hR;cases hR
 have Sj:d≠Pl:=λz=>by rw [z,Q0] at Lc;cases Lc
 generalize upd H6 Pl (.lst [])=H7 at k7 WO;have HZ:=E6.trans k7;refine⟨_,rfl,_,rfl,_,rfl,L,_,rfl,HZ.seq hL,λC3 JP=>?_⟩;rw [uQ];have k8:=af JP (.lst (Eg.map V.ref));have He:upd H7 C3 (.lst (Eg.map V.ref)) C3=some (.lst (Eg.map V.ref)):=ae;have UY:C3≠Pl:=λz=>by rw [z,WO] at JP;cases JP
 generalize upd H7 C3 (.lst (Eg.map V.ref))=H8 at k8 He;have s08:=HZ.trans k8;have WK:=k8 _ _ (k7 _ _ Lc);have U9:=aU DP;refine⟨C3,rfl,⟨_,aH.of He⟩,?_⟩;refine cJ (xs:=Eg.map V.ref) (λi σ H9=>∃(us:List V)(ts:List Tr)(y4:Option V),σ=[aM R,aM L,aM d,aM Pl,y4]/\aA H H9/\H9 C3=some (.lst (Eg.map V.ref))/\H9 d=some (.dK kE)/\H9 Pl=some (.lst us)/\wZ K H9 us ts/\eY (pZ aa) (AG.take i) []=some ts/\us.length<=i) ⟨[],[],none,rfl,s08,He,WK,k8 _ _ WO,.nil,rfl,aF _⟩ ?_ ?_ ?_
 .rintro i σ H9 _ ⟨us,ts,y4,rfl,s9,Lf,_⟩;exact aH.of Lf
 .rintro i x σ H9 ex ⟨us,ts,y4,rfl,s9,Lf,NA,xi,D_,o_,l9⟩
  ac_nf0
  rw [bz] at ex;obtain⟨a,ea,rfl⟩:=cC.mp ex;have li:=(bu.mp ea).1;obtain⟨de,JT⟩:∃de,AG[i]?=some de:=⟨AG[i]'∅,dG ∅⟩;obtain⟨a',Ld,va⟩:=Paired.at_ DP i de JT;rw [ea] at Ld;cases Ld;have UA:=NI de (b9 JT);have Uz:=qz (λh e=>qf.pZ h e) _ qf.nil o_;have M9:XD K H9 R d Pl rs aa us ts:=⟨s9 _ _ hR,cy.same s9,⟨kE,NA,P5⟩,xi,D_,∅,nRP,h8,bE,λj cs h=>Uz.top h⟩;refine goN ?_
  ac_nf
  have back:∀{HA:Hp},cW Pl H9 HA->aA H HA:=λsT b o hb=>sT b o (λz=>by rw [z,Zz] at hb;cases hb) (s9 b o hb);refine⟨_,rfl,_,rfl,_,rfl,_,rfl,R,d,Pl,a,rs,aa,us,ts,de,rfl,M9,va.same s9,UA,λHA sT e=>⟨false,rfl,?_⟩,λHA uc gI sT e WQ Uy l'=>⟨true,rfl,?_⟩⟩
  .refine d0 ?_;refine(q2 HA (back sT)).1 ?_;rw [uu JT o_ e];rfl
  refine cT ?_;refine⟨uc,gI,_,rfl,back sT,sT _ _ UY Lf,sT _ _ Sj NA,WQ,Uy,?_,∅⟩;rw [ur JT o_,e]
 rintro σ H9 ⟨us,ts,y4,rfl,s9,Lf,NA,xi,D_,o_,l9⟩;rw [au,U9,cE] at o_;have lp:=aU D_;have hq:=q2 H9 s9;rw [o_] at hq;refine⟨_,rfl,Pl,_,rfl,.inl (aH.of xi),rfl,decide (us.length=1),?_,?_⟩
 .show V.bl (decide (V.int (us.length:Int)=V.int 1))=V.bl (decide (us.length=1));by_cases h:us.length=1
  .rw [bh h,bh (by rw [h];rfl)]
  rw [b0 h,b0 (λy=>h (by injection y with y2;omega))]
 refine cf (λc=>?_) (λc=>?_)
 .have l1:=cZ c
  match us,ts,l1,lp,D_,xi,hq with
  | [u],[t],_,_,.cons tv .nil,xi,hq =>
   have qJ:jZ [u] 0=some u:=bZ (j:=0) rfl;cases t with
   | w z =>
    unfold fV at tv;subst tv;refine⟨_,rfl,Pl,_,_,_,rfl,rfl,aH.of xi,qJ,.str z,"str","str",true,rfl,.str z,eQ,true,rfl,?_⟩;refine cT ?_;exact hq.1 rfl
   | n k cs =>
    have HW:=tv;unfold fV at HW;obtain⟨a,p,vs,rfl,ha,hp,_⟩:=HW;refine⟨_,rfl,Pl,_,_,_,rfl,rfl,aH.of xi,qJ,.ref a,"tuple","str",false,rfl,.tup ha,wB,false,rfl,?_⟩;refine d0 ?_;exact⟨_,rfl,Pl,_,_,_,rfl,rfl,aH.of xi,qJ,hq.2 _ _ rfl tv⟩
 have n1:us.length≠1:=λh=>c (bh h);refine cT ?_;refine hq.1 ?_
 match ts,lp with
 | [],_=>rfl
 | [t],lp=>exact absurd lp n1
 | a::_::_,_=>cases a <;> rfl
end
abbrev zE:Stmt:=top 59
abbrev zI:Stmt:=top 60
def PvV (K:ba)(H:Hp)(aa:List ar)(t:Tr)(v:V):Prop:=fV K H t v\/∃(n:Int)(h:Str),v=.int n/\t=.w h/\h∈hd aa
abbrev lC (K:ba)(H:Hp)(aa:List ar)(us:List V)(ts:List Tr):Prop:=Paired (λv t=>PvV K H aa t v) us ts
theorem lC.keep {K:ba}{H H':Hp}{aa:List ar}{us:List V}{ts:List Tr}(k:∀a xs,aS K H a xs->aS K H' a xs)(h:lC K H aa us ts):lC K H' aa us ts:=Paired.e_ h λ_ t z=>z.imp (λy=>fV.keep k t y) id
theorem Fg {K:ba}{H:Hp}{aa:List ar}:∀{vs:List V}{ts:List Tr}{ps:List Str},lC K H aa vs ts->i0 aa ts ps=true->Paired (λv t=>fV K H t v) vs ts
 | _,_,_,.nil,_=>.nil
 | _,_,[],.cons _ _,f=>by cases f
 | _,_,p::ps,.cons a b,f=>by
  have f2:=gE.mp (show (gC aa _ p && i0 aa _ ps)=true from f);refine .cons ?_ (Fg b f2.2);rcases a with a | ⟨n,h,_,e,hh⟩
  .exact a
  rw [e,jD hh] at f2;cases f2.1
section
def Bf:Sp:=λvs H Q _=>∃(y:V),vs=[y]/\((∃n:Int,y=.int n/\Q (.bl true) H)\/(((∃t,y=.bl t)\/∃z,y=.str z)/\Q (.bl false) H))
def IS:aK ["_law_thing"] ["_law_thing"] (av zE):=iM rfl rfl rfl rfl (by decide +kernel)
def FA (F:iB K "_law_whole" "_law_whole" zE f fd)(T:Txt mg):bR P w K mg base gk 1 f fd ["_law_thing"] Bf:=by
 refine F.ok IS (λvs H Q E h=>?_) (λeX A outer s H vs Q E hr h=>?_)
 .obtain⟨n,rfl,_⟩:=h;rfl
 obtain⟨y,rfl,h⟩:=h;refine⟨_,ak (aN (kU (aD di rfl T.Gn kF (ab (pv 0) (ab (g_ (v:=.ty "int") rfl T.int PyProof.Rows.boot_int rfl) ag)))
  (kT (zZ (aD di rfl T.Gn kF (ab (pv 0) (ab (g_ (v:=.ty "bool") rfl T.boo PyProof.Rows.boot_bool rfl) ag))))))),?_⟩
 dsimp only [yw];rcases h with ⟨n,rfl,q⟩ | ⟨⟨t,rfl⟩ | ⟨z,rfl⟩,q⟩
 .refine⟨_,rfl,.int n,"int","int",true,rfl,.int n,eQ,true,rfl,?_⟩;refine d0 ?_;exact⟨_,rfl,.int n,"int","bool",false,rfl,.int n,Ao,false,rfl,q⟩
 .refine⟨_,rfl,.bl t,"bool","int",true,rfl,.bl t,Gg,true,rfl,?_⟩;refine d0 ?_;exact⟨_,rfl,.bl t,"bool","bool",true,rfl,.bl t,eQ,true,rfl,q⟩
 refine⟨_,rfl,.str z,"str","int",false,rfl,.str z,Gd,false,rfl,?_⟩;refine cT ?_;exact q
def DE (us:List V) (n:Nat)(h:n<=us.length):d8 us none (some (n:Int))=us.take n:=by
 unfold d8;rw [HT.gG,HT.gZ,mj,jL,mq h]
def DF (us:List V) (n:Nat)(h:n<=us.length):d8 us (some (n:Int)) none=us.drop n:=by
 unfold d8;rw [HT.gG,HT.gZ,mq h,mW (by rw [ff];exact aF _)]
structure RF (K:ba)(H:Hp)(R N Pl:Addr)(rs:List Addr)(aa:List ar)(us:List V)(ts:List Tr):Prop where
 hR:aH K H R (rs.map V.ref)
 cy:bK K H rs aa
 hN:H N=some (.lst ((hm aa).map V.str))
 hP:H Pl=some (.lst us)
 pl:lC K H aa us ts
 xg:us.length<=100000
 ne:aa≠[]
 sh:∀ru∈aa,ru.2.length<=8
 sr:aa.length<=1000
 top:∀j cs,Tr.n j cs∈ts->j < aa.length
theorem RF.same {H H':Hp}{R N Pl:Addr}{rs:List Addr}{aa:List ar}{us:List V}{ts:List Tr}(h:RF K H R N Pl rs aa us ts)(s:aA H H'):RF K H' R N Pl rs aa us ts :=
 ⟨s.seq h.hR,h.cy.same s,s _ _ h.hN,s _ _ h.hP,lC.keep (λ_ _ z=>s.tup z) h.pl,h.xg,h.ne,h.sh,h.sr,h.top⟩
def Bi (K:ba):Sp:=λvs H Q _=>∃(R N Pl a:Addr)(rs:List Addr)(aa:List ar)(us:List V)(ts:List Tr)(de:De),vs=[.ref R,.ref N,.ref Pl,.ref a]/\RF K H R N Pl rs aa us ts/\HV aa.length H a de/\jH aa de /\
 (∀H',aA H H'->sS aa ts de=none->Q .fg H')/\(∀P' H' uc gI,aA H H'->sS aa ts de=some gI->H P'=none->H' P'=some (.lst uc)->lC K H' aa uc gI->uc.length<=us.length+1->Q (.ref P') H')
def nH:aK ["_law_rules","_law_heads","_law_pile","_law_deed","_law_parts","_law_rest","_law_k","_law_child"] ["_law_rules","_law_heads","_law_pile","_law_deed"] (av zI):=iM rfl rfl rfl rfl (by decide +kernel)
def FH (F:iB K "_law_piled" "_law_piled" zI f fd)(T:Txt mg)(GW:aC P w K mg base 1 "_law_whole" ["_law_thing"] Bf):bR P w K mg base gk 2 f fd ["_law_rules","_law_heads","_law_pile","_law_deed"] (Bi K):=by
 refine F.ok nH (λvs H Q E h=>?_) (λeX A outer s H vs Q E hr h=>?_)
 .obtain⟨R,N,Pl,a,rs,aa,us,ts,de,rfl,_⟩:=h;rfl
 obtain⟨R,N,Pl,a,rs,aa,us,ts,de,rfl,M,hv,ok,q0,q1⟩:=h;have fw:=M.xg;have lp:=aU M.pl;refine⟨_,ai (bI (PW.pt (lY (aX uA (aD aG rfl T.len cY (ab (pv 3) ag)) ao (bJ _)) (jS (aX iL (aL aZ (pv 3) ao (λ_ _=>rfl)) (a_ (ab bx (ab bx ag))) rfl)))) (ak (aN je)) aQ)
  (ai (bI (aX hJ (aL aZ (pv 3) ao (λ_ _=>rfl)) bx (bJ _)) (ak (aN (aI dH (pv 2) (a_ (ab (aL aZ (pv 3) ao (λ_ _=>rfl)) ag))))) aQ)
  (ai (bI (PW.pt (lY (iE (eI (bp GW hr rfl (ab (aL aZ (pv 3) ao (λ_ _=>rfl)) ag)))) (lY (iE (Fh KA nU ao (aL aZ (pv 3) ao (λ_ _=>rfl)) (aD aG rfl T.len cY (ab (pv 0) ag))))
    (jS (aX xU (aD aG rfl T.len cY (ab (aL aZ (aL bB (pv 0) (aL aZ (pv 3) ao (λ_ _=>rfl)) (λ_ _=>rfl)) ao (λ_ _=>rfl)) ag)) (aD aG rfl T.len cY (ab (pv 2) ag)) (bJ _)))))) (ak (aN je)) aQ)
  (ai (az (i:=4) nH.nd rfl (bC rfl) (aL aZ (aL bB (pv 0) (aL aZ (pv 3) ao (λ_ _=>rfl)) (λ_ _=>rfl)) ao (λ_ _=>rfl)))
  (ai (az (i:=5) nH.nd rfl (bC rfl) (aI mz (aD aG rfl T.len cY (ab (pv 2) ag)) (aD aG rfl T.len cY (ab (pv 4) ag))))
  (ai (bL cg rfl (gM rfl T.Cw (ab (aD aG rfl T.len cY (ab (pv 4) ag)) ag)) (aq (i:=6) nH.nd rfl (bC rfl))
   (ai (az (i:=7) nH.nd rfl (bC rfl) (aL bB (pv 2) (aI du (pv 5) (pv 6)) (λ_ _=>rfl)))
   (ak (bI (aX lG (aL aZ (pv 4) (pv 6) (λ_ _=>rfl)) (pv 1) rfl)
    (ak (bI (PW.pt (lY (iE (eI (aD di rfl T.Gn kF (ab (pv 7) (ab (g_ (v:=.ty "tuple") rfl T.tup mX rfl) ag))))) (jS (aX uA (aL aZ (aL bB (pv 0) (aL aZ (pv 7) ao (λ_ _=>rfl)) (λ_ _=>rfl)) ao (λ_ _=>rfl)) (aL aZ (pv 4) (pv 6) (λ_ _=>rfl)) (bJ _))))) (ak (aN je)) aQ))
    (ak (bI (PW.pt (lY (iE (eI (aD di rfl T.Gn kF (ab (pv 7) (ab (g_ (v:=.ty "str") rfl T.str lh rfl) ag))))) (jS (aX uA (pv 7) (aL aZ (pv 4) (pv 6) (λ_ _=>rfl)) (bJ _))))) (ak (aN je)) aQ))))))
  (ak (aN (aI dH (bY dq (pv 2) dr (bS (pv 5))) (a_ (ab (bo (ab (aL aZ (pv 3) ao (λ_ _=>rfl)) (ab (bc dQ rfl T.tup mX (ab (bY dq (pv 2) (bS (pv 5)) dr) ag)) ag))) ag)))))))))),?_⟩
 nofun
 cases de with
 | d y =>
  cases y with
  | step z =>
   have hv:aS K H a [.str "step",.str z]:=aS.of hv;refine⟨_,rfl,a,_,rfl,.inr hv,rfl,false,rfl,?_⟩;refine cT ?_;refine⟨_,rfl,a,_,_,_,rfl,rfl,hv,rfl,iP,λL hL=>?_⟩;have s1:=af hL (.lst [V.str "step",V.str "make"]);refine⟨L,_,rfl,.inl (aH.of ae),rfl,rfl,false,(by decide +kernel),?_⟩;refine cT ?_;generalize upd H L (.lst [V.str "step",V.str "make"])=H1 at s1;refine⟨_,rfl,a,_,_,_,rfl,rfl,s1.tup hv,rfl,rfl,true,rfl,?_⟩;refine d0 ?_;refine⟨_,rfl,_,rfl,a,_,_,_,rfl,rfl,s1.tup hv,rfl,qg,λL2 GQ=>?_⟩;have s2:=s1.trans (af GQ (.lst [V.str z]));have e2:upd H1 L2 (.lst [V.str z]) L2=some (.lst [V.str z]):=ae;generalize upd H1 L2 (.lst [V.str z])=H2 at s2 e2;refine⟨Pl,L2,_,_,rfl,rfl,s2 _ _ M.hP,e2,fits (by show us.length+1<=1000000;omega),λP' K5=>?_⟩;have s3:=s2.trans (af K5 (.lst (us++[V.str z])));refine q1 P' _ _ (ts++[.w z]) s3 rfl (s2.free K5) ae ?_ (by rw [a9];simp);refine aW (lC.keep (λ_ _ z=>s3.tup z) M.pl) (.cons (.inl (by unfold fV;rfl)) .nil)
  | make k =>
   have hv:aS K H a [.str "make",.int (k:Int)]:=aS.of hv;have lk:k < aa.length:=ok;refine⟨_,rfl,a,_,rfl,.inr hv,rfl,false,rfl,?_⟩;refine cT ?_;refine⟨_,rfl,a,_,_,_,rfl,rfl,hv,rfl,iP,λL hL=>?_⟩;have s1:=af hL (.lst [V.str "step",V.str "make"]);refine⟨L,_,rfl,.inl (aH.of ae),rfl,rfl,false,(by decide +kernel),?_⟩;refine cT ?_;generalize upd H L (.lst [V.str "step",V.str "make"])=H1 at s1;have C5:=s1.tup hv;have M1:=M.same s1;refine⟨_,rfl,a,_,_,_,rfl,rfl,C5,rfl,rfl,false,rfl,?_⟩;refine cT ?_;have ll:=aU M.cy;have er:aa[k]?=some aa[k]:=dG lk;generalize iY:aa[k]=ru at er;have h8:=M.sh ru (b9 er);obtain⟨r,err,p,v1,v2⟩:=Paired.at_ M1.cy k ru er;have uZ:jZ (rs.map V.ref) (k:Int)=some (.ref r):=bZ (by rw [bz,err];rfl);have PX:∀gI,sS aa ts (.d (.make k))=some gI->ru.2.length<=ts.length/\i0 aa (ts.drop (ts.length - ru.2.length)) ru.2=true:=λgI e=>by
    obtain⟨H_,e1,e2,e3,_⟩:=ik (show fM aa k ts=some gI from e);rw [er] at e1;cases e1;exact⟨e2,e3⟩
   have none_of:(∀gI,sS aa ts (.d (.make k))≠some gI)->sS aa ts (.d (.make k))=none:=λh=>by
    cases e:sS aa ts (.d (.make k)) with
    | none=>rfl
    | some x=>exact absurd e (h x)
   refine⟨_,rfl,a,_,_,_,rfl,rfl,C5,rfl,_,rfl,.inl ⟨(k:Int),rfl,true,rfl,?_⟩⟩;refine cT ?_;refine⟨_,rfl,a,_,_,_,rfl,rfl,C5,rfl,_,_,rfl,rfl,_,rfl,?_⟩;refine cf (λ_=>?_) (λc=>absurd (bh ∅) c);refine⟨_,rfl,R,_,rfl,.inl M1.hR,_,_,rfl,rfl,true,?_,?_⟩
   .show V.bl (decide ((k:Int) < ((rs.map V.ref).length:Int)))=V.bl true;rw [au,bh ∅]
   refine cT ?_;refine⟨_,rfl,_,rfl,a,_,_,_,rfl,rfl,C5,rfl,R,_,_,_,rfl,rfl,M1.hR,uZ,r,_,_,_,rfl,rfl,v1,rfl,p,_,rfl,.inr v2,_,rfl,Pl,_,rfl,.inl (aH.of M1.hP),_,_,rfl,rfl,_,rfl,?_⟩;refine cf (λc=>?_) (λc=>?_)
   .have c':=cZ c;rw [au] at c';refine q0 H1 s1 (none_of λgI e=>?_);have:=(PX gI e).1;omega
   have c':¬(us.length:Int) < ((ru.2.map V.str).length:Int):=λz=>c (bh z);rw [au] at c';have lle:ru.2.length<=us.length:=by omega
   refine⟨_,rfl,_,rfl,a,_,_,_,rfl,rfl,C5,rfl,R,_,_,_,rfl,rfl,M1.hR,uZ,r,_,_,_,rfl,rfl,v1,rfl,?_⟩;refine⟨_,rfl,Pl,_,rfl,.inl (aH.of M1.hP),_,rfl,p,_,rfl,.inr v2,_,_,rfl,rfl,?_⟩;have QG:(us.length:Int) - ((ru.2.map V.str).length:Int)=((us.length - ru.2.length:Nat):Int):=by rw [au];omega
   refine⟨_,rfl,p,_,rfl,.inr v2,((ru.2.map V.str).length:Int),rfl,by rw [au];omega,by rw [au];omega,?_⟩;rw [show (((ru.2.map V.str).length:Nat):Int).toNat=ru.2.length by rw [au];exact kx _];refine gP (n:=ru.2.length) (λi σ H5=>∃(y6 y7:Option V),σ=[aM R,aM N,aM Pl,aM a,aM p,some (.int ((us.length - ru.2.length:Nat):Int)),y6,y7]/\aA H1 H5 /\
    ∀(j:Nat) t x,j < i->ts[us.length - ru.2.length+j]?=some t->ru.2[j]?=some x->gC aa t x=true) ⟨none,none,congrArg (λz:Int=>[some (V.ref R),aM N,aM Pl,aM a,aM p,some (.int z),none,none]) QG,aA.refl H1,λj _ _ h=>∅⟩ ?_ ?_
   .intro i σ H5 hi jW
    ac_nf0
    obtain⟨y6,y7,rfl,s5,fa⟩:=jW;have M5:=M1.same s5;obtain⟨x,ex⟩:∃x,ru.2[i]?=some x:=⟨ru.2[i],dG hi⟩;have lt:us.length - ru.2.length+i < ts.length:=by omega
    have et:ts[us.length - ru.2.length+i]?=some (ts[us.length - ru.2.length+i]'lt):=dG lt;obtain⟨u,eu,tv⟩:=Paired.at_ M5.pl _ _ et;generalize ts[us.length - ru.2.length+i]'lt=t0 at et tv;have atu:jZ us (((us.length - ru.2.length:Nat):Int)+(0+(i:Int)))=some u:=by
     rw [j6,show ((us.length - ru.2.length:Nat):Int)+(i:Int)=((us.length - ru.2.length+i:Nat):Int) by push_cast;rfl];exact bZ eu
    have Xp:jZ (ru.2.map V.str) (0+(i:Int))=some (.str x):=by
     rw [j6];exact bZ (by rw [bz,ex];rfl)
    have TF:=s5.tup v2;have bad:gC aa t0 x=false->Q .fg H5:=λh=>q0 H5 (s1.trans s5) (none_of λgI e=>by
     obtain⟨a1,a2⟩:=PX gI e;have a3:(ts.drop (ts.length - ru.2.length))[i]?=some t0:=by
      rw [q9,<-et]
      congr 1
      omega
     rw [wL a2 a3 ex] at h;cases h)
    have good:gC aa t0 x=true->∃(y6' y7':Option V),[some (V.ref R),aM N,aM Pl,aM a,aM p,some (.int ((us.length - ru.2.length:Nat):Int)),some (.int (0+(i:Int))),some u]=[aM R,aM N,aM Pl,aM a,aM p,some (.int ((us.length - ru.2.length:Nat):Int)),y6',y7']/\aA H1 H5 /\
      ∀(j:Nat) t x,j < i+1->ts[us.length - ru.2.length+j]?=some t->ru.2[j]?=some x->gC aa t x=true:=λh=>⟨_,_,rfl,s5,λj t x2 hj e1 e2=>by
     by_cases cj:j < i
     .exact fa j t x2 cj e1 e2
     have:j=i:=by omega
     subst this;rw [et] at e1;rw [ex] at e2;cases e1;cases e2;exact h⟩
    refine goN ?_
    ac_rfl
    refine⟨_,rfl,_,rfl,_,rfl,_,_,rfl,rfl,Pl,_,_,_,rfl,rfl,aH.of M5.hP,atu,?_⟩;refine⟨_,rfl,_,rfl,p,_,_,_,rfl,rfl,TF,Xp,_,rfl,N,_,rfl,.inl (aH.of M5.hN),rfl,cU _,_,rfl,?_⟩;rw [fU];show if decide (x∈hm aa)=true then _ else _;refine cf (λch=>?_) (λch=>?_)
    .have YY:decide (x∈hd aa)=true:=bh (kb.mp (cZ ch));cases t0 with
     | w z =>
      rcases tv with tv | ⟨n,h,rfl,e,hh⟩
      rotate_left
      .refine⟨_,rfl,.int n,"int","tuple",false,rfl,.int n,Gf,false,rfl,?_⟩;refine d0 ?_;exact bad (by rw [e];exact jD hh)
      unfold fV at tv;subst tv;refine⟨_,rfl,.str z,"str","tuple",false,rfl,.str z,Ge,false,rfl,?_⟩;refine d0 ?_;refine bad ?_;show (!decide (x∈hd aa) && decide (z=x))=false;rw [YY];rfl
     | n k2 cs =>
      have Of:=M.top k2 cs (b9 et);replace tv:=tv.resolve_right λ⟨_,_,_,e,_⟩=>by cases e
      unfold fV at tv;obtain⟨a2,p3,vs,rfl,SH,hp3,_⟩:=tv;have G5:aa[k2]?=some aa[k2]:=dG Of;obtain⟨r2,Wx,p4,w1,w2⟩:=Paired.at_ M5.cy k2 _ G5;have Xr:jZ (rs.map V.ref) (k2:Int)=some (.ref r2):=bZ (by rw [bz,Wx];rfl);have ef:gC aa (.n k2 cs) x=decide (aa[k2].1=x):=by
       have eh:sg aa k2=some aa[k2].1:=by unfold sg;rw [G5];rfl
       show (decide (x∈hd aa) && decide (sg aa k2=some x))=_;rw [YY,eh,jn];by_cases h:aa[k2].1=x
       .rw [bh (congrArg some h),bh h]
       rw [b0 (λz=>h (ir z)),b0 h]
      refine⟨_,rfl,.ref a2,"tuple","tuple",true,rfl,.tup SH,eQ,true,rfl,?_⟩;refine cT ?_;refine⟨_,rfl,_,rfl,a2,_,_,_,rfl,rfl,SH,rfl,R,_,_,_,rfl,rfl,M5.hR,Xr,r2,_,_,_,rfl,rfl,w1,rfl,_,rfl,_,rfl,p,_,_,_,rfl,rfl,TF,Xp,rfl,!decide (aa[k2].1=x),?_,?_⟩
      .show V.bl (!decide (V.str aa[k2].1=V.str x))=_;by_cases h:aa[k2].1=x
       .rw [bh h,bh (congrArg V.str h)]
       rw [b0 h,b0 (λy=>h (by injection y))]
      refine cf (λc3=>?_) (λc3=>?_)
      .exact bad (by rw [ef];simpa using c3)
      exact good (by rw [ef];simpa using c3)
    have PZ:decide (x∈hd aa)=false:=b0 λh=>ch (bh (kb.mpr h));cases t0 with
    | w z =>
     rcases tv with tv | ⟨n,h,rfl,e,hh⟩
     rotate_left
     .refine⟨_,rfl,.int n,"int","str",false,rfl,.int n,kit_is,false,rfl,?_⟩;refine d0 ?_;exact bad (by rw [e];exact jD hh)
     unfold fV at tv;subst tv;have ef:gC aa (.w z) x=decide (z=x):=by
      show (!decide (x∈hd aa) && decide (z=x))=_;rw [PZ];rfl
     refine⟨_,rfl,.str z,"str","str",true,rfl,.str z,eQ,true,rfl,?_⟩;refine cT ?_;refine⟨_,rfl,_,rfl,_,rfl,p,_,_,_,rfl,rfl,TF,Xp,rfl,!decide (z=x),?_,?_⟩
     .show V.bl (!decide (V.str z=V.str x))=_;by_cases h:z=x
      .rw [bh h,bh (congrArg V.str h)]
      rw [b0 h,b0 (λy=>h (by injection y))]
     refine cf (λc3=>?_) (λc3=>?_)
     .exact bad (by rw [ef];simpa using c3)
     exact good (by rw [ef];simpa using c3)
    | n k2 cs =>
     replace tv:=tv.resolve_right λ⟨_,_,_,e,_⟩=>by cases e
     unfold fV at tv;obtain⟨a2,p3,vs,rfl,SH,hp3,_⟩:=tv;refine⟨_,rfl,.ref a2,"tuple","str",false,rfl,.tup SH,wB,false,rfl,?_⟩;refine d0 ?_;refine bad ?_;show (decide (x∈hd aa) && decide (sg aa k2=some x))=false;rw [PZ];rfl
   rintro σ H5 ⟨y6,y7,rfl,s5,fa⟩;have M5:=M1.same s5;have lr:us.length - ru.2.length<=us.length:=by omega
   have fl:i0 aa (ts.drop (ts.length - ru.2.length)) ru.2=true:=qH (by rw [ff];omega) λi t x e1 e2=>by
    have l2:=(bu.mp e2).1;rw [q9,<-lp] at e1;exact fa i t x l2 e1 e2
   have mk:sS aa ts (.d (.make k))=some (ts.take (ts.length - ru.2.length)++[.n k (gR.lL (ts.drop (ts.length - ru.2.length)))]):=by
    show fM aa k ts=_;unfold fM;rw [er];show (if (decide (ru.2.length<=ts.length) && i0 aa (ts.drop (ts.length - ru.2.length)) ru.2)=true then _ else none)=_;rw [ax (by rw [fl,bh ∅];rfl)]
   have xI:=s1.trans s5;refine⟨_,rfl,_,rfl,_,rfl,Pl,_,rfl,aH.of M5.hP,λL1 Ou=>?_⟩;rw [DE us _ lr];have s6:=af Ou (.lst (us.take (us.length - ru.2.length)));have e6:upd H5 L1 (.lst (us.take (us.length - ru.2.length))) L1=some (.lst (us.take (us.length - ru.2.length))):=ae;generalize upd H5 L1 (.lst (us.take (us.length - ru.2.length)))=H6 at s6 e6;refine⟨_,rfl,a,_,_,_,rfl,rfl,(s5.trans s6).tup C5,rfl,_,rfl,_,rfl,_,rfl,Pl,_,rfl,aH.of (s6 _ _ M5.hP),λL2 GQ=>?_⟩;rw [DF us _ lr];have s7:=s6.trans (af GQ (.lst (us.drop (us.length - ru.2.length))));have e67:=af GQ (.lst (us.drop (us.length - ru.2.length))) _ _ e6;have e7:upd H6 L2 (.lst (us.drop (us.length - ru.2.length))) L2=some (.lst (us.drop (us.length - ru.2.length))):=ae;generalize upd H6 L2 (.lst (us.drop (us.length - ru.2.length)))=H7 at s7 e67 e7;refine⟨L2,_,rfl,.inl ⟨aH.of e7,λt2 jl=>⟨iP,λnd Ih=>⟨qg,λL3 Wb=>?_⟩⟩⟩⟩;have k9:=(af jl (.tup (us.drop (us.length - ru.2.length)))).trans ((af Ih (.tup [.int (k:Int),.ref t2])).trans (af Wb (.lst [V.ref nd])));have vt:aS K (upd (upd (upd H7 t2 (.tup (us.drop (us.length - ru.2.length)))) nd (.tup [.int (k:Int),.ref t2])) L3 (.lst [V.ref nd])) t2 (us.drop (us.length - ru.2.length)):=((af Ih _).trans (af Wb _)).tup (aS.of ae);have vn:aS K (upd (upd (upd H7 t2 (.tup (us.drop (us.length - ru.2.length)))) nd (.tup [.int (k:Int),.ref t2])) L3 (.lst [V.ref nd])) nd [.int (k:Int),.ref t2]:=(af Wb _).tup (aS.of ae);have e9:upd (upd (upd H7 t2 (.tup (us.drop (us.length - ru.2.length)))) nd (.tup [.int (k:Int),.ref t2])) L3 (.lst [V.ref nd]) L3=some (.lst [V.ref nd]):=ae;generalize upd (upd (upd H7 t2 (.tup (us.drop (us.length - ru.2.length)))) nd (.tup [.int (k:Int),.ref t2])) L3 (.lst [V.ref nd])=H9 at k9 vt vn e9;refine⟨L1,L3,_,_,rfl,rfl,k9 _ _ e67,e9,fits (by rw [bO];show _+1<=1000000;omega),λP' K5=>?_⟩;have Yd:=s7.trans k9;have kA:=af K5 (.lst (us.take (us.length - ru.2.length)++[V.ref nd]));have sA:=(xI.trans Yd).trans kA;have Ym:=lC.keep (λ_ _ z=>sA.tup z) M.pl;refine q1 P' _ _ _ sA mk ((xI.trans Yd).free K5) ae ?_ (by rw [a9,bO,gw];omega);rw [<-lp];refine aW (dB Ym _) (.cons (.inl ?_) .nil);rw [<-lp] at fl;unfold fV;exact⟨nd,t2,us.drop (us.length - ru.2.length),rfl,kA.tup vn,kA.tup vt,hX.PR (Fg (dC Ym _) fl)⟩
 | si n =>
  have hv:aS K H a [.str "step",.int n]:=aS.of hv;refine⟨_,rfl,a,_,rfl,.inr hv,rfl,false,rfl,?_⟩;refine cT ?_;refine⟨_,rfl,a,_,_,_,rfl,rfl,hv,rfl,iP,λL hL=>?_⟩;have s1:=af hL (.lst [V.str "step",V.str "make"]);refine⟨L,_,rfl,.inl (aH.of ae),rfl,rfl,false,(by decide +kernel),?_⟩;refine cT ?_;generalize upd H L (.lst [V.str "step",V.str "make"])=H1 at s1;refine⟨_,rfl,a,_,_,_,rfl,rfl,s1.tup hv,rfl,rfl,true,rfl,?_⟩;refine d0 ?_;refine⟨_,rfl,_,rfl,a,_,_,_,rfl,rfl,s1.tup hv,rfl,qg,λL2 GQ=>?_⟩;have s2:=s1.trans (af GQ (.lst [V.int n]));have e2:upd H1 L2 (.lst [V.int n]) L2=some (.lst [V.int n]):=ae;generalize upd H1 L2 (.lst [V.int n])=H2 at s2 e2;refine⟨Pl,L2,_,_,rfl,rfl,s2 _ _ M.hP,e2,fits (by show us.length+1<=1000000;omega),λP' K5=>?_⟩;have s3:=s2.trans (af K5 (.lst (us++[V.int n])));refine q1 P' _ _ (ts++[.w (hz aa)]) s3 rfl (s2.free K5) ae ?_ (by rw [a9];simp);refine aW (lC.keep (λ_ _ z=>s3.tup z) M.pl) (.cons (.inr ⟨n,hz aa,rfl,rfl,K0 M.ne⟩) .nil)
 | no =>
  obtain⟨xs,hv,bd⟩:=hv;have hv:aS K H a xs:=aS.of hv;rcases bd with ⟨z,rfl,_⟩ | ⟨z,y,rfl,n1,n2⟩ | ⟨y,rfl,hn⟩
  .refine⟨_,rfl,a,_,rfl,.inr hv,rfl,true,rfl,?_⟩;refine d0 ?_;exact q0 H (aA.refl H) rfl
  .refine⟨_,rfl,a,_,rfl,.inr hv,rfl,false,rfl,?_⟩;refine cT ?_;refine⟨_,rfl,a,_,_,_,rfl,rfl,hv,rfl,iP,λL hL=>?_⟩;have s1:=af hL (.lst [V.str "step",V.str "make"]);refine⟨L,_,rfl,.inl (aH.of ae),rfl,rfl,true,?_,?_⟩
   .show V.bl (!KZ (.str z) ((["step","make"]:List Str).map V.str))=V.bl true;rw [fU,b0 (λh=>by rcases bW.mp h with h | h;exact n1 h;exact n2 (bF.mp h))]
    rfl
   refine d0 ?_;exact q0 _ s1 rfl
  refine⟨_,rfl,a,_,rfl,.inr hv,rfl,false,rfl,?_⟩;refine cT ?_;refine⟨_,rfl,a,_,_,_,rfl,rfl,hv,rfl,iP,λL hL=>?_⟩;have s1:=af hL (.lst [V.str "step",V.str "make"]);refine⟨L,_,rfl,.inl (aH.of ae),rfl,rfl,false,(by decide +kernel),?_⟩;refine cT ?_;generalize upd H L (.lst [V.str "step",V.str "make"])=H1 at s1;have C5:=s1.tup hv;have M1:=M.same s1;have ll:=aU M.cy;refine⟨_,rfl,a,_,_,_,rfl,rfl,C5,rfl,rfl,false,rfl,?_⟩;refine cT ?_;rcases hn with ⟨n,rfl,hn⟩ | hn
  .refine⟨_,rfl,a,_,_,_,rfl,rfl,C5,rfl,_,rfl,.inl ⟨n,rfl,true,rfl,?_⟩⟩;refine cT ?_;refine⟨_,rfl,a,_,_,_,rfl,rfl,C5,rfl,_,_,rfl,rfl,_,rfl,?_⟩;refine cf (λc=>?_) (λc=>?_)
   .refine⟨_,rfl,R,_,rfl,.inl M1.hR,_,_,rfl,rfl,false,?_,?_⟩
    .show V.bl (decide (n < ((rs.map V.ref).length:Int)))=V.bl false;rw [au,b0 (λl=>hn ⟨cZ c,by rw [<-ll];exact l⟩)]
    refine d0 ?_;exact q0 _ s1 rfl
   refine⟨false,rfl,?_⟩;refine d0 ?_;exact q0 _ s1 rfl
  refine⟨_,rfl,a,_,_,_,rfl,rfl,C5,rfl,_,rfl,.inr ⟨hn,false,rfl,?_⟩⟩;refine d0 ?_;exact q0 _ s1 rfl
 | dn =>
  have hv:aS K H a [.str "done"]:=aS.of hv;refine⟨_,rfl,a,_,rfl,.inr hv,rfl,true,rfl,?_⟩;refine d0 ?_;exact q0 H (aA.refl H) rfl
end
end hU
namespace L2
open PySem PySem.Spec PyProof.Rows
def Mo {X:Cx}(n:Nat)(hu:X.A.units+(n+1) < cLine):jG X (compareOp .Eq) (PD X.K true n):=by
 intro ah s σ H x y v u Q I rx ry h;obtain⟨a,b,xs,ys,rfl,rfl,ha,hb,p,q⟩:=h;cases rx;cases ry;obtain⟨aT,r,pl,hz⟩:=I.list ha;obtain⟨dF,r2,uw,Qu⟩:=I.list hb;have l1:=r.length;have l2:=r2.length;have lp:=aU p;refine SeqAt.eq_listAt (e:=λ_=>true) pl.isList uw.isList (by simp only [bX];omega) ∅ (λj h1 h2=>jF r r2 p (λx y u v d r1 r2=>sV I n X.A.in1 x y u v d r1 r2 (by rw [mn];omega)) j h1 h2) ?_;have e:((List.range aT.toArray.size).all λ_=>true)=true:=by simp
 rw [e];exact⟨.bl true,H,I,rfl,q⟩
def Mf (K:ba) (n:Nat):V->V->Hp->VK->Prop:=λx y H Q=>∃p q xs ys,x=.ref p/\y=.ref q/\aS K H p xs/\aS K H q ys/\Paired (DY K H n) xs ys/\Q (.bl false) H
def xT {X:Cx}(n:Nat)(hu:X.A.units+(n+1) < cLine):jG X (compareOp .NotEq) (Mf X.K n):=by
 intro ah s σ H x y v u Q I rx ry h;obtain⟨a,b,xs,ys,rfl,rfl,ha,hb,p,q⟩:=h;cases rx;cases ry;obtain⟨aT,r,pl,hz⟩:=I.tuple ha;obtain⟨dF,r2,uw,Qu⟩:=I.tuple hb;have l1:=r.length;have l2:=r2.length;have lp:=aU p;refine SeqAt.RcNeAt.tuples (e:=λ_=>true) pl uw ∅ (λj h1 h2=>jF r r2 p (λx y u v d r1 r2=>sV I n X.A.in1 x y u v d r1 r2 (by rw [mn];omega)) j h1 h2) X.prog X.w X.xe _ ?_;have e:(!((List.range (min aT.toArray.size dF.toArray.size)).all (λ_=>true) && aT.toArray.size == dF.toArray.size))=false:=by
  have:aT.toArray.size=dF.toArray.size:=by simp only [bX];omega
  rw [this];simp
 rw [e];exact⟨.bl false,H,I,rfl,q⟩
end L2
namespace hU
open PySem L2 M11
theorem vJ:∀(ts:gR)(t:Tr),t∈ts.jk->sz t<=EA ts
 | .nil,t,h=>by cases h
 | .cons u r,t,h=>by
  unfold EA;rcases bW.mp h with e | e
  .rw [e];omega
  have:=vJ r t e;omega
abbrev LX:Stmt:=top 61
abbrev wa:Stmt:=top 57
section
def Ko (K:ba):Sp:=λvs H Q _=>∃(R L:Addr)(rs as:List Addr)(aa:List ar)(es:List De),vs=[.ref R,.ref L]/\aH K H R (rs.map V.ref)/\bK K H rs aa/\(∀ru∈aa,ru.2.length<=8)/\aa.length<=1000/\aa≠[]/\aH K H L (as.map V.ref)/\lR aa.length H as es/\(∀d∈es,jH aa d)/\es.length<=90000 /\
 ∀H',aA H H'->(resT aa es=none->Q .fg H')/\∀t v,resT aa es=some t->fV K H' t v->Q v H'
def xF:aK ["_law_rules","_law_deeds_here","_law_heads","_law_pile","_law_deed"] ["_law_rules","_law_deeds_here"] (av LX):=iM rfl rfl rfl rfl (by decide +kernel)
def Mv (F:iB K "_law_due" "_law_due" LX f fd)(T:Txt mg)(GP:aC P w K mg base 2 "_law_piled" ["_law_rules","_law_heads","_law_pile","_law_deed"] (Bi K)):bR P w K mg base gk 3 f fd ["_law_rules","_law_deeds_here"] (Ko K):=by
 refine F.ok xF (λvs H Q E h=>?_) (λeX A outer s H vs Q E hr h=>?_)
 .obtain⟨R,L,rs,as,aa,es,rfl,_⟩:=h;rfl
 obtain⟨R,L,rs,as,aa,es,rfl,hR,cy,h8,bE,qF,hL,D0,JW,dl,q⟩:=h;have yf:=gh hr;refine⟨_,ai (i9 (iy:=2) ["_law_head","_law_parts"] [] xF.nd rfl rfl rfl (a8 (pv 0)) (br rfl rfl) (by decide +kernel) rfl (by decide +kernel)
   (λ_ _ _ _ _=>fR (n:=2) K rfl (aB (aq (i:=0) (show (["_law_head","_law_parts"]:List Str).Nodup by decide +kernel) rfl (bC rfl)) (aB (aq (i:=1) (show (["_law_head","_law_parts"]:List Str).Nodup by decide +kernel) rfl (bC rfl)) b_))) (λ_ _ _ _ _=>b8) (λ_ _ _ _ _=>pv 0))
  (ai (az (i:=3) xF.nd rfl (bC rfl) (a_ ag))
  (ai (bI (aX (xS yf) (bY dq (pv 1) (bS (ka iD ao)) dr) (a_ (ab (bo (ab bx ag)) ag)) (bJ _)) (ak (aN je)) aQ)
  (ai (bL cg rfl (a8 (bY dq (pv 1) dr (bS (ka iD ao)))) (aq (i:=4) xF.nd rfl (bC rfl))
   (ai (az (i:=3) xF.nd rfl (bC rfl) (bp GP hr rfl (ab (pv 0) (ab (pv 2) (ab (pv 3) (ab (pv 4) ag))))))
   (ak (bI (eJ (Fu (pv 3))) (ak (aN je)) aQ))))
  (ai (bI (PW.pt (lY (aX uA (aD aG rfl T.len cY (ab (pv 3) ag)) ao (bJ _)) (jS (iE (eI (aD di rfl T.Gn kF (ab (aL bB (pv 3) ao (λ_ _=>rfl)) (ab (g_ (v:=.ty "tuple") rfl T.tup mX rfl) ag)))))))) (ak (aN je)) aQ)
  (ak (aN (aL bB (pv 3) ao (λ_ _=>rfl)))))))),?_⟩
 nofun
 have ll:=aU cy;refine⟨_,rfl,R,rfl,⟨_,hR⟩,λN hN=>jY hR cy ∅ hN λH1 s1 eN=>?_⟩;refine goN ?_
 ac_rfl
 refine⟨rq,λPl Q0=>?_⟩;have k2:=af Q0 (.lst []);have OE:=k2 _ _ eN;have ZX:upd H1 Pl (.lst []) Pl=some (.lst []):=ae;generalize upd H1 Pl (.lst [])=H2 at k2 OE ZX;have s2:=s1.trans k2;refine goN ?_
 ac_rfl
 refine⟨_,rfl,_,rfl,_,rfl,L,_,rfl,s2.seq hL,λC1 Ni=>?_⟩;have Sm:=aU D0;by_cases ca:as=[]
 .subst ca;have ee:es=[]:=zh.mp Sm.symm;subst ee;have Og:=af Ni (.lst (d8 (([]:List Addr).map V.ref) (some (-1)) none));have e1:upd H2 C1 (.lst (d8 (([]:List Addr).map V.ref) (some (-1)) none)) C1=some (.lst []):=ae;generalize upd H2 C1 (.lst (d8 (([]:List Addr).map V.ref) (some (-1)) none))=N2 at Og e1;refine⟨qg,λt1 BN=>⟨qg,λC2 yX=>?_⟩⟩;have k3:=(af BN (.tup [V.str "done"])).trans (af yX (.lst [V.ref t1]));have et:aS K (upd (upd N2 t1 (.tup [V.str "done"])) C2 (.lst [V.ref t1])) t1 [.str "done"]:=(af yX _).tup (aS.of ae);have BV:upd (upd N2 t1 (.tup [V.str "done"])) C2 (.lst [V.ref t1]) C2=some (.lst [V.ref t1]):=ae;generalize upd (upd N2 t1 (.tup [V.str "done"])) C2 (.lst [V.ref t1])=H4 at k3 et BV;refine⟨C1,C2,_,t1,_,rfl,rfl,aH.of (k3 _ _ e1),aH.of BV,et,rfl,.inl ⟨rfl,true,rfl,?_⟩⟩;refine d0 ?_;exact(q H4 (s2.trans (Og.trans k3))).1 rfl
 obtain⟨Eg,a0,AG,e0,rfl,rfl,DP,TC⟩:=pW D0 ca;rw [uP];obtain⟨Tx,K1,Wo,NO⟩:=TC.last;have Og:=af Ni (.lst [V.ref a0]);have e1:upd H2 C1 (.lst [V.ref a0]) C1=some (.lst [V.ref a0]):=ae;generalize upd H2 C1 (.lst [V.ref a0])=N2 at Og e1;refine⟨qg,λt1 BN=>⟨qg,λC2 yX=>?_⟩⟩;have na:a0≠t1:=λz=>by rw [<-z,(s2.trans Og) _ _ K1] at BN;cases BN
 have k3:=(af BN (.tup [V.str "done"])).trans (af yX (.lst [V.ref t1]));have et:aS K (upd (upd N2 t1 (.tup [V.str "done"])) C2 (.lst [V.ref t1])) t1 [.str "done"]:=(af yX _).tup (aS.of ae);have BV:upd (upd N2 t1 (.tup [V.str "done"])) C2 (.lst [V.ref t1]) C2=some (.lst [V.ref t1]):=ae;generalize upd (upd N2 t1 (.tup [V.str "done"])) C2 (.lst [V.ref t1])=H4 at k3 et BV;have YU:=Og.trans k3;have s4:=s2.trans YU;refine⟨C1,C2,_,t1,_,rfl,rfl,aH.of (k3 _ _ e1),aH.of BV,et,rfl,.inr ⟨a0,Tx,rfl,na,aS.of (s4 _ _ K1),Wo,_,rfl,?_⟩⟩;rcases NO with ⟨rfl,rfl⟩ | ⟨nd,NO⟩
 rotate_left
 .rw [NO];refine d0 ?_;refine(q H4 s4).1 ?_;unfold resT;rw [rm,xm];cases e0 with
  | dn=>exact absurd rfl nd
  | d x=>rfl
  | si n=>rfl
  | no=>rfl
 refine cT ?_;have q2:∀H',aA H H'->(jE (eY (sS aa) AG [])=none->Q .fg H')/\∀t v,jE (eY (sS aa) AG [])=some t->fV K H' t v->Q v H':=λH' s=>by
  have:=q H' s;unfold resT at this;rw [rm,xm,ua] at this;rw [o9 qF];exact this
 have NI:∀d∈AG,jH aa d:=λd h=>JW d (h_ _ h);have dl0:AG.length<=90000:=by rw [a9] at dl;omega
 refine⟨_,rfl,_,rfl,_,rfl,L,_,rfl,s4.seq hL,λC3 JP=>?_⟩;rw [uQ];have k5:=af JP (.lst (Eg.map V.ref));have He:upd H4 C3 (.lst (Eg.map V.ref)) C3=some (.lst (Eg.map V.ref)):=ae;generalize upd H4 C3 (.lst (Eg.map V.ref))=H5 at k5 He;have s5:=s4.trans k5;have YT:=YU.trans k5;have U9:=aU DP;refine⟨C3,rfl,⟨_,aH.of He⟩,?_⟩;refine cJ (xs:=Eg.map V.ref) (λi σ H9=>∃(Pl:Addr)(us:List V)(ts:List Tr)(y4:Option V),σ=[aM R,aM L,aM N,aM Pl,y4]/\aA H5 H9/\H9 Pl=some (.lst us)/\lC K H9 aa us ts/\eY (sS aa) (AG.take i) []=some ts/\us.length<=i) ⟨Pl,[],[],none,rfl,aA.refl H5,YT _ _ ZX,.nil,rfl,aF _⟩ ?_ ?_ ?_
 .rintro i σ H9 _ ⟨Pl,us,ts,y4,rfl,s9,_⟩;exact aH.of (s9 _ _ He)
 .intro i x σ H9 ex jW
  ac_nf0
  obtain⟨Pl,us,ts,y4,rfl,s9,xi,D_,o_,l9⟩:=jW;rw [bz] at ex;obtain⟨a,ea,rfl⟩:=cC.mp ex;have li:=(bu.mp ea).1;obtain⟨de,JT⟩:∃de,AG[i]?=some de:=⟨AG[i]'∅,dG ∅⟩;obtain⟨a',Ld,va⟩:=Paired.at_ DP i de JT;rw [ea] at Ld;cases Ld;have UA:=NI de (b9 JT);have Uz:=qz (λh e=>qf.sS h e) _ qf.nil o_;have R_:=s5.trans s9;have M9:RF K H9 R N Pl rs aa us ts:=⟨R_.seq hR,cy.same R_,s9 _ _ (YT _ _ OE),xi,D_,∅,qF,h8,bE,λj cs h=>Uz.top h⟩;refine goN ?_
  ac_rfl
  refine⟨_,rfl,_,rfl,_,rfl,_,rfl,R,N,Pl,a,rs,aa,us,ts,de,rfl,M9,va.same R_,UA,λHA sA e=>?_,λP' HA uc gI sA e fP' WQ Uy l'=>?_⟩
  .refine⟨_,rfl,_,rfl,?_⟩;refine d0 ?_;refine(q2 HA (R_.trans sA)).1 ?_;rw [uu JT o_ e];rfl
  refine⟨_,rfl,_,rfl,?_⟩;refine cT ?_;refine⟨P',uc,gI,_,rfl,s9.trans sA,WQ,Uy,?_,∅⟩;rw [ur JT o_,e]
 rintro σ H9 ⟨Pl,us,ts,y4,rfl,s9,xi,D_,o_,l9⟩;rw [au,U9,cE] at o_;have lp:=aU D_;have hq:=q2 H9 (s5.trans s9);rw [o_] at hq;refine⟨_,rfl,Pl,_,rfl,.inl (aH.of xi),rfl,!decide (us.length=1),?_,?_⟩
 .show V.bl (!decide (V.int (us.length:Int)=V.int 1))=V.bl (!decide (us.length=1));by_cases h:us.length=1
  .rw [bh h,bh (by rw [h];rfl)]
  rw [b0 h,b0 (λy=>h (by injection y with y2;omega))]
 refine cf (λc=>?_) (λc=>?_)
 .have n1:us.length≠1:=λh=>by rw [bh h] at c;cases c
  refine hq.1 ?_
  match ts,lp with
  | [],_=>rfl
  | [t],lp=>exact absurd lp n1
  | a::_::_,_=>cases a <;> rfl
 have l1:us.length=1:=by
  cases hh:decide (us.length=1) with
  | true=>exact cZ hh
  | false=>rw [hh] at c;exact absurd rfl c
 match us,ts,l1,lp,D_,xi,hq with
 | [u],[t],_,_,.cons tv .nil,xi,hq =>
  have qJ:jZ [u] 0=some u:=bZ (j:=0) rfl;cases t with
  | w z =>
   rcases tv with tv | ⟨n,h,rfl,e,hh⟩
   rotate_left
   .refine⟨_,rfl,Pl,_,_,_,rfl,rfl,aH.of xi,qJ,.int n,"int","tuple",false,rfl,.int n,Gf,false,rfl,?_⟩;refine d0 ?_;exact hq.1 rfl
   unfold fV at tv;subst tv;refine⟨_,rfl,Pl,_,_,_,rfl,rfl,aH.of xi,qJ,.str z,"str","tuple",false,rfl,.str z,Ge,false,rfl,?_⟩;refine d0 ?_;exact hq.1 rfl
  | n k cs =>
   replace tv:=tv.resolve_right λ⟨_,_,_,e,_⟩=>by cases e
   have HW:=tv;unfold fV at HW;obtain⟨a,p,vs,rfl,ha,hp,_⟩:=HW;refine⟨_,rfl,Pl,_,_,_,rfl,rfl,aH.of xi,qJ,.ref a,"tuple","tuple",true,rfl,.tup ha,eQ,true,rfl,?_⟩;refine cT ?_;exact⟨_,rfl,Pl,_,_,_,rfl,rfl,aH.of xi,qJ,hq.2 _ _ rfl tv⟩
def nu (K:ba) (n:Nat):Sp:=λvs H Q _=>∃(v:V)(t:Tr),vs=[v]/\fV K H t v/\dp t < n/\sz t<=100000/\∀(D:Addr)(as:List Addr)(H':Hp),H D=none->aA H H'->H' D=some (.lst (as.map V.ref))->Paired (λa d=>H' a=some (.tup (W5 d))) as (jK t)->Q (.ref D) H'
def nI:aK ["_law_tree_here","_law_deeds_here","_law_child"] ["_law_tree_here"] (av wa):=iM rfl rfl rfl rfl (by decide +kernel)
theorem uC (F:iB K "_law_deeds" "_law_deeds" wa f fd)(T:Txt mg)(b1:Binds K fd ["_law_tree_here"] [])(m1:mg "_law_deeds"=some (.ref f)):∀n,bR P w K mg base gk n f fd ["_law_tree_here"] (nu K n)
 | 0=>⟨λvs H Q E ⟨_,_,e,_⟩=>by rw [e];rfl,λA outer s H args us vs Q E _ _ _ _ ⟨_,_,_,_,h,_⟩=>absurd h (Nat.not_lt_zero _)⟩
 | n+1=>by
  have G:aC P w K mg base n "_law_deeds" ["_law_tree_here"] (nu K n):=⟨f,fd,uC F T b1 m1 n,b1,F.kp,m1⟩;refine F.ok nI (λvs H Q E h=>?_) (λeX A outer s H vs Q E hr h=>?_)
  .obtain⟨_,_,rfl,_⟩:=h;rfl
  obtain⟨v,t,rfl,ht,Zl,hsz,q⟩:=h;refine⟨_,ai (bI (eI (aD di rfl T.Gn kF (ab (pv 0) (ab (g_ (v:=.ty "str") rfl T.str lh rfl) ag)))) (ak (aN (a_ (ab (bo (ab bx (ab (pv 0) ag))) ag)))) aQ)
   (ai (az (i:=1) nI.nd rfl (bC rfl) (a_ ag))
   (ai (bL cg rfl (fZ (aL aZ (pv 0) ao (λ_ _=>rfl))) (aq (i:=2) nI.nd rfl (bC rfl))
    (ak (az (i:=1) nI.nd rfl (bC rfl) (aI dH (pv 1) (bp G hr rfl (ab (pv 2) ag))))))
   (ak (aN (aI dH (pv 1) (a_ (ab (bo (ab bx (ab (aL aZ (pv 0) ao (λ_ _=>rfl)) ag))) ag))))))),?_⟩
  nofun
  cases t with
  | w z =>
   unfold fV at ht;subst ht;refine⟨_,rfl,.str z,"str","str",true,rfl,.str z,eQ,true,rfl,?_⟩;refine d0 ?_;refine⟨_,rfl,iP,λu hu=>⟨qg,λD hD=>?_⟩⟩;have k1:=af hu (.tup [V.str "step",V.str z]);have e1:upd H u (.tup [V.str "step",V.str z]) u=some (.tup [.str "step",.str z]):=ae;generalize upd H u (.tup [V.str "step",V.str z])=H1 at k1 e1 hD;refine q D [u] _ (k1.free hD) (k1.trans (af hD _)) ae ?_;unfold jK;exact .cons ((af hD _) _ _ e1) .nil
  | n k cs =>
   have YF:=oz (.n k cs);unfold fV at ht;obtain⟨a,p,us,rfl,ha,hp,GA⟩:=ht;have Yn:=hX.paired cs GA;have lcs:=aU Yn;have wI:1+xj cs < n+1:=by unfold dp at Zl;exact Zl
   have hs1:1+EA cs<=100000:=by unfold sz at hsz;exact hsz
   refine⟨_,rfl,.ref a,"tuple","str",false,rfl,.tup ha,wB,false,rfl,?_⟩;refine cT ?_;refine⟨rq,λL hL=>?_⟩;have k1:=af hL (.lst []);have e1:upd H L (.lst []) L=some (.lst []):=ae;generalize upd H L (.lst [])=H1 at k1 e1;refine⟨_,rfl,a,_,_,_,rfl,rfl,k1.tup ha,rfl,p,rfl,⟨_,k1.tup hp⟩,?_⟩;refine oo (xs:=us) (λi σ H5=>∃(D:Addr)(as:List Addr)(y2:Option V),σ=[aM a,aM D,y2]/\aA H H5/\H D=none/\H5 D=some (.lst (as.map V.ref))/\Paired (λa d=>H5 a=some (.tup (W5 d))) as ((cs.jk.take i).flatMap jK)) ⟨L,[],none,rfl,k1,hL,e1,.nil⟩ ?_ ?_ ?_
   .rintro i σ H5 _ ⟨D,as,y2,rfl,s5,_⟩;exact s5.tup hp
   .intro i x σ H5 ex jW
    ac_nf0
    obtain⟨D,as,y2,rfl,s5,fD,eD,pd⟩:=jW;have li:=(bu.mp ex).1;obtain⟨tc,Ww⟩:∃tc,cs.jk[i]?=some tc:=⟨cs.jk[i]'∅,dG ∅⟩;obtain⟨x',Q9,tv⟩:=Paired.at_ Yn i tc Ww;rw [ex] at Q9;cases Q9;have lP:=b9 Ww;have d1:=Hh cs tc lP;have z1:=vJ cs tc lP;have tot:((cs.jk.take (i+1)).flatMap jK).length<=100000:=by
     have h1:((cs.jk.take (i+1)).flatMap jK).length<=(cs.jk.flatMap jK).length:=by
      conv=>rhs;rw [<-pR (i+1) cs.jk,i5,a9]
      omega
     rw [<-ox,oy] at h1;omega
    refine goN ?_
    ac_nf
    refine⟨_,rfl,_,rfl,x,tc,rfl,fV.keep (λ_ _ z=>s5.tup z) tc tv,∅,∅,λD2 as2 H6 f6 s6 e6 p6=>?_⟩;have SY:=s6 _ _ eD;have Ea:=aU pd;have l26:=aU p6;have G4:(cs.jk.take (i+1)).flatMap jK=(cs.jk.take i).flatMap jK++jK tc:=by
     rw [cP,Ww,i5];simp
    rw [G4,a9] at tot;refine⟨D,D2,_,_,rfl,rfl,SY,e6,fits (by rw [au,au];omega),λD3 yj=>?_⟩;rw [<-bG];have k7:=af yj (.lst ((as++as2).map V.ref));refine⟨D3,as++as2,_,rfl,(s5.trans s6).trans k7,(s5.trans s6).free yj,ae,?_⟩;rw [G4];exact aW (Paired.e_ pd λ_ _ z=>k7 _ _ (s6 _ _ z)) (Paired.e_ p6 λ_ _ z=>k7 _ _ z)
   rintro σ H5 ⟨D,as,y2,rfl,s5,fD,eD,pd⟩;rw [show us.length=cs.jk.length from lcs,cE,<-ox] at pd;have Ea:=aU pd;have Sn:=oy cs;refine⟨_,rfl,_,rfl,a,_,_,_,rfl,rfl,s5.tup ha,rfl,iP,λu hu=>⟨qg,λL2 GQ=>?_⟩⟩;have k6:=(af hu (.tup [V.str "make",V.int (k:Int)])).trans (af GQ (.lst [V.ref u]));have vu:upd (upd H5 u (.tup [V.str "make",V.int (k:Int)])) L2 (.lst [V.ref u]) u=some (.tup [.str "make",.int (k:Int)]):=(af GQ _) _ _ ae;have e6:upd (upd H5 u (.tup [V.str "make",V.int (k:Int)])) L2 (.lst [V.ref u]) L2=some (.lst [V.ref u]):=ae;generalize upd (upd H5 u (.tup [V.str "make",V.int (k:Int)])) L2 (.lst [V.ref u])=H6 at k6 vu e6;refine⟨D,L2,_,_,rfl,rfl,k6 _ _ eD,e6,fits (by rw [au];show _+1<=1000000;omega),λD3 yj=>?_⟩;have k7:=af yj (.lst (as.map V.ref++[V.ref u]));refine q D3 (as++[u]) _ ((s5.trans k6).free yj) ((s5.trans k6).trans k7) (by rw [ae,bG];rfl) ?_;rw [B2];exact aW (Paired.e_ pd λ_ _ z=>k7 _ _ (k6 _ _ z)) (.cons (k7 _ _ vu) .nil)
end
abbrev vW:Stmt:=top 55
def sB:Nat->Nat
 | 0=>1
 | n+1=>1+3 * sB n
def LY:∀n,1<=sB n
 | 0=>aF _
 | n+1=>by show 1<=1+3 * sB n;omega
def Ks:∀{m n:Nat},m<=n->sB m<=sB n:=by
 intro m n h
 induction h with
 | refl=>exact aF _
 | step _ ih=>exact dX ih (by show _<=1+3 * sB _;omega)
structure jj (aa:List ar) (m:Nat)(t:Tr)(z:Str):Prop where
 is:Is aa t z
 size:sz t<=sB m
 deep:dp t<=m
def jj.up {aa:List ar}{m n:Nat}{t:Tr}{z:Str}(h:jj aa m t z)(l:m<=n):jj aa n t z:=⟨h.is,dX h.size (Ks l),dX h.deep l⟩
def jj.word {aa:List ar}{m:Nat}{z:Str}(h:z∉hd aa):jj aa m (.w z) z:=⟨by unfold Is;exact⟨rfl,h⟩,by unfold sz;exact LY m,by unfold dp;exact dW _⟩
theorem Gm {aa:List ar}{m:Nat}:∀{ts:List Tr}{zs:List Str},Paired (λt z=>jj aa m t z) ts zs->tO aa (gR.lL ts) zs/\EA (gR.lL ts)<=zs.length * sB m/\xj (gR.lL ts)<=m
 | _,_,.nil=>⟨by unfold gR.lL tO;rfl,by unfold gR.lL EA;simp,by unfold gR.lL xj;exact dW _⟩
 | _,_,.cons a b=>by
  obtain⟨x,y,z⟩:=Gm b;have h1:=a.size;have h2:=a.deep;refine⟨by unfold gR.lL tO;exact⟨_,_,rfl,a.is,x⟩,?_,?_⟩
  .unfold gR.lL EA;rw [dY,Nat.succ_mul];omega
  unfold gR.lL xj;omega
def jj.node {aa:List ar}{m k:Nat}{ts:List Tr}{ru:ar}(e:aa[k]?=some ru)(h3:ru.2.length<=3)(p:Paired (λt z=>jj aa m t z) ts ru.2):jj aa (m+1) (.n k (gR.lL ts)) ru.1:=by
 obtain⟨x,y,z⟩:=Gm p;refine⟨by unfold Is;exact⟨ru.2,e,x⟩,?_,by unfold dp;omega⟩;unfold sz;show 1+_<=1+3 * sB m;have:ru.2.length * sB m<=3 * sB m:=Nat.mul_le_mul_right _ h3;omega
section
def DL {H:Hp}{p D d:Addr}{zs:List Str}{kvs:List (aR×V)}{σ:St}{js:List (Nat×Str)}{Qp:Hp->Prop}{F:Tr->Str->Prop}(hσ:eU ["_law_part"] js σ=[none,aM d])(hp:aS K H p (zs.map V.str))(hz:zs.length<=1000)
  (hd:H d=some (.dK kvs))(ha:∀z∈zs,∃t,fV K H t ((bw kvs (Sum.inr z)).getD (.str z))/\F t z)(hD:H D=none)(q:∀ys ts H2,Paired (λv t=>fV K H2 t v) ys ts->Paired F ts zs->aA H H2->H2 D=some (.lst ys)->Qp H2) :
  ∃W:Nat->Nat->List V->St->Hp->Prop,(∃m,W 0 m [] (eU ["_law_part"] js σ) (upd H D (.lst []))) /\
 ∀i m ys σ' H,W i m ys σ' H->((oC K p).stop i H/\Qp H)\/((oC K p).go i H/\∃m',m' < m/\∀x H',(oC K p).mP i H x H'->dN 0 x σ' H' λσ2 H2=>iu σ2 H2 λb H3 =>
  if b=true then Ex (gS 1) (gS 0) (gS 0) σ2 H3 λy H4=>H4 D=some (.lst ys)/\ys.length < sizeLine/\W (i+1) m' (ys++[y]) σ2 (upd H4 D (.lst (ys++[y]))) else W (i+1) m' ys σ2 H3):=by
 refine gQ (xs:=zs.map V.str) (λi ys σ2 H2=>(∃ts,Paired (λv t=>fV K H t v) ys ts/\Paired F ts (zs.take i))/\(∃y0,σ2=[y0,aM d])/\aA H H2/\H2 D=some (.lst ys))
  ⟨⟨[],.nil,.nil⟩,⟨none,hσ⟩,af hD _,ae⟩ (λi ys σ2 H2 _ h=>h.2.2.1.tup hp) (λi x ys σ2 H2 ex h=>?_) (λys σ2 H2 h=>?_)
 .obtain⟨⟨ts,p1,p2⟩,⟨y0,rfl⟩,sm,hd2⟩:=h;rw [bz] at ex;obtain⟨z,ez,rfl⟩:=cC.mp ex;have li:=(bu.mp ez).1;obtain⟨t,tv,ft⟩:=ha z (b9 ez);have l1:=aU p1;have l2:=aU p2;rw [bO] at l2;refine goN (yl ?_);refine⟨_,rfl,d,rfl,.inl ⟨_,Rd.of (sm _ _ hd)⟩,_,rfl,_,rfl,_,cq.k (k:=Sum.inr z) (sm _ _ hd),hd2,bM ∅,⟨ts++[t],aW p1 (.cons tv .nil),?_⟩,⟨_,rfl⟩,?_,ae⟩
  .rw [cP,ez];exact aW p2 (.cons ft .nil)
  intro b o hb;rw [aj (λz=>by rw [z,hD] at hb;cases hb)];exact sm b o hb
 obtain⟨⟨ts,p1,p2⟩,_,sm,hd2⟩:=h;rw [au,cE] at p2;exact q ys ts H2 (Paired.e_ p1 λ_ t z=>fV.keep (λ_ _ y=>sm.tup y) t z) p2 sm hd2
structure AZ (K:ba)(H:Hp)(L:Addr)(aa:List ar) (es:List Str)(kvs:List (aR×V)):Prop where
 hL:H L=some (.dK kvs)
 ky:kvs.map (·.1)=es.map Sum.inr
 tr:∀z v,bw kvs (Sum.inr z)=some v->∃t,fV K H t v/\jj aa es.length t z
 nd:es.Nodup
 sub:∀z∈es,z∈hm aa
def AZ.same {H H':Hp}{L:Addr}{aa:List ar}{es:List Str}{kvs:List (aR×V)}(h:AZ K H L aa es kvs)(s:aA H H'):AZ K H' L aa es kvs :=
 ⟨s _ _ h.hL,h.ky,λz v e=>let ⟨t,a,b⟩:=h.tr z v e;⟨t,fV.keep (λ_ _ y=>s.tup y) t a,b⟩,h.nd,h.sub⟩
def AZ.at_ {H:Hp}{L:Addr}{aa:List ar}{es:List Str}{kvs:List (aR×V)}(h:AZ K H L aa es kvs)(z:Str):(bw kvs (Sum.inr z)).isSome=decide (z∈es):=by
 by_cases c:z∈es
 .rw [bh c];exact(d_ kvs (Sum.inr z)).mpr (by rw [h.ky];exact cN.mpr c)
 rw [b0 c];cases e:(bw kvs (Sum.inr z)).isSome with
 | false=>rfl
 | true=>exact absurd (cN.mp (by rw [<-h.ky];exact(d_ kvs (Sum.inr z)).mp e)) c
def AZ.get {H:Hp}{L:Addr}{aa:List ar}{es:List Str}{kvs:List (aR×V)}(h:AZ K H L aa es kvs){z:Str}(c:z∈es):∃v t,bw kvs (Sum.inr z)=some v/\fV K H t v/\jj aa es.length t z:=by
 have:=h.at_ z;rw [bh c] at this;obtain⟨v,e⟩:=lX.mp this;obtain⟨t,a,b⟩:=h.tr z v e;exact⟨v,t,e,a,b⟩
def xA (K:ba):Sp:=λvs H Q _=>∃(R:Addr)(rs:List Addr)(aa:List ar) (fK:List Str),vs=[.ref R]/\aH K H R (rs.map V.ref)/\bK K H rs aa/\aa.length<=8/\(∀ru∈aa,ru.2.length<=3)/\fK.length<=3/\(∀z∈hm aa,z∈fK) /\
 ∀(L:Addr)(kvs:List (aR×V))(H':Hp),H L=none->aA H H'->AZ K H' L aa (cK true aa) kvs->(cK true aa).length<=3->Q (.ref L) H'
abbrev NLs:List Str:=["_law_rules","_law_head","_law_parts","_law_heads","_law_least_here","_law_again","_law_number"]
def iU:aK NLs ["_law_rules"] (av vW):=iM rfl rfl rfl rfl (by decide +kernel)
def CJ (F:iB K "_law_least" "_law_least" vW f fd)(T:Txt mg):bR P w K mg base gk 1 f fd ["_law_rules"] (xA K):=by
 refine F.ok iU (λvs H Q E h=>?_) (λeX A outer s H vs Q E hr h=>?_)
 .obtain⟨R,rs,aa,fK,rfl,_⟩:=h;rfl
 obtain⟨R,rs,aa,fK,rfl,hR,cy,bE,h3,Sw,MU,q⟩:=h;have hu:=gh hr;refine⟨_,ai (az (i:=3) iU.nd rfl (Or.inr rfl) (bD ["_law_head","_law_parts"] [] rfl (a8 (pv 0)) (br rfl rfl) (by decide +kernel) rfl (by decide +kernel)
   (λ_ _ _ _ _=>fR (n:=2) K rfl (aB (aq (i:=0) (show (["_law_head","_law_parts"]:List Str).Nodup by decide +kernel) rfl (bC rfl)) (aB (aq (i:=1) (show (["_law_head","_law_parts"]:List Str).Nodup by decide +kernel) rfl (bC rfl)) b_))) (λ_ _ _ _ _=>b8)
   (λ_ _ _ _ _=>pv 0)))
  (ai (az (i:=4) iU.nd rfl (Or.inr rfl) g8)
  (ai (bL cg rfl (a8 (pv 0)) (aq (i:=5) iU.nd rfl (bC rfl))
   (ak (bL cg rfl (gM rfl T.Cw (ab (aD aG rfl T.len cY (ab (pv 0) ag)) ag)) (aq (i:=6) iU.nd rfl (bC rfl))
    (ai (Mh (aL bB (pv 0) (pv 6) (λ_ _=>rfl)) (fR (n:=2) K rfl (aB (aq (i:=1) iU.nd rfl (bC rfl)) (aB (aq (i:=2) iU.nd rfl (bC rfl)) b_))))
    (ak (bI (PW.pt (kR (eJ (eK hu (pv 1) (pv 4))) (i8 (eI (aD (il rfl) rfl T.all boot_all (ab
      (bD ["_law_part"] [(3,"_law_heads"),(4,"_law_least_here")] rfl (fZ (pv 2)) (br rfl rfl) (by decide +kernel) rfl (by decide +kernel)
       (λ_ _ _ _ _=>aq (i:=0) (show (["_law_part","_law_heads","_law_least_here"]:List Str).Nodup by decide +kernel) rfl (bC rfl)) (λ_ _ _ _ _=>b8)
       (λ_ _ _ _ _=>Kz (z5 (jf hu (pv 0) (pv 2))) (kT (fu (jh K) (pv 0) (pv 1) rfl)))) ag))))))
     (ak (iJ hu (pv 4) (pv 1) (bo (ab (pv 6) (ab (bc dQ rfl T.tup mX (ab (bD ["_law_part"] [(4,"_law_least_here")] rfl (fZ (pv 2)) (br rfl rfl) (by decide +kernel) rfl (by decide +kernel)
      (λ_ _ _ _ _=>aq (i:=0) (show (["_law_part","_law_least_here"]:List Str).Nodup by decide +kernel) rfl (bC rfl)) (λ_ _ _ _ _=>b8) (λ_ _ _ _ _=>xQ hu (pv 1) (pv 0) (pv 0) ⟨rfl,rfl,rfl,rfl⟩)) ag)) ag))) rfl)) aQ))))))
  (ak (aN (pv 4))))),?_⟩
 nofun
 have ll:=aU cy;refine⟨_,rfl,R,rfl,⟨_,hR⟩,λD hD=>jY hR cy ∅ hD λH1 s1 eD=>?_⟩;refine goN ?_
 ac_rfl
 refine λL hL=>?_;have s2:=s1.trans (af hL (.dK []));have Hd:=af hL (.dK []) _ _ eD;have nL:D≠L:=λz=>by rw [z,hL] at eD;cases eD
 have fL:H L=none:=s1.free hL;have e2:upd H1 L (.dK []) L=some (.dK []):=ae;generalize upd H1 L (.dK [])=H2 at s2 Hd e2;refine goN ?_
 ac_rfl
 have L2:AZ K H2 L aa [] []:=⟨e2,rfl,(λz v e=>by cases e),kr,(λz h=>by cases h)⟩;refine⟨_,rfl,R,rfl,⟨_,s2.seq hR⟩,cJ (xs:=rs.map V.ref) (λi σ H3=>∃(es:List Str)(kvs:List (aR×V))(y1 y2 y5 y6:Option V),σ=[aM R,y1,y2,aM D,aM L,y5,y6]/\aA H H3/\H3 D=some (.lst ((hm aa).map V.str))/\AZ K H3 L aa es kvs/\es=passes (λe=>gA true (hm aa) e aa) i []) ⟨[],[],_,_,_,_,rfl,s2,Hd,L2,rfl⟩ ?_ ?_ ?_⟩
 .rintro i σ H3 _ ⟨es,kvs,y1,y2,y5,y6,rfl,s3,_⟩;exact s3.seq hR
 .intro i x σ H3 ex jW
  ac_nf0
  obtain⟨es,kvs,y1,y2,y5,y6,rfl,s3,Iq,L3,he⟩:=jW;refine goN ?_
  ac_nf
  refine⟨_,rfl,R,_,rfl,.inl (s3.seq hR),((rs.map V.ref).length:Int),rfl,by rw [au];omega,by rw [au];omega,?_⟩;rw [show (((rs.map V.ref).length:Nat):Int).toNat=aa.length by rw [au];omega];refine gP (n:=aa.length) (λj σ H4=>∃(i4:List Str)(kvs:List (aR×V))(y1 y2 y6:Option V),σ=[aM R,y1,y2,aM D,aM L,some x,y6]/\aA H H4/\H4 D=some (.lst ((hm aa).map V.str))/\AZ K H4 L aa i4 kvs/\i4=gA true (hm aa) es (aa.take j)) ⟨es,kvs,_,_,_,rfl,s3,Iq,L3,rfl⟩ ?_ ?_
  .intro j σ H4 lj jW
   ac_nf0
   obtain⟨i4,kvs,y1,y2,y6,rfl,s4,Dy,L4,Aw⟩:=jW;have e1:aa[j]?=some aa[j]:=dG lj;generalize iY:aa[j]=ru at e1;have MR:=h3 ru (b9 e1);obtain⟨r,er,p,v1,v2⟩:=Paired.at_ cy j ru e1;have uZ:jZ (rs.map V.ref) (0+(j:Int))=some (.ref r):=by
    rw [j6];exact bZ (by rw [bz,er];rfl)
   have l3:i4.length<=3:=dX (iX _ _ L4.nd λz hz=>MU z (L4.sub z hz)) Sw;have lkv:kvs.length=i4.length:=by
    have:=congrArg List.length L4.ky;rw [au,au] at this;exact this
   have pe:gA true (hm aa) es (aa.take (j+1))=dM true (hm aa) i4 ru:=by
    rw [Aw,cP,e1];unfold gA;rw [ve];rfl
   refine goN ?_
   ac_rfl
   refine⟨_,rfl,_,rfl,R,_,_,_,rfl,rfl,s4.seq hR,uZ,r,_,rfl,s4.tup v1,rfl,_,_,rfl,_,_,rfl,rfl,?_⟩;refine⟨_,rfl,_,rfl,L,_,rfl,cq.k (k:=Sum.inr ru.1) L4.hL,_,rfl,?_⟩;rw [L4.at_ ru.1];show if (!decide (ru.1∈i4))=true then _ else _;refine cf (λc2=>?_) (λc2=>?_)
   .have Yw:ru.1∉i4:=λz=>by rw [bh z] at c2;cases c2
    refine⟨_,rfl,p,rfl,⟨_,s4.tup v2⟩,λD2 jb=>k_ (zs:=ru.2) [aM D,aM L] (λz=>decide (z∈i4) || (true && !decide (z∈hm aa))) rfl (s4.tup v2) ∅ jb (λz _ H5 Qy s5 hq=>?_) λH5 s5 WV=>?_⟩
    .refine⟨_,rfl,_,rfl,L,_,rfl,cq.k (k:=Sum.inr z) (s5 _ _ L4.hL),?_⟩;refine⟨_,rfl,?_⟩;rw [L4.at_ z];refine cf (λc=>?_) (λc=>?_)
     .rw [c] at hq;exact hq
     have c':decide (z∈i4)=false:=by simpa using c
     rw [c',Bool.false_or,jn] at hq;refine⟨_,rfl,_,rfl,D,_,rfl,.inl (aH.of (s5 _ _ Dy)),rfl,cU _,?_⟩;rw [fU];exact hq
    refine⟨D2,_,rfl,aH.of WV,?_⟩;rw [all_map];have tM:=s4.trans s5;have L5:=L4.same s5;refine⟨_,rfl,?_⟩;refine cf (λc=>?_) (λc=>?_)
    .have kid:∀z∈ru.2,∃t,fV K H5 t ((bw kvs (Sum.inr z)).getD (.str z))/\jj aa i4.length t z:=λz hz=>by
      have cz:=gK.mp c z hz;by_cases m:z∈i4
      .obtain⟨v,t,e,a,b⟩:=L5.get m;exact⟨t,by rw [e];exact a,b⟩
      rw [b0 m,Bool.false_or,jn] at cz;have nh:z∉hm aa:=λy=>by rw [bh y] at cz;cases cz
      have ev:bw kvs (Sum.inr z)=none:=by
       cases e:bw kvs (Sum.inr z) with
       | none=>rfl
       | some v =>
        have:=L5.at_ z;rw [e,b0 m] at this;cases this
      exact⟨.w z,by rw [ev];unfold fV;rfl,jj.word λy=>nh (kb.mpr y)⟩
     refine⟨_,rfl,_,rfl,p,rfl,⟨_,tM.tup v2⟩,λD3 yj=>DL (F:=λt z=>jj aa i4.length t z) (zs:=ru.2) rfl (tM.tup v2) ∅ L5.hL kid yj λys ts H6 p1 p2 s6 e6=>?_⟩;refine⟨D3,ys,rfl,.inl ⟨aH.of e6,λt2 Nl=>⟨iP,λtS Dp=>?_⟩⟩⟩;have k7:=(af Nl (.tup ys)).trans (af Dp (.tup [.int (0+(j:Int)),.ref t2]));have vt:aS K (upd (upd H6 t2 (.tup ys)) tS (.tup [.int (0+(j:Int)),.ref t2])) t2 ys:=(af Dp _).tup (aS.of ae);have vn:aS K (upd (upd H6 t2 (.tup ys)) tS (.tup [.int (0+(j:Int)),.ref t2])) tS [.int (j:Int),.ref t2]:=by
      have:aS K (upd (upd H6 t2 (.tup ys)) tS (.tup [.int (0+(j:Int)),.ref t2])) tS [.int (0+(j:Int)),.ref t2]:=aS.of ae;rw [j6] at this ⊢;exact this
     generalize upd (upd H6 t2 (.tup ys)) tS (.tup [.int (0+(j:Int)),.ref t2])=H7 at k7 vt vn;have uq:=s6.trans k7;have L7:=L5.same uq;refine⟨_,rfl,_,rfl,L,_,rfl,.inl ⟨kvs,Sum.inr ru.1,L7.hL,rfl,bM ∅,rfl⟩,?_⟩;have kt:∀a xs,aS K H7 a xs->aS K (upd H7 L (.dK (bT kvs (Sum.inr ru.1) (.ref tS)))) a xs:=λa xs z=>by
      rcases z with (z | ⟨u,z⟩) | z
      .exact .inl (.inl (by rw [aj (λy=>by rw [y,L7.hL] at z;cases z)];exact z))
      .exact .inl (.inr ⟨u,by rw [aj (λy=>by rw [y,L7.hL] at z;cases z)];exact z⟩)
      exact .inr z
     refine⟨i4++[ru.1],bT kvs (Sum.inr ru.1) (.ref tS),_,_,_,rfl,λb o hb=>?_,?_,⟨ae,?_,λz v e=>?_,?_,λz hz=>?_⟩,?_⟩
     .rw [aj (λz=>by rw [z,fL] at hb;cases hb)];exact(tM.trans uq) b o hb
     .rw [aj nL];exact uq _ _ (s5 _ _ Dy)
     .rw [iI (by rw [L4.ky];exact λz=>Yw (cN.mp z)),L4.ky,bG];rfl
     .rw [rA] at e;rw [a9,gw];by_cases cz:(Sum.inr z:aR)=Sum.inr ru.1
      .rw [ax cz] at e;cases e;have ez:z=ru.1:=by injection cz
       refine⟨.n j (gR.lL ts),?_,?_⟩
       .unfold fV;exact⟨tS,t2,ys,rfl,kt _ _ vn,kt _ _ vt,hX.PR (Paired.e_ p1 λ_ t y=>fV.keep (λ_ _ x=>kt _ _ (k7.tup x)) t y)⟩
       rw [ez];exact jj.node e1 MR p2
      rw [ay cz] at e;obtain⟨t,a,b⟩:=L7.tr z v e;exact⟨t,fV.keep kt t a,b.up (me _)⟩
     .exact j7.mpr ⟨L4.nd,by simp,λa ha b hb e=>Yw (by rw [<-bF.mp hb,<-e];exact ha)⟩
     .rcases bQ.mp hz with h | h
      .exact L4.sub z h
      rw [bF.mp h];exact cX.mpr ⟨ru,b9 e1,rfl⟩
     rw [pe];unfold dM;rw [c,jn,ax c2]
    refine⟨i4,kvs,_,_,_,rfl,tM,s5 _ _ Dy,L5,?_⟩;rw [pe];unfold dM;rw [ay (λz=>c (gE.mp z).1)]
   refine⟨i4,kvs,_,_,_,rfl,s4,Dy,L4,?_⟩;rw [pe];unfold dM;rw [ay (λz=>c2 (gE.mp z).2)]
  rintro σ H4 ⟨i4,kvs,y1,y2,y6,rfl,s4,Dy,L4,Aw⟩;rw [cE] at Aw;exact⟨i4,kvs,_,_,_,_,rfl,s4,Dy,L4,by rw [Aw,he];rfl⟩
 rintro σ H3 ⟨es,kvs,y1,y2,y5,y6,rfl,s3,Iq,L3,he⟩;rw [au,ll] at he;refine⟨_,rfl,?_⟩;have e:cK true aa=es:=he.symm;rw [<-e] at L3;exact q L kvs H3 fL s3 L3 (dX (iX _ _ L3.nd λz hz=>MU z (L3.sub z hz)) Sw)
end
end hU
namespace L2
open PySem
def cW.R6 {K:ba}{C:Addr}{H H':Hp}{xs:List V}(s:cW C H H')(h:H C=some (.lst xs)):∀a ys,aS K H a ys->aS K H' a ys:=λa ys z=>by
 rcases z with (z | ⟨u,z⟩) | z
 .exact .inl (.inl (s _ _ (λy=>by rw [y,h] at z;cases z) z))
 .exact .inl (.inr ⟨u,s _ _ (λy=>by rw [y,h] at z;cases z) z⟩)
 exact .inr z
end L2
namespace hU
open PySem L2 M11
abbrev zG:Stmt:=top 56
abbrev vZ:Stmt:=top 58
def kZ (ks:List Nat):List V:=ks.map λk:Nat=>V.int (k:Int)
def Xs {ks:List Nat}(h:ks≠[]) (n:Int):(0:Int) < ((kZ ks).length:Int)/\∃k∈ks,jZ (kZ ks) (n % ((kZ ks).length:Int))=some (.int (k:Int)):=by
 have l0:0 < ks.length:=List.length_pos_iff.mpr h;have le:(kZ ks).length=ks.length:=by unfold kZ;rw [au]
 have hp:(0:Int) < (ks.length:Int):=by omega
 have lt:(n % (ks.length:Int)).toNat < ks.length:=by
  have:=vj n hp;have:=qU n (show (ks.length:Int)≠0 ∅);omega
 have eN:(((n % (ks.length:Int)).toNat:Nat):Int)=n % (ks.length:Int):=by
  have:=qU n (show (ks.length:Int)≠0 ∅);omega
 rw [le];refine⟨hp,ks[(n % (ks.length:Int)).toNat],qW lt,?_⟩;have:=bZ (xs:=kZ ks) (j:=(n % (ks.length:Int)).toNat) (v:=.int ((ks[(n % (ks.length:Int)).toNat]:Nat):Int)) (by unfold kZ;rw [bz,dG lt];rfl);rw [eN] at this;exact this
def AZ.xG {K:ba}{H H':Hp}{L C:Addr}{aa:List ar}{es:List Str}{kvs:List (aR×V)}{xs:List V}(l:AZ K H L aa es kvs)(s:cW C H H')(h:H C=some (.lst xs)):AZ K H' L aa es kvs :=
 ⟨s _ _ (λy=>by have:=l.hL;rw [y,h] at this;cases this) l.hL,l.ky,λz v e=>let ⟨t,a,b⟩:=l.tr z v e;⟨t,fV.keep (s.R6 h) t a,b⟩,l.nd,l.sub⟩
section
structure AV (K:ba)(H:Hp)(R L C:Addr)(rs:List Addr)(aa:List ar) (es:List Str)(kvs:List (aR×V))(cs:List Int):Prop where
 hR:H R=some (.lst (rs.map V.ref))
 cy:bK K H rs aa
 len:aa.length<=8
 h3:∀ru∈aa,ru.2.length<=3
 ls:AZ K H L aa es kvs
 all:∀z∈hm aa,z∈es
 Qd:es.length<=3
 hC:H C=some (.lst (cs.map V.int))
 xg:cs.length<=1000
 nR:R≠C
def AV.go {H H':Hp}{R L C:Addr}{rs:List Addr}{aa:List ar}{es:List Str}{kvs:List (aR×V)}{cs Iw:List Int}(h:AV K H R L C rs aa es kvs cs)(s:cW C H H')(e:H' C=some (.lst (Iw.map V.int)))(l:Iw.length<=cs.length):AV K H' R L C rs aa es kvs Iw :=
 ⟨s _ _ h.nR h.hR,h.cy.keep (s.R6 h.hC),h.len,h.h3,h.ls.xG s h.hC,h.all,h.Qd,e,dX l h.xg,h.nR⟩
def vL (K:ba) (m:Nat):Sp:=λvs H Q _=>∃(R L C:Addr)(rs:List Addr)(aa:List ar) (es:List Str)(kvs:List (aR×V))(cs:List Int)(x:Str) (n:Nat),vs=[.ref R,.ref L,.str x,.ref C,.int (n:Int)]/\m=n+1/\AV K H R L C rs aa es kvs cs/\x∈es /\
 ∀(v:V)(t:Tr)(Iw:List Int)(H':Hp),cW C H H'->H' C=some (.lst (Iw.map V.int))->Iw.length<=cs.length->fV K H' t v->jj aa (3+n) t x->Q v H'
abbrev NTl:List Str:=["_law_rules","_law_least_here","_law_name","_law_cells","_law_deep","_law_numbers","_law_number","_law_children","_law_part"]
def jQ:aK NTl ["_law_rules","_law_least_here","_law_name","_law_cells","_law_deep"] (av zG):=iM rfl rfl rfl rfl (by decide +kernel)
theorem xW (F:iB K "_law_tree" "_law_tree" zG f fd)(T:Txt mg)(b1:Binds K fd ["_law_rules","_law_least_here","_law_name","_law_cells","_law_deep"] [])(m1:mg "_law_tree"=some (.ref f)):∀n,bR P w K mg base gk n f fd ["_law_rules","_law_least_here","_law_name","_law_cells","_law_deep"] (vL K n)
 | 0=>⟨λvs H Q E ⟨_,_,_,_,_,_,_,_,_,_,e,_⟩=>by rw [e];rfl,λA outer s H args us vs Q E _ _ _ _ ⟨_,_,_,_,_,_,_,_,_,_,_,h,_⟩=>by cases h⟩
 | m+1=>by
  have G:aC P w K mg base m "_law_tree" ["_law_rules","_law_least_here","_law_name","_law_cells","_law_deep"] (vL K m):=⟨f,fd,xW F T b1 m1 m,b1,F.kp,m1⟩;refine F.ok jQ (λvs H Q E h=>?_) (λeX A outer s H vs Q E hr h=>?_)
  .obtain⟨_,_,_,_,_,_,_,_,_,_,rfl,_⟩:=h;rfl
  obtain⟨R,L,C,rs,aa,es,kvs,cs,x,n,rfl,em,I0,hx,q⟩:=h;obtain rfl:m=n:=Nat.succ.inj em;have hu:=gh hr;have Vq:=Nat.lt_of_succ_lt hu;refine⟨_,ai (az (i:=5) jQ.nd rfl (bC rfl) (a_ ag))
   (ai (bL cg rfl (gM rfl T.Cw (ab (aD aG rfl T.len cY (ab (pv 0) ag)) ag)) (aq (i:=6) jQ.nd rfl (bC rfl))
    (ak (bI (aX hJ (aL aZ (aL bB (pv 0) (pv 6) (λ_ _=>rfl)) ao (λ_ _=>rfl)) (pv 2) (bJ _))
     (ak (cI (g9 gF gW gX bU (pv 5) (ab (pv 6) ag)))) aQ)))
   (ai (bI (PW.pt (lY (aX (CD Vq) (pv 3) (a_ ag) (bJ _)) (jS (aX hJ (pv 4) ao (bJ _))))) (ak (aN (fq hu (pv 1) (pv 2) (λ_ _=>rfl)))) aQ)
   (ai (az (i:=6) jQ.nd rfl (bC rfl) (aL bB (pv 5) (aI c_ (Ft gF PySem.F.slot_list_pop PySem.F.type_list_pop F4 (pv 3)) (aD aG rfl T.len cY (ab (pv 5) ag))) (λ_ _=>rfl)))
   (ai (az (i:=7) jQ.nd rfl (bC rfl) (a_ ag))
   (ai (bL cg rfl (fZ (aL aZ (aL bB (pv 0) (pv 6) (λ_ _=>rfl)) ao (λ_ _=>rfl))) (aq (i:=8) jQ.nd rfl (bC rfl))
    (ai (iK (bI (eJ (jf hu (pv 8) (pv 1))) (ak (az (i:=8) jQ.nd rfl (bC rfl) (bp G hr rfl (ab (pv 0) (ab (pv 1) (ab (pv 8) (ab (pv 3) (ab (aI mz (pv 4) ao) ag)))))))) aQ))
    (ak (cI (g9 gF gW gX bU (pv 7) (ab (pv 8) ag))))))
   (ak (aN (bo (ab (pv 6) (ab (bc dQ rfl T.tup mX (ab (pv 7) ag)) ag)))))))))),?_⟩
  nofun
  have ll:=aU I0.cy;have len:=I0.len;have fw:=I0.xg;refine⟨rq,λN hN=>?_⟩;have k1:=af hN (.lst []);have e1:upd H N (.lst []) N=some (.lst []):=ae;have nNC:N≠C:=λz=>by rw [z,I0.hC] at hN;cases hN
  generalize upd H N (.lst [])=H1 at k1 e1;refine goN ?_
  ac_rfl
  refine⟨_,rfl,R,_,rfl,.inl (aH.of (k1 _ _ I0.hR)),((rs.map V.ref).length:Int),rfl,by rw [au];omega,by rw [au];omega,?_⟩;rw [show (((rs.map V.ref).length:Nat):Int).toNat=aa.length by rw [au];omega];refine gP (n:=aa.length) (λi σ H5=>∃(ks:List Nat)(y6:Option V),σ=[aM R,aM L,some (.str x),aM C,some (.int (m:Int)),aM N,y6,none,none]/\aA H H5/\H5 N=some (.lst (kZ ks))/\ks.length<=i/\(∀k∈ks,∃ru,aa[k]?=some ru/\ru.1=x)/\∀(k:Nat)(ru:ar),k < i->aa[k]?=some ru->ru.1=x->k∈ks)
   ⟨[],none,rfl,k1,e1,aF _,(λk h=>by cases h),λk _ h=>∅⟩ ?_ ?_
  .intro i σ H5 hi jW
   ac_nf0
   obtain⟨ks,y6,rfl,s5,e5,l5,m5,c5⟩:=jW;have er:aa[i]?=some aa[i]:=dG hi;generalize iY:aa[i]=ru at er;obtain⟨r,err,p,v1,v2⟩:=Paired.at_ I0.cy i ru er;have uZ:jZ (rs.map V.ref) (0+(i:Int))=some (.ref r):=by
    rw [j6];exact bZ (by rw [bz,err];rfl)
   refine goN ?_
   ac_nf
   refine⟨_,rfl,_,rfl,R,_,_,_,rfl,rfl,aH.of (s5 _ _ I0.hR),uZ,r,_,_,_,rfl,rfl,s5.tup v1,rfl,_,rfl,rfl,decide (ru.1=x),?_,?_⟩
   .show V.bl (decide (V.str ru.1=V.str x))=_;by_cases h:ru.1=x
    .rw [bh h,bh (congrArg V.str h)]
    rw [b0 h,b0 (λy=>h (by injection y))]
   refine cf (λc=>?_) (λc=>?_)
   .have c':=cZ c;refine⟨_,rfl,.inl ⟨rfl,_,aH.of e5⟩,_,rfl,N,_,_,rfl,rfl,e5,bM (by unfold kZ;rw [au];omega),?_⟩;refine⟨ks++[i],_,rfl,?_,?_,by rw [a9,gw];omega,λk hk=>?_,λk H_ lk e2 h2=>?_⟩
    .intro b o hb;rw [aj (λz=>by rw [z,hN] at hb;cases hb)];exact s5 b o hb
    .rw [ae];unfold kZ;rw [bG,j6];rfl
    .rcases bQ.mp hk with h | h
     .exact m5 k h
     rw [bF.mp h];exact⟨ru,er,c'⟩
    by_cases ck:k < i
    .exact h_ _ (c5 k H_ ck e2 h2)
    have:k=i:=by omega
    rw [this];exact fQ _ cH
   refine⟨ks,_,rfl,s5,e5,∅,m5,λk H_ lk e2 h2=>?_⟩;by_cases ck:k < i
   .exact c5 k H_ ck e2 h2
   have:k=i:=by omega
   rw [this,er] at e2;cases e2;exact absurd (bh h2) c
  rintro σ H5 ⟨ks,y6,rfl,s5,e5,l5,m5,c5⟩;have ksn:ks≠[]:=by
   obtain⟨ru,iY,ex⟩:=cX.mp (I0.ls.sub x hx);obtain⟨k,ek⟩:=iH iY;have:=c5 k ru (bu.mp ek).1 ek ex;exact λz=>by rw [z] at this;cases this
  have I5:=I0.go (Iw:=cs) (λb o _ h=>s5 b o h) (s5 _ _ I0.hC) (aF _);obtain⟨lv,lt,el,tl,Si⟩:=I5.ls.get hx;have leaf:∀{H6:Hp},aA H5 H6->Q lv H6:=λs6=>q lv lt cs _ (λb o _ h=>s6 _ _ (s5 _ _ h)) (s6 _ _ I5.hC) (aF _) (fV.keep (λ_ _ y=>s6.tup y) lt tl) (Si.up (by have:=I0.Qd;omega));have Qa:∀{H6:Hp},aA H5 H6->cq H6 L (.str x) (some lv):=λs6=>by
   have:=cq.k (k:=Sum.inr x) (s6 _ _ I5.ls.hL);rw [el] at this;exact this
  refine⟨_,rfl,rq,λL4 hL4=>?_⟩;have k6:=af hL4 (.lst []);have e6:upd H5 L4 (.lst []) L4=some (.lst []):=ae;generalize upd H5 L4 (.lst [])=H6 at k6 e6;have I6:=I5.go (Iw:=cs) (λb o _ h=>k6 b o h) (k6 _ _ I5.hC) (aF _);refine⟨C,L4,_,rfl,rfl,aH.of I6.hC,aH.of e6,_,rfl,?_⟩;refine cf (λc=>?_) (λc=>?_)
  .exact⟨_,rfl,_,rfl,L,_,rfl,Qa k6,leaf k6⟩
  refine⟨_,rfl,rfl,decide ((m:Int)=0),?_,?_⟩
  .show V.bl (decide (V.int (m:Int)=V.int 0))=_;by_cases h:(m:Int)=0
   .rw [bh h,bh (congrArg V.int h)]
   rw [b0 h,b0 (λy=>h (by injection y))]
  refine cf (λc2=>?_) (λc2=>?_)
  .exact⟨_,rfl,_,rfl,L,_,rfl,Qa k6,leaf k6⟩
  have m0:(m:Int)≠0:=λz=>c2 (bh z);obtain⟨m',rfl⟩:∃m',m=m'+1:=⟨m - 1,∅⟩;have csn:cs≠[]:=λz=>by rw [z] at c;exact c rfl
  obtain⟨DI,c0,rfl⟩:∃DI c0,cs=DI++[c0]:=⟨cs.dropLast,cs.getLast csn,(List.dropLast_concat_getLast csn).symm⟩;have Wl:=I6.hC;rw [bG] at Wl;refine⟨_,rfl,_,rfl,.inl ⟨rfl,_,aH.of Wl⟩,C,_,.int c0,rfl,rfl,Wl,xO,?_⟩;rw [show (DI.map V.int++[c0].map V.int).dropLast=DI.map V.int from ua ..];have k7:cW C H6 (upd H6 C (.lst (DI.map V.int))):=λb o nb hb=>by rw [aj nb];exact hb
  have e7:upd H6 C (.lst (DI.map V.int)) C=some (.lst (DI.map V.int)):=ae;have WR:upd H6 C (.lst (DI.map V.int)) N=some (.lst (kZ ks)):=by rw [aj nNC];exact k6 _ _ e5
  generalize upd H6 C (.lst (DI.map V.int))=H7 at k7 e7 WR;have I7:=I6.go k7 e7 (by rw [a9];omega);obtain⟨hp,k,hk,ek⟩:=Xs ksn c0;obtain⟨ru,er,rfl⟩:=m5 k hk;refine⟨_,rfl,N,_,rfl,.inl (aH.of WR),_,_,rfl,rfl,hp,N,_,_,_,rfl,rfl,aH.of WR,ek,?_⟩;refine⟨rq,λD hD=>?_⟩;have k8:=af hD (.lst []);have e8:upd H7 D (.lst []) D=some (.lst []):=ae;have UX:D≠C:=λz=>by rw [z,e7] at hD;cases hD
  have nRD:R≠D:=λz=>by
   have h:=I7.hR;rw [z,hD] at h;cases h
  generalize upd H7 D (.lst [])=H8 at k8 e8;have I8:=I7.go (Iw:=DI) (λb o _ h=>k8 b o h) (k8 _ _ e7) (aF _);obtain⟨r,err,p,v1,v2⟩:=Paired.at_ I8.cy k ru er;have uZ:jZ (rs.map V.ref) (k:Int)=some (.ref r):=bZ (by rw [bz,err];rfl);have MR:=I0.h3 ru (b9 er);refine⟨_,rfl,_,rfl,R,_,_,_,rfl,rfl,aH.of I8.hR,uZ,r,_,_,_,rfl,rfl,v1,rfl,p,rfl,⟨_,v2⟩,?_⟩;refine oo (xs:=ru.2.map V.str) (λi σ H9=>∃(Lk:List Int)(ys:List V)(ts:List Tr)(y8:Option V),σ=[aM R,aM L,some (.str ru.1),aM C,some (.int ((m'+1:Nat):Int)),aM N,some (.int (k:Int)),aM D,y8]/\(∀b o,b≠C->b≠D->H8 b=some o->H9 b=some o)/\AV K H9 R L C rs aa es kvs Lk/\Lk.length<=DI.length/\H9 D=some (.lst ys)/\aS K H9 p (ru.2.map V.str)/\Paired (λv t=>fV K H9 t v) ys ts/\Paired (λt z=>jj aa (3+m') t z) ts (ru.2.take i))
   ⟨DI,[],[],none,rfl,λb o _ _ h=>h,I8,aF _,e8,v2,.nil,.nil⟩ ?_ ?_ ?_
  .rintro i σ H9 _ ⟨Lk,ys,ts,y8,rfl,_,_,_,_,Sv,_⟩;exact Sv
  .intro i z0 σ H9 ZA jW
   ac_nf0
   obtain⟨Lk,ys,ts,y8,rfl,s9,I9,l9,WU,Sv,p1,p2⟩:=jW;rw [bz] at ZA;obtain⟨z,ez,rfl⟩:=cC.mp ZA;have li:=(bu.mp ez).1;have l1:=aU p1;have l2:=aU p2;rw [bO] at l2;refine goN ?_
   ac_rfl
   refine⟨λσ HA=>∃(OK:List Int)(v:V)(t:Tr),σ=[aM R,aM L,some (.str ru.1),aM C,some (.int ((m'+1:Nat):Int)),aM N,some (.int (k:Int)),aM D,some v]/\cW C H9 HA/\AV K HA R L C rs aa es kvs OK/\OK.length<=DI.length/\fV K HA t v/\jj aa (3+m') t z,?_,?_⟩
   .refine⟨_,rfl,_,rfl,L,_,rfl,cq.k (k:=Sum.inr z) I9.ls.hL,_,rfl,?_⟩;rw [I9.ls.at_ z];refine cf (λcz=>?_) (λcz=>?_)
    .refine⟨_,rfl,_,rfl,_,rfl,_,rfl,_,rfl,_,_,rfl,rfl,?_⟩;refine⟨R,L,C,rs,aa,es,kvs,Lk,z,m',(by show [V.ref R,V.ref L,V.str z,V.ref C,V.int (((m'+1:Nat):Int) - 1)]=_;rw [show (((m'+1:Nat):Int) - 1)=(m':Int) ∅]),rfl,I9,cZ cz,λv t OK HA sA eA lA TL UB=>?_⟩;exact⟨OK,v,t,rfl,sA,I9.go sA eA lA,dX lA l9,TL,UB⟩
    have nz:z∉es:=λh=>cz (bh h);exact⟨Lk,.str z,.w z,rfl,λ_ _ _ h=>h,I9,l9,by unfold fV;rfl,jj.word λh=>nz (I0.all z (kb.mpr h))⟩
   rintro σ HA ⟨OK,v,t,rfl,sA,IA,lA,TL,UB⟩;have SX:=sA _ _ UX WU;have kt:∀a xs,aS K HA a xs->aS K (upd HA D (.lst (ys++[v]))) a xs:=λ_ _ z=>a7 SX z;refine⟨_,rfl,.inl ⟨rfl,_,aH.of SX⟩,_,rfl,D,_,_,rfl,rfl,SX,bM ∅,?_⟩;have sB2:cW D HA (upd HA D (.lst (ys++[v]))):=λb o nb hb=>by rw [aj nb];exact hb
   refine⟨OK,ys++[v],ts++[t],_,rfl,λb o nC nD h=>?_,⟨?_,IA.cy.keep kt,IA.len,IA.h3,IA.ls.xG sB2 SX,IA.all,IA.Qd,?_,IA.xg,IA.nR⟩,lA,ae,kt _ _ (sA.R6 I9.hC _ _ Sv),?_,?_⟩
   .rw [aj nD];exact sA _ _ nC (s9 _ _ nC nD h)
   .rw [aj nRD];exact IA.hR
   .rw [aj (gB UX)];exact IA.hC
   .exact aW (Paired.e_ p1 λ_ t y=>fV.keep (λ_ _ x=>kt _ _ (sA.R6 I9.hC _ _ x)) t y) (.cons (fV.keep kt t TL) .nil)
   rw [cP,ez];exact aW p2 (.cons UB .nil)
  rintro σ H9 ⟨Lk,ys,ts,y8,rfl,s9,I9,l9,WU,Sv,p1,p2⟩;rw [au,cE] at p2;refine⟨_,rfl,_,rfl,D,_,rfl,.inl ⟨aH.of WU,λt2 Nl=>⟨iP,λnd Zt=>?_⟩⟩⟩;have kA:=(af Nl (.tup ys)).trans (af Zt (.tup [.int (k:Int),.ref t2]));have vt:aS K (upd (upd H9 t2 (.tup ys)) nd (.tup [.int (k:Int),.ref t2])) t2 ys:=(af Zt _).tup (aS.of ae);have vn:aS K (upd (upd H9 t2 (.tup ys)) nd (.tup [.int (k:Int),.ref t2])) nd [.int (k:Int),.ref t2]:=aS.of ae;generalize upd (upd H9 t2 (.tup ys)) nd (.tup [.int (k:Int),.ref t2])=HA at kA vt vn;refine q (.ref nd) (.n k (gR.lL ts)) Lk HA (λb o nC h=>?_) (kA _ _ I9.hC) (by rw [a9];omega) ?_ ?_
  .refine kA _ _ (s9 _ _ nC (λz=>?_) (k8 _ _ (k7 _ _ nC (k6 _ _ (s5 _ _ h)))));rw [z] at h;rw [k7 _ _ UX (k6 _ _ (s5 _ _ h))] at hD;cases hD
  .unfold fV;exact⟨nd,t2,ys,rfl,vn,vt,hX.PR (Paired.e_ p1 λ_ t y=>fV.keep (λ_ _ x=>kA.tup x) t y)⟩
  exact jj.node er MR p2
end
theorem wc:∀(ds:List Dd),(ds.flatMap EE).length<=ds.length
 | []=>aF _
 | .step z::r=>by rw [mU,a9,dY];have:=wc r;show 1+_<=_;omega
 | .make k::r=>by rw [mU,a9,dY];have:=wc r;show 0+_<=_;omega
def Mb (t:Tr):(row t).length<=sz t:=by
 have h1:=wc (jK t);have h2:=oz t;rw [qw] at h1;omega
section
def xB (K:ba):Sp:=λvs H Q _=>∃(R C:Addr)(rs:List Addr)(aa:List ar) (fK:List Str)(cs:List Int)(x:Str),vs=[.ref R,.str x,.ref C]/\H R=some (.lst (rs.map V.ref))/\bK K H rs aa/\aa.length<=8/\(∀ru∈aa,ru.2.length<=3)/\fK.length<=3/\(∀z∈hm aa,z∈fK)/\(∀z∈hm aa,z∈cK true aa)/\aH K H C (cs.map V.int)/\cs.length<=1000/\x∈hm aa /\
 ∀(v:V)(t:Tr)(H':Hp),aA H H'->fV K H' t v->jj aa 9 t x->(row t).length<=40->Q v H'
abbrev NDt:List Str:=["_law_rules","_law_name","_law_cells","_law_least_here","_law_tree_here"]
def rL:aK NDt ["_law_rules","_law_name","_law_cells"] (av vZ):=iM rfl rfl rfl rfl (by decide +kernel)
def CK (F:iB K "_law_drawn_tree" "_law_drawn_tree" vZ f fd)(T:Txt mg)(GL:aC P w K mg base 10 "_law_least" ["_law_rules"] (xA K))(GT:aC P w K mg base 10 "_law_tree" ["_law_rules","_law_least_here","_law_name","_law_cells","_law_deep"] (vL K 7))
  (GD:aC P w K mg base 10 "_law_deeds" ["_law_tree_here"] (nu K 10)):bR P w K mg base gk 11 f fd ["_law_rules","_law_name","_law_cells"] (xB K):=by
 refine F.ok rL (λvs H Q E h=>?_) (λeX A outer s H vs Q E hr h=>?_)
 .obtain⟨R,C,rs,aa,fK,cs,x,rfl,_⟩:=h;rfl
 obtain⟨R,C,rs,aa,fK,cs,x,rfl,hR,cy,bE,h3,Sw,MU,M6,hC,GA,hx,q⟩:=h;have hu:=gh hr;refine⟨_,ai (az (i:=3) rL.nd rfl (bC rfl) (bp GL hr rfl (ab (pv 0) ag)))
  (ai (az (i:=4) rL.nd rfl (bC rfl) (bp GT hr rfl (ab (pv 0) (ab (pv 3) (ab (pv 1) (ab (bc fA rfl T.lst gH (ab (pv 2) ag)) (ab ao ag)))))))
  (ai (bI (aX xU (aD aG rfl T.len cY (ab (bD ["_law_deed"] [] rfl (a8 (bp GD hr rfl (ab (pv 4) ag))) (br rfl rfl) (by decide +kernel) rfl (by decide +kernel)
    (λ_ _ _ _ _=>aq (i:=0) (show (["_law_deed"]:List Str).Nodup by decide +kernel) rfl (bC rfl)) (λ_ _ _ _ _=>ip (aX hJ (aL (wD K) (pv 0) ao (λ_ _=>rfl)) bx (bJ _))) (λ_ _ _ _ _=>pv 0)) ag)) ao (bJ _))
   (ak (aN (fq hu (pv 3) (pv 1) (λ_ _=>rfl)))) aQ)
  (ak (aN (pv 4))))),?_⟩
 nofun
 refine⟨_,rfl,R,rs,aa,fK,rfl,aH.of hR,cy,bE,h3,Sw,MU,λL kvs H1 fL s1 L1 l3=>?_⟩;refine⟨_,rfl,_,rfl,_,rfl,_,rfl,C,_,rfl,.inl (s1.seq hC),λC2 yX=>?_⟩;have k2:=af yX (.lst (cs.map V.int));have e2:upd H1 C2 (.lst (cs.map V.int)) C2=some (.lst (cs.map V.int)):=ae;have fC:H C2=none:=s1.free yX;have nRC:R≠C2:=λz=>by rw [z,fC] at hR;cases hR
 generalize upd H1 C2 (.lst (cs.map V.int))=H2 at k2 e2;have s2:=s1.trans k2;have I2:AV K H2 R L C2 rs aa (cK true aa) kvs cs:=⟨s2 _ _ hR,cy.same s2,bE,h3,L1.same k2,M6,l3,e2,GA,nRC⟩;refine⟨R,L,C2,rs,aa,cK true aa,kvs,cs,x,6,rfl,rfl,I2,M6 x hx,λv t Iw H3 sT e3 l' tv ok=>?_⟩;have s3:aA H H3:=λb o hb=>sT b o (λz=>by rw [z,fC] at hb;cases hb) (s2 b o hb);have I3:=I2.go sT e3 l';obtain⟨lv,lt,el,tl,Si⟩:=I3.ls.get (M6 x hx);have dt:=ok.deep;have st:sz t<=29524:=dX ok.size (by decide);refine⟨_,rfl,v,t,rfl,tv,∅,∅,λD as H4 fD s4 eD pd=>?_⟩;have lad:=aU pd;have YI:=oz t;refine⟨D,rfl,⟨_,aH.of eD⟩,λD2 jb=>cM (xs:=as.map V.ref) (λk ys σ2 HC=>ys.length=(((jK t).take k).flatMap EE).length/\(∃y0,σ2=[y0])/\aA H4 HC/\HC D2=some (.lst ys))
    ⟨rfl,⟨none,rfl⟩,af jb _,ae⟩ (λk ys σ2 HC _ h=>?_) (λk y ys σ2 HC ex h=>?_) (λys σ2 HC h=>?_)⟩
 .obtain⟨_,_,sC,_⟩:=h;exact aH.of (sC _ _ eD)
 .obtain⟨ly,⟨y0,rfl⟩,sC,eC⟩:=h;rw [bz] at ex;obtain⟨ad,ZT,rfl⟩:=cC.mp ex;have li:=(bu.mp ZT).1;obtain⟨d,ed⟩:∃d,(jK t)[k]?=some d:=⟨(jK t)[k]'∅,dG ∅⟩;obtain⟨ad',Rm,vd⟩:=Paired.at_ pd k d ed;rw [ZT] at Rm;cases Rm;have Tc:ys.length<=1000000:=by
   have:=wc ((jK t).take k);rw [bO] at this;omega
  have G4:((jK t).take (k+1)).flatMap EE=((jK t).take k).flatMap EE++EE d:=by
   rw [cP,ed,i5];simp
  refine goN ?_;cases d with
  | step z =>
   have vA:aS K HC ad [.str "step",.str z]:=aS.of (sC _ _ vd);refine⟨_,rfl,ad,_,_,_,rfl,rfl,vA,rfl,rfl,_,rfl,?_⟩;refine d0 ?_;refine⟨_,rfl,eC,bM Tc,?_,⟨_,rfl⟩,λb o hb=>?_,ae⟩
   .rw [G4,a9,a9,ly];rfl
   rw [aj (λz=>by rw [z,jb] at hb;cases hb)];exact sC b o hb
  | make k2 =>
   have vA:aS K HC ad [.str "make",.int (k2:Int)]:=aS.of (sC _ _ vd);refine⟨_,rfl,ad,_,_,_,rfl,rfl,vA,rfl,rfl,_,rfl,?_⟩;refine cT ?_;refine⟨?_,⟨_,rfl⟩,sC,eC⟩;rw [G4];show _=(_++[]).length;rw [iR];exact ly
 obtain⟨ly,_,sC,eC⟩:=h;rw [au,mW ∅,qw] at ly;have s5:=s4.trans sC;have TM:=fV.keep (λ_ _ z=>s5.tup z) t tv;refine⟨D2,_,rfl,.inl (aH.of eC),_,_,rfl,rfl,_,rfl,?_⟩;refine cf (λc=>?_) (λc=>?_)
 .have lg:cq HC L (.str x) (some lv):=by
   have:=cq.k (k:=Sum.inr x) (s5 _ _ I3.ls.hL);rw [el] at this;exact this
  refine⟨_,rfl,_,rfl,L,_,rfl,lg,?_⟩;refine q lv lt HC (s3.trans s5) (fV.keep (λ_ _ y=>s5.tup y) lt tl) (Si.up ∅) ?_;have h1:=Mb lt;have h2:sB (cK true aa).length<=sB 3:=Ks l3;have h4:sB 3=40:=rfl;have:=Si.size;omega
 refine⟨_,rfl,q v t HC (s3.trans s5) TM ok ?_⟩;have c':¬(40:Int) < (ys.length:Int):=λh=>c (bh h);omega
end
abbrev rN:Stmt:=top 62
def N5:De->Nat
 | .d (.step _)=>1
 | _=>0
def mQ:List De->Nat
 | []=>0
 | d::r=>N5 d+mQ r
theorem gp:∀(xs ys:List De),mQ (xs++ys)=mQ xs+mQ ys
 | [],ys=>by show mQ ys=0+mQ ys;omega
 | d::r,ys=>by show N5 d+mQ (r++ys)=(N5 d+mQ r)+mQ ys;rw [gp r ys];omega
def EF:∀d:De,N5 d<=1
 | .d (.step _)=>aF _
 | .d (.make _)=>dW _
 | .si _=>dW _
 | .no=>dW _
 | .dn=>dW _
def IP:∀xs:List De,mQ (xs.take 1)<=1
 | []=>dW _
 | d::_=>EF d
def Bc (d:De):mQ [d]<=1:=EF d
def jt (xs:List De) (n:Nat):mQ (xs.take n)+mQ (xs.drop n)=mQ xs:=by
 rw [<-gp,pR]
def nr (xs:List De) (n:Nat):mQ ((xs.drop n).take 1)+mQ (xs.drop (n+1))=mQ (xs.drop n):=by
 have:=jt (xs.drop n) 1;rw [List.drop_drop] at this;exact this
def ON (aa:List ar)(es i4:List De):Prop:=(∀d∈i4,jH aa d)/\mQ i4<=mQ es+1/\i4.length<=es.length+1
def Ug {aa:List ar}{es:List De}(h:∀d∈es,jH aa d) (a:Nat):ON aa es (es.take a++es.drop (a+1)):=by
 have h1:=jt es a;have h2:=nr es a;refine⟨λd hd=>?_,?_,?_⟩
 .rcases bQ.mp hd with q | q
  .exact h d (i6 q)
  exact h d (mV q)
 .rw [gp];omega
 rw [a9,bO,ff];omega
def Ue {aa:List ar}{es:List De}(h:∀d∈es,jH aa d) (a:Nat):ON aa es (es.take a++(es.drop a).take 1++es.drop a):=by
 have h1:=jt es a;have h2:=IP (es.drop a);refine⟨λd hd=>?_,?_,?_⟩
 .rcases bQ.mp hd with q | q
  .rcases bQ.mp q with q | q
   .exact h d (i6 q)
   exact h d (mV (i6 q))
  exact h d (mV q)
 .rw [gp,gp];omega
 rw [a9,a9,bO,bO,ff];omega
def Ud {aa:List ar}{es:List De}(h:∀d∈es,jH aa d) (a:Nat):ON aa es (es.take a++((es.drop (a+1)).take 1++(es.drop a).take 1)++es.drop (a+2)):=by
 have h1:=jt es a;have h2:=nr es a;have h3:mQ ((es.drop (a+1)).take 1)+mQ (es.drop (a+2))=mQ (es.drop (a+1)):=nr es (a+1);refine⟨λd hd=>?_,?_,?_⟩
 .rcases bQ.mp hd with q | q
  .rcases bQ.mp q with q | q
   .exact h d (i6 q)
   rcases bQ.mp q with q | q
   .exact h d (mV (i6 q))
   exact h d (mV (i6 q))
  exact h d (mV q)
 .rw [gp,gp,gp];omega
 rw [a9,a9,a9,bO,bO,bO,ff,ff,ff];omega
def Uc {aa:List ar}{es:List De}{o:De}(h:∀d∈es,jH aa d)(ho:jH aa o) (a:Nat)(la:a < es.length):ON aa es (es.take a++[o]++es.drop (a+1)):=by
 have h1:=jt es a;have h2:=nr es a;have h3:=Bc o;refine⟨λd hd=>?_,?_,?_⟩
 .rcases bQ.mp hd with q | q
  .rcases bQ.mp q with q | q
   .exact h d (i6 q)
   rw [bF.mp q];exact ho
  exact h d (mV q)
 .rw [gp,gp];omega
 rw [a9,a9,bO,ff,gw];omega
def Ub {aa:List ar}{es:List De}{o:De}(h:∀d∈es,jH aa d)(ho:jH aa o):ON aa es (es++[o]):=by
 have h3:=Bc o;refine⟨λd hd=>?_,?_,?_⟩
 .rcases bQ.mp hd with q | q
  .exact h d q
  rw [bF.mp q];exact ho
 .rw [gp];omega
 rw [a9,gw];omega
def JZ (as:List Addr) (n:Nat):d8 (as.map V.ref) none (some (n:Int))=(as.take n).map V.ref:=by
 unfold d8;rw [HT.gG,HT.gZ,mj,jL,au,<-mR];by_cases h:n<=as.length
 .rw [mq h]
 rw [qY ∅,cE,mW ∅]
def cutD (as:List Addr) (n:Nat):d8 (as.map V.ref) (some (n:Int)) none=(as.drop n).map V.ref:=by
 unfold d8;rw [HT.gG,HT.gZ,au,<-oK,<-mR];by_cases h:n<=as.length
 .rw [mq h,mW (by rw [ff];exact aF _)]
 rw [qY ∅,oR,ze ∅];simp
def NP (as:List Addr) (n:Nat):d8 (as.map V.ref) (some (n:Int)) (some ((n+1:Nat):Int))=((as.drop n).take 1).map V.ref:=by
 unfold d8;rw [HT.gZ,HT.gZ,au,<-oK,<-mR];by_cases h:n+1<=as.length
 .rw [mq h,mq ∅,Nat.add_sub_cancel_left]
 rw [qY ∅];by_cases h2:n=as.length
 .rw [h2,Nat.min_self,oR];simp
 rw [qY ∅,oR,ze ∅];simp
def fh {m:Nat}{H:Hp}{p:Addr}{as:List Addr}{es:List De}(hp:H p=none)(h:lR m H as es):aA H (upd H p (.lst (as.map V.ref)))/\upd H p (.lst (as.map V.ref)) p=some (.lst (as.map V.ref))/\lR m (upd H p (.lst (as.map V.ref))) as es :=
 ⟨af hp _,ae,h.same (af hp _)⟩
def WC (m n:Nat):V.bl (decide (V.int (m:Int)=V.int (n:Int)))=V.bl (decide (m=n)):=by
 by_cases h:m=n
 .rw [bh h,bh (by rw [h])]
 rw [b0 h,b0 (λy=>h (by injection y with y2;omega))]
def Xv (x y z:Str) (n:Int):∃v:Str,jZ [V.str x,V.str y,V.str z] (n % 3)=some (V.str v):=by
 have:n % 3=0\/n % 3=1\/n % 3=2:=by omega
 rcases this with e | e | e
 .rw [e];exact⟨x,rfl⟩
 .rw [e];exact⟨y,rfl⟩
 rw [e];exact⟨z,rfl⟩
def tH (aa:List ar)(R D:Addr) (wy a:Nat) (c:Int)(H:Hp) (n:Nat):St->Hp->Prop:=λσ HH=>∃(O:Addr)(os:List Addr)(Ae:List De),σ=[aM R,aM D,some (.int (wy:Int)),some (.int (a:Int)),some (.int c),none,aM O,none]/\aA H HH/\HH O=some (.lst (os.map V.ref))/\lR aa.length HH os Ae/\(∀d∈Ae,jH aa d)/\Ae.length=n
def tH.add {aa:List ar}{R D:Addr}{wy a:Nat}{c:Int}{H HH HI:Hp}{n:Nat}{O p:Addr}{os us:List Addr}{Ae ues:List De}(s:aA H HH)(hO:HH O=some (.lst (os.map V.ref)))(dO:lR aa.length HH os Ae)(Ad:∀d∈Ae,jH aa d)(l:Ae.length=n)(sI:aA HH HI)(dU:lR aa.length HI us ues)(okU:∀d∈ues,jH aa d)(hp:HI p=none) :
  tH aa R D wy a c H (n+ues.length) [aM R,aM D,some (.int (wy:Int)),some (.int (a:Int)),some (.int c),none,aM p,none] (upd HI p (.lst (os.map V.ref++us.map V.ref))):=by
 rw [<-bG];obtain⟨s3,e3,d3⟩:=fh hp (aW (dO.same sI) dU);exact⟨p,os++us,Ae++ues,rfl,(s.trans sI).trans s3,e3,d3,λd hd=>(bQ.mp hd).elim (Ad d) (okU d),by rw [a9,l]⟩
section
def uj (K:ba):Sp:=λvs H Q _=>∃(R D:Addr)(rs as:List Addr)(aa:List ar)(es:List De) (wy a:Nat) (c:Int),vs=[.ref R,.ref D,.int (wy:Int),.int (a:Int),.int c]/\aH K H R (rs.map V.ref)/\bK K H rs aa/\aa≠[]/\aa.length<=1000/\H D=some (.lst (as.map V.ref))/\lR aa.length H as es/\(∀d∈es,jH aa d)/\es.length<=80000/\a < es.length/\wy < 16 /\
 ∀(D':Addr)(as':List Addr)(i4:List De)(H':Hp),aA H H'->H' D'=some (.lst (as'.map V.ref))->lR aa.length H' as' i4->ON aa es i4->Q (.ref D') H'
abbrev NSp:List Str:=["_law_rules","_law_deeds_here","_law_way","_law_at","_law_cell","_law_turned","_law_other","_law_spoiled_here"]
def gq:aK NSp ["_law_rules","_law_deeds_here","_law_way","_law_at","_law_cell"] (av rN):=iM rfl rfl rfl rfl (by decide +kernel)
def z8 (F:iB K "_law_spoiled" "_law_spoiled" rN f fd)(T:Txt mg):bR P w K mg base gk 1 f fd ["_law_rules","_law_deeds_here","_law_way","_law_at","_law_cell"] (uj K):=by
 refine F.ok gq (λvs H Q E h=>?_) (λeX A outer s H vs Q E hr h=>?_)
 .obtain⟨R,D,rs,as,aa,es,wy,a,c,rfl,_⟩:=h;rfl
 obtain⟨R,D,rs,as,aa,es,wy,a,c,rfl,hR,cy,qF,bE,hD,D0,JW,dl,la,lw,q⟩:=h;refine⟨_,ai (bI (aX hJ (pv 2) ao (bJ _)) (ak (aN (aI dH (bY dq (pv 1) dr (bS (pv 3))) (bY dq (pv 1) (bS (aI du (pv 3) ao)) dr)))) aQ)
  (ai (bI (aX hJ (pv 2) ao (bJ _)) (ak (aN (aI dH (aI dH (bY dq (pv 1) dr (bS (pv 3))) (bY dq (pv 1) (bS (pv 3)) (bS (aI du (pv 3) ao)))) (bY dq (pv 1) (bS (pv 3)) dr)))) aQ)
  (ai (bI (aX hJ (pv 2) ao (bJ _)) (ai (az (i:=5) gq.nd rfl (bC rfl) (aI dH (bY dq (pv 1) (bS (aI du (pv 3) ao)) (bS (aI du (pv 3) ao))) (bY dq (pv 1) (bS (pv 3)) (bS (aI du (pv 3) ao)))))
   (ak (aN (aI dH (aI dH (bY dq (pv 1) dr (bS (pv 3))) (pv 5)) (bY dq (pv 1) (bS (aI du (pv 3) ao)) dr))))) aQ)
  (ai (iK (az (i:=6) gq.nd rfl (bC rfl) (a_ (ab (bo (ab bx (ab (aL bB (a_ (ab bx (ab bx (ab bx ag)))) (aI c_ (pv 4) ao) (λ_ _=>rfl)) ag))) (ab (bo (ab bx (ab (aI c_ (pv 4) (aI Mn ao ao)) ag))) ag)))))
  (ai (iK (az (i:=6) gq.nd rfl (bC rfl) (aI dH (pv 6) (a_ (ab (bo (ab bx (ab (aL aZ (aL bB (pv 0) (aI c_ (pv 4) (aD aG rfl T.len cY (ab (pv 0) ag))) (λ_ _=>rfl)) ao (λ_ _=>rfl)) ag))) (ab (bo (ab bx (ab (aI c_ (pv 4) (aD aG rfl T.len cY (ab (pv 0) ag))) ag))) ag))))))
  (ai (iK (az (i:=6) gq.nd rfl (bC rfl) (aI dH (pv 6) (a_ (ab (bo (ab bx (ab (aI mz (ka iD ao) (aI c_ (pv 4) ao)) ag))) (ab (bo (ab bx (ab (aI du (aD aG rfl T.len cY (ab (pv 0) ag)) (aI c_ (pv 4) ao)) ag))) ag))))))
  (ai (iK (az (i:=6) gq.nd rfl (bC rfl) (aI dH (pv 6) (a_ (ab (bo (ab bx (ab (fu hJ (aI c_ (pv 4) ao) ao (bJ _)) ag))) (ab (bo (ab bx (ab bx ag))) (ab (bo (ab bx ag)) (ab (bo (ab bx ag)) (ab (bo (ab bx (ab ao ag))) ag)))))))))
  (ai (iK (az (i:=6) gq.nd rfl (bC rfl) (aI dH (pv 6) (a_ (ab (bo (ab bx ag)) (ab (bo (ab bx (ab ao ag))) ag))))))
  (ai (az (i:=7) gq.nd rfl (bC rfl) (aI dH (aI dH (bY dq (pv 1) dr (bS (pv 3))) (a_ (ab (aL bB (pv 6) (aI mz (pv 2) ao) (λ_ _=>rfl)) ag))) (bY dq (pv 1) (bS (aI du (pv 3) ao)) dr)))
  (ai (bI (aX hJ (aI c_ (aI fS (pv 4) ao) ao) ao (bJ _)) (ak (az (i:=7) gq.nd rfl (bC rfl) (aI dH (pv 1) (a_ (ab (aL bB (pv 6) (aI mz (pv 2) ao) (λ_ _=>rfl)) ag))))) aQ)
  (ak (aN (pv 7)))))))))))),?_⟩
 nofun
 have Sm:=aU D0;have ll:=aU cy;have yF:((a:Int)+1)=((a+1:Nat):Int):=rfl;have cast2:((a:Int)+2)=((a+2:Nat):Int):=rfl;refine⟨_,rfl,rfl,decide (wy=0),WC wy 0,?_⟩;refine cf (λc0=>?_) (λc0=>?_)
 .refine⟨_,rfl,_,rfl,_,rfl,D,_,rfl,aH.of hD,λp1 h1=>?_⟩;rw [JZ];obtain⟨s1,e1,d1⟩:=fh h1 (dB D0 a);generalize upd H p1 (.lst ((as.take a).map V.ref))=H1 at s1 e1 d1;refine⟨_,rfl,_,rfl,_,_,rfl,rfl,_,rfl,D,_,rfl,aH.of (s1 _ _ hD),λp2 h2=>?_⟩;rw [yF,cutD];obtain⟨s2,e2,d2⟩:=fh h2 (dC (D0.same s1) (a+1));generalize upd H1 p2 (.lst ((as.drop (a+1)).map V.ref))=H2 at s2 e2 d2;refine⟨p1,p2,_,_,rfl,rfl,s2 _ _ e1,e2,fits (by rw [au,au,bO,ff];omega),λp3 h3=>?_⟩;rw [<-bG];obtain⟨s3,e3,d3⟩:=fh h3 (aW (d1.same s2) d2);exact q p3 _ _ _ ((s1.trans s2).trans s3) e3 d3 (Ug JW a)
 refine⟨_,rfl,rfl,decide (wy=1),WC wy 1,?_⟩;refine cf (λc1=>?_) (λc1=>?_)
 .refine⟨_,rfl,_,rfl,_,rfl,D,_,rfl,aH.of hD,λp1 h1=>?_⟩;rw [JZ];obtain⟨s1,e1,d1⟩:=fh h1 (dB D0 a);generalize upd H p1 (.lst ((as.take a).map V.ref))=H1 at s1 e1 d1;refine⟨_,rfl,_,rfl,_,rfl,_,rfl,_,_,rfl,rfl,_,rfl,D,_,rfl,aH.of (s1 _ _ hD),λp2 h2=>?_⟩;rw [yF,NP];obtain⟨s2,e2,d2⟩:=fh h2 (dB (dC (D0.same s1) a) 1);generalize upd H1 p2 (.lst (((as.drop a).take 1).map V.ref))=H2 at s2 e2 d2;refine⟨p1,p2,_,_,rfl,rfl,s2 _ _ e1,e2,fits (by rw [au,au,bO,bO,ff];omega),λp3 h3=>?_⟩;rw [<-bG];obtain⟨s3,e3,d3⟩:=fh h3 (aW (d1.same s2) d2);generalize upd H2 p3 (.lst ((as.take a++(as.drop a).take 1).map V.ref))=H3 at s3 e3 d3;have yS:=(s1.trans s2).trans s3;refine⟨_,rfl,_,rfl,_,rfl,D,_,rfl,aH.of (yS _ _ hD),λp4 h4=>?_⟩;rw [cutD];obtain⟨s4,e4,d4⟩:=fh h4 (dC (D0.same yS) a);generalize upd H3 p4 (.lst ((as.drop a).map V.ref))=H4 at s4 e4 d4;refine⟨p3,p4,_,_,rfl,rfl,s4 _ _ e3,e4,fits (by rw [au,au,a9,bO,bO,ff];omega),λp5 h5=>?_⟩;rw [<-bG];obtain⟨s5,e5,d5⟩:=fh h5 (aW (d3.same s4) d4);exact q p5 _ _ _ (yS.trans (s4.trans s5)) e5 d5 (Ue JW a)
 refine⟨_,rfl,rfl,decide (wy=2),WC wy 2,?_⟩;refine cf (λc2=>?_) (λc2=>?_)
 .refine⟨_,rfl,_,rfl,_,_,rfl,rfl,_,rfl,_,rfl,_,_,rfl,rfl,_,rfl,D,_,rfl,aH.of hD,λp1 h1=>?_⟩;rw [yF,cast2,NP as (a+1)];obtain⟨s1,e1,d1⟩:=fh h1 (dB (dC D0 (a+1)) 1);generalize upd H p1 (.lst (((as.drop (a+1)).take 1).map V.ref))=H1 at s1 e1 d1;refine⟨_,rfl,_,rfl,_,rfl,_,rfl,_,_,rfl,rfl,_,rfl,D,_,rfl,aH.of (s1 _ _ hD),λp2 h2=>?_⟩;rw [yF,NP];obtain⟨s2,e2,d2⟩:=fh h2 (dB (dC (D0.same s1) a) 1);generalize upd H1 p2 (.lst (((as.drop a).take 1).map V.ref))=H2 at s2 e2 d2;refine⟨p1,p2,_,_,rfl,rfl,s2 _ _ e1,e2,fits (by rw [au,au,bO,bO,ff,ff];omega),λp3 h3=>?_⟩;rw [<-bG];obtain⟨s3,e3,d3⟩:=fh h3 (aW (d1.same s2) d2);generalize upd H2 p3 (.lst (((as.drop (a+1)).take 1++(as.drop a).take 1).map V.ref))=H3 at s3 e3 d3;have yS:=(s1.trans s2).trans s3;refine⟨_,rfl,_,rfl,_,rfl,D,_,rfl,aH.of (yS _ _ hD),λp4 h4=>?_⟩;rw [JZ];obtain⟨s4,e4,d4⟩:=fh h4 (dB (D0.same yS) a);generalize upd H3 p4 (.lst ((as.take a).map V.ref))=H4 at s4 e4 d4;refine⟨_,rfl,p4,p3,_,_,rfl,rfl,e4,s4 _ _ e3,fits (by rw [au,au,a9,bO,bO,bO,ff,ff];omega),λp5 h5=>?_⟩;rw [<-bG];obtain⟨s5,e5,d5⟩:=fh h5 (aW d4 (d3.same s4));generalize upd H4 p5 (.lst ((as.take a++((as.drop (a+1)).take 1++(as.drop a).take 1)).map V.ref))=H5 at s5 e5 d5;have Ku:=yS.trans (s4.trans s5);refine⟨_,rfl,_,rfl,_,_,rfl,rfl,_,rfl,D,_,rfl,aH.of (Ku _ _ hD),λp6 h6=>?_⟩;rw [cast2,cutD];obtain⟨s6,e6,d6⟩:=fh h6 (dC (D0.same Ku) (a+2));generalize upd H5 p6 (.lst ((as.drop (a+2)).map V.ref))=H6 at s6 e6 d6;refine⟨p5,p6,_,_,rfl,rfl,s6 _ _ e5,e6,fits (by rw [au,au,a9,a9,bO,bO,bO,ff,ff,ff];omega),λp7 h7=>?_⟩;rw [<-bG];obtain⟨s7,e7,d7⟩:=fh h7 (aW (d5.same s6) d6);exact q p7 _ _ _ (Ku.trans (s6.trans s7)) e7 d7 (Ud JW a)
 have l3:3<=wy:=by
  have h0:wy≠0:=λz=>c0 (bh z);have h1:wy≠1:=λz=>c1 (bh z);have h2:wy≠2:=λz=>c2 (bh z);omega
 clear c0 c1 c2;have yd:0 < aa.length:=List.length_pos_iff.mpr qF;have hp:(0:Int) < ((rs.map V.ref).length:Int):=by rw [au];omega
 obtain⟨k,ek,lk⟩:∃k:Nat,c % ((rs.map V.ref).length:Int)=(k:Int)/\k < aa.length:=by
  have h1:=qU c (show ((rs.map V.ref).length:Int)≠0 ∅);have h2:=vj c hp;rw [au] at h1 h2 ⊢;exact⟨(c % (rs.length:Int)).toNat,∅,∅⟩
 have ee:(rs.map V.ref).length=aa.length:=by rw [au];exact ll
 refine⟨tH aa R D wy a c H 2,?_,?_⟩
 .obtain⟨z,ez⟩:=Xv "a" "b" "ab" c;refine⟨IE,λL1 Ou=>⟨_,rfl,_,_,rfl,rfl,(by show (0:Int) < 3;decide),L1,_,_,_,rfl,rfl,aH.of ae,ez,iP,λu1 yf=>?_⟩⟩;have k1:=(af Ou (.lst [V.str "a",V.str "b",V.str "ab"])).trans (af yf (.tup [V.str "step",V.str z]));have e1:upd (upd H L1 (.lst [V.str "a",V.str "b",V.str "ab"])) u1 (.tup [V.str "step",V.str z]) u1=some (.tup [V.str "step",V.str z]):=ae;generalize upd (upd H L1 (.lst [V.str "a",V.str "b",V.str "ab"])) u1 (.tup [V.str "step",V.str z])=H1 at k1 e1;refine⟨_,rfl,_,_,rfl,rfl,⟨by decide,by decide,by decide⟩,_,_,rfl,rfl,(by show (0:Int) < 10 ^ (30:Int).toNat;decide),iP,λu2 BM=>?_⟩;have k2:=af BM (.tup [V.str "step",V.int (c % (10 ^ (30:Int).toNat))]);have e2:upd H1 u2 (.tup [V.str "step",V.int (c % (10 ^ (30:Int).toNat))]) u2=some (.tup [V.str "step",V.int (c % (10 ^ (30:Int).toNat))]):=ae;generalize upd H1 u2 (.tup [V.str "step",V.int (c % (10 ^ (30:Int).toNat))])=H2 at k2 e2;refine⟨iP,λO hO=>?_⟩;have dU:lR aa.length H2 [u1,u2] [.d (.step z),.si (c % (10 ^ (30:Int).toNat))]:=.cons (k2 _ _ e1) (.cons e2 .nil);obtain⟨s3,e3,d3⟩:=fh hO dU;refine⟨O,[u1,u2],_,rfl,(k1.trans k2).trans s3,e3,d3,λd hd=>?_,rfl⟩;rcases bW.mp hd with rfl | hd
  .exact trivial
  rw [bF.mp hd];exact trivial
 rintro σ HH ⟨O,os,Ae,rfl,sO,eO,dO,Ad,lO⟩;refine⟨tH aa R D wy a c H 4,?_,?_⟩
 .have rl:=cy.same sO;have K4:=sO.seq hR;have er:aa[k]?=some aa[k]:=dG lk;generalize aa[k]=ru at er;obtain⟨r,err,p,v1,v2⟩:=Paired.at_ rl k ru er;have uZ:jZ (rs.map V.ref) (c % ((rs.map V.ref).length:Int))=some (.ref r):=by
   rw [ek];exact bZ (by rw [bz,err];rfl)
  refine⟨_,rfl,_,rfl,_,rfl,_,rfl,R,_,rfl,.inl K4,_,_,rfl,rfl,hp,R,_,_,_,rfl,rfl,K4,uZ,r,_,_,_,rfl,rfl,v1,rfl,iP,λu1 yf=>?_⟩;have k1:=af yf (.tup [V.str "step",V.str ru.1]);have e1:upd HH u1 (.tup [V.str "step",V.str ru.1]) u1=some (.tup [V.str "step",V.str ru.1]):=ae;generalize upd HH u1 (.tup [V.str "step",V.str ru.1])=H1 at k1 e1;refine⟨_,rfl,_,rfl,R,_,rfl,.inl (k1.seq K4),_,_,rfl,rfl,hp,iP,λu2 BM=>?_⟩;have k2:=af BM (.tup [V.str "make",V.int (c % ((rs.map V.ref).length:Int))]);have e2:upd H1 u2 (.tup [V.str "make",V.int (c % ((rs.map V.ref).length:Int))]) u2=some (.tup [V.str "make",V.int (c % ((rs.map V.ref).length:Int))]):=ae;generalize upd H1 u2 (.tup [V.str "make",V.int (c % ((rs.map V.ref).length:Int))])=H2 at k2 e2;rw [ek] at e2;refine⟨iP,λL hL=>?_⟩;have k3:=af hL (.lst [V.ref u1,V.ref u2]);have e3:upd H2 L (.lst [V.ref u1,V.ref u2]) L=some (.lst [V.ref u1,V.ref u2]):=ae;generalize upd H2 L (.lst [V.ref u1,V.ref u2])=H3 at k3 e3;have KS:=(k1.trans k2).trans k3;have lo:=aU dO;refine⟨O,L,_,_,rfl,rfl,KS _ _ eO,e3,fits (by rw [au];show _+2<=1000000;omega),λO2 Nd=>?_⟩;refine tH.add (us:=[u1,u2]) (ues:=[.d (.step ru.1),.d (.make k)]) sO eO dO Ad lO KS (.cons (k3 _ _ (k2 _ _ e1)) (.cons (k3 _ _ e2) .nil)) (λd hd=>?_) Nd;rcases bW.mp hd with rfl | hd
  .exact trivial
  rw [bF.mp hd];exact lk
 clear sO eO dO Ad lO;rintro σ HH ⟨O,os,Ae,rfl,sO,eO,dO,Ad,lO⟩;refine⟨tH aa R D wy a c H 6,?_,?_⟩
 .have K4:=sO.seq hR;refine⟨_,rfl,_,rfl,_,rfl,_,_,rfl,rfl,(by show (0:Int) < 3;decide),_,_,rfl,rfl,iP,λu1 yf=>?_⟩;have k1:=af yf (.tup [V.str "make",V.int (-1 - c % 3)]);have e1:upd HH u1 (.tup [V.str "make",V.int (-1 - c % 3)]) u1=some (.tup [V.str "make",V.int (-1 - c % 3)]):=ae;generalize upd HH u1 (.tup [V.str "make",V.int (-1 - c % 3)])=H1 at k1 e1;refine⟨_,rfl,R,_,rfl,.inl (k1.seq K4),_,rfl,_,_,rfl,rfl,(by show (0:Int) < 2;decide),_,_,rfl,rfl,iP,λu2 BM=>?_⟩;have k2:=af BM (.tup [V.str "make",V.int (((rs.map V.ref).length:Int)+c % 2)]);have e2:upd H1 u2 (.tup [V.str "make",V.int (((rs.map V.ref).length:Int)+c % 2)]) u2=some (.tup [V.str "make",V.int (((rs.map V.ref).length:Int)+c % 2)]):=ae;generalize upd H1 u2 (.tup [V.str "make",V.int (((rs.map V.ref).length:Int)+c % 2)])=H2 at k2 e2;refine⟨iP,λL hL=>?_⟩;have k3:=af hL (.lst [V.ref u1,V.ref u2]);have e3:upd H2 L (.lst [V.ref u1,V.ref u2]) L=some (.lst [V.ref u1,V.ref u2]):=ae;generalize upd H2 L (.lst [V.ref u1,V.ref u2])=H3 at k3 e3;have KS:=(k1.trans k2).trans k3;have lo:=aU dO;refine⟨O,L,_,_,rfl,rfl,KS _ _ eO,e3,fits (by rw [au];show _+2<=1000000;omega),λO2 Nd=>?_⟩;refine tH.add (us:=[u1,u2]) (ues:=[.no,.no]) sO eO dO Ad lO KS (.cons ⟨_,k3 _ _ (k2 _ _ e1),.inr (.inr ⟨_,rfl,.inl ⟨_,rfl,∅⟩⟩)⟩ (.cons ⟨_,k3 _ _ e2,.inr (.inr ⟨_,rfl,.inl ⟨_,rfl,by rw [ee];omega⟩⟩)⟩ .nil)) (λd hd=>?_) Nd;rcases bW.mp hd with rfl | hd
  .exact trivial
  rw [bF.mp hd];exact trivial
 clear sO eO dO Ad lO;rintro σ HH ⟨O,os,Ae,rfl,sO,eO,dO,Ad,lO⟩;refine⟨tH aa R D wy a c H 11,?_,?_⟩
 .refine⟨_,rfl,_,rfl,_,_,rfl,rfl,(by show (0:Int) < 2;decide),rfl,iP,λu1 yf=>?_⟩;have k1:=af yf (.tup [V.str "make",V.bl (decide (V.int (c % 2)=V.int 1))]);have e1:upd HH u1 (.tup [V.str "make",V.bl (decide (V.int (c % 2)=V.int 1))]) u1=some (.tup [V.str "make",V.bl (decide (V.int (c % 2)=V.int 1))]):=ae;generalize upd HH u1 (.tup [V.str "make",V.bl (decide (V.int (c % 2)=V.int 1))])=H1 at k1 e1;refine⟨iP,λu2 BM=>?_⟩;have k2:=af BM (.tup [V.str "make",V.str "a"]);have e2:upd H1 u2 (.tup [V.str "make",V.str "a"]) u2=some (.tup [V.str "make",V.str "a"]):=ae;generalize upd H1 u2 (.tup [V.str "make",V.str "a"])=H2 at k2 e2;refine⟨qg,λu3 hu3=>?_⟩;have k3:=af hu3 (.tup [V.str "done"]);have e3:upd H2 u3 (.tup [V.str "done"]) u3=some (.tup [V.str "done"]):=ae;generalize upd H2 u3 (.tup [V.str "done"])=H3 at k3 e3;refine⟨qg,λu4 hu4=>?_⟩;have k4:=af hu4 (.tup [V.str "step"]);have e4:upd H3 u4 (.tup [V.str "step"]) u4=some (.tup [V.str "step"]):=ae;generalize upd H3 u4 (.tup [V.str "step"])=H4 at k4 e4;refine⟨iP,λu5 hu5=>?_⟩;have k5:=af hu5 (.tup [V.str "stop",V.int 0]);have e5:upd H4 u5 (.tup [V.str "stop",V.int 0]) u5=some (.tup [V.str "stop",V.int 0]):=ae;generalize upd H4 u5 (.tup [V.str "stop",V.int 0])=H5 at k5 e5;refine⟨zl5,λL hL=>?_⟩;have k6:=af hL (.lst [V.ref u1,V.ref u2,V.ref u3,V.ref u4,V.ref u5]);have e6:upd H5 L (.lst [V.ref u1,V.ref u2,V.ref u3,V.ref u4,V.ref u5]) L=some (.lst [V.ref u1,V.ref u2,V.ref u3,V.ref u4,V.ref u5]):=ae;generalize upd H5 L (.lst [V.ref u1,V.ref u2,V.ref u3,V.ref u4,V.ref u5])=H6 at k6 e6;have YO:=k5.trans k6;have YQ:=k4.trans YO;have YR:=k3.trans YQ;have YS:=k2.trans YR;have YV:=k1.trans YS;have lo:=aU dO;refine⟨O,L,_,_,rfl,rfl,YV _ _ eO,e6,fits (by rw [au];show _+5<=1000000;omega),λO2 Nd=>?_⟩;refine tH.add (us:=[u1,u2,u3,u4,u5]) (ues:=[.no,.no,.dn,.no,.no]) sO eO dO Ad lO YV (.cons ⟨_,YS _ _ e1,.inr (.inr ⟨_,rfl,.inr (.inl ⟨_,rfl⟩)⟩)⟩ (.cons ⟨_,YR _ _ e2,.inr (.inr ⟨_,rfl,.inr (.inr ⟨_,rfl⟩)⟩)⟩ (.cons (YQ _ _ e3) (.cons ⟨_,YO _ _ e4,.inl ⟨_,rfl,by decide⟩⟩ (.cons ⟨_,k6 _ _ e5,.inr (.inl ⟨_,_,rfl,by decide,by decide⟩)⟩ .nil))))) (λd hd=>?_) Nd;rcases bW.mp hd with rfl | hd
  .exact trivial
  rcases bW.mp hd with rfl | hd
  .exact trivial
  rcases bW.mp hd with rfl | hd
  .exact trivial
  rcases bW.mp hd with rfl | hd
  .exact trivial
  rw [bF.mp hd];exact trivial
 clear sO eO dO Ad lO;rintro σ HH ⟨O,os,Ae,rfl,sO,eO,dO,Ad,lO⟩;refine⟨tH aa R D wy a c H 13,?_,?_⟩
 .refine⟨_,rfl,qg,λu1 yf=>?_⟩;have k1:=af yf (.tup [V.str "make"]);have e1:upd HH u1 (.tup [V.str "make"]) u1=some (.tup [V.str "make"]):=ae;generalize upd HH u1 (.tup [V.str "make"])=H1 at k1 e1;refine⟨iP,λu2 BM=>?_⟩;have k2:=af BM (.tup [V.str "done",V.int 0]);have e2:upd H1 u2 (.tup [V.str "done",V.int 0]) u2=some (.tup [V.str "done",V.int 0]):=ae;generalize upd H1 u2 (.tup [V.str "done",V.int 0])=H2 at k2 e2;refine⟨iP,λL hL=>?_⟩;have k3:=af hL (.lst [V.ref u1,V.ref u2]);have e3:upd H2 L (.lst [V.ref u1,V.ref u2]) L=some (.lst [V.ref u1,V.ref u2]):=ae;generalize upd H2 L (.lst [V.ref u1,V.ref u2])=H3 at k3 e3;have KS:=(k1.trans k2).trans k3;have lo:=aU dO;refine⟨O,L,_,_,rfl,rfl,KS _ _ eO,e3,fits (by rw [au];show _+2<=1000000;omega),λO2 Nd=>?_⟩;refine tH.add (us:=[u1,u2]) (ues:=[.no,.no]) sO eO dO Ad lO KS (.cons ⟨_,k3 _ _ (k2 _ _ e1),.inl ⟨_,rfl,by decide⟩⟩ (.cons ⟨_,k3 _ _ e2,.inr (.inl ⟨_,_,rfl,by decide,by decide⟩)⟩ .nil)) (λd hd=>?_) Nd;rcases bW.mp hd with rfl | hd
  .exact trivial
  rw [bF.mp hd];exact trivial
 clear sO eO dO Ad lO;rintro σ HH ⟨O,os,Ae,rfl,sO,eO,dO,Ad,lO⟩;obtain⟨o,eo⟩:∃o,Ae[wy - 3]?=some o:=⟨Ae[wy - 3]'∅,dG ∅⟩;obtain⟨oa,eoa,vo⟩:=Paired.at_ dO (wy - 3) o eo;have Yr:=Ad o (b9 eo);have ato:jZ (os.map V.ref) ((wy:Int) - 3)=some (.ref oa):=by
  rw [show ((wy:Int) - 3)=((wy - 3:Nat):Int) ∅];exact bZ (by rw [bz,eoa];rfl)
 have Wj:=sO _ _ hD;have DO:=D0.same sO;refine⟨_,rfl,_,rfl,_,rfl,D,_,rfl,aH.of Wj,λp1 h1=>?_⟩;rw [JZ];obtain⟨s1,e1,d1⟩:=fh h1 (dB DO a);generalize upd HH p1 (.lst ((as.take a).map V.ref))=H1 at s1 e1 d1;refine⟨_,rfl,_,rfl,_,_,rfl,rfl,O,_,_,_,rfl,rfl,aH.of (s1 _ _ eO),ato,qg,λp2 h2=>?_⟩;obtain⟨s2,e2,d2⟩:=fh (as:=[oa]) (es:=[o]) h2 (.cons (vo.same s1) .nil);have e2:upd H1 p2 (.lst [V.ref oa]) p2=some (.lst ([oa].map V.ref)):=e2;have d2:lR aa.length (upd H1 p2 (.lst [V.ref oa])) [oa] [o]:=d2;have s2:aA H1 (upd H1 p2 (.lst [V.ref oa])):=s2;generalize upd H1 p2 (.lst [V.ref oa])=H2 at s2 e2 d2;refine⟨p1,p2,_,_,rfl,rfl,s2 _ _ e1,e2,fits (by rw [au,au,bO];show _+1<=1000000;omega),λp3 h3=>?_⟩;rw [<-bG];obtain⟨s3,e3,d3⟩:=fh h3 (aW (d1.same s2) d2);generalize upd H2 p3 (.lst ((as.take a++[oa]).map V.ref))=H3 at s3 e3 d3;have yS:=(s1.trans s2).trans s3;refine⟨_,rfl,_,rfl,_,_,rfl,rfl,_,rfl,D,_,rfl,aH.of (yS _ _ Wj),λp4 h4=>?_⟩;rw [yF,cutD];obtain⟨s4,e4,d4⟩:=fh h4 (dC (DO.same yS) (a+1));generalize upd H3 p4 (.lst ((as.drop (a+1)).map V.ref))=H4 at s4 e4 d4;refine⟨p3,p4,_,_,rfl,rfl,s4 _ _ e3,e4,fits (by rw [au,au,a9,bO,ff];show _+1+_<=1000000;omega),λp5 h5=>?_⟩;rw [<-bG];obtain⟨s5,e5,d5⟩:=fh h5 (aW (d3.same s4) d4);generalize upd H4 p5 (.lst ((as.take a++[oa]++as.drop (a+1)).map V.ref))=H5 at s5 e5 d5;have Ku:=yS.trans (s4.trans s5);refine⟨_,rfl,_,_,rfl,rfl,⟨by decide,by decide⟩,_,_,rfl,rfl,(by show (0:Int) < 7;decide),rfl,_,rfl,?_⟩;refine cf (λcc=>?_) (λcc=>?_)
 .refine⟨_,rfl,_,rfl,_,rfl,_,_,rfl,rfl,O,_,_,_,rfl,rfl,aH.of (Ku _ _ eO),ato,qg,λp6 h6=>?_⟩;obtain⟨s6,e6,d6⟩:=fh (as:=[oa]) (es:=[o]) h6 (.cons (vo.same Ku) .nil);have e6:upd H5 p6 (.lst [V.ref oa]) p6=some (.lst ([oa].map V.ref)):=e6;have d6:lR aa.length (upd H5 p6 (.lst [V.ref oa])) [oa] [o]:=d6;have s6:aA H5 (upd H5 p6 (.lst [V.ref oa])):=s6;generalize upd H5 p6 (.lst [V.ref oa])=H6 at s6 e6 d6;have Up:=Ku.trans s6;refine⟨D,p6,_,_,rfl,rfl,Up _ _ Wj,e6,fits (by rw [au,au];show _+1<=1000000;omega),λp7 h7=>?_⟩;rw [<-bG];obtain⟨s7,e7,d7⟩:=fh h7 (aW (DO.same Up) d6);exact⟨_,rfl,q p7 _ _ _ (sO.trans (Up.trans s7)) e7 d7 (Ub JW Yr)⟩
 exact⟨_,rfl,q p5 _ _ _ (sO.trans Ku) e5 d5 (Uc JW Yr a la)⟩
end
def Ki {A:Around}{k n:Nat}(hr:fX k A)(h:n<=16 * k+200):A.units+n < cLine:=by have:=hr.un;omega
mutual
theorem Hl {K:ba}{H:Hp}:∀(t:Tr)(v v':V) (n:Nat),fV K H t v->fV K H t v'->2 * dp t<=n->DY K H n v v'
 | .w z,v,v',n,h,h',_=>by
  unfold fV at h h';subst h;subst h';exact DY.self (.inl rfl) n
 | .n k cs,v,v',n,h,h',hn=>by
  unfold fV at h h';obtain⟨a,p,vs,rfl,ha,hp,hc⟩:=h;obtain⟨a',p',zq,rfl,V7,nZ,lQ⟩:=h';unfold dp at hn;obtain⟨m,rfl⟩:∃m,n=m+2:=⟨n - 2,∅⟩;refine .inr ⟨a,a',_,_,rfl,rfl,.inr ⟨ha,V7⟩,.cons (DY.self (.inl rfl) _) (.cons ?_ .nil)⟩;exact .inr ⟨p,p',vs,zq,rfl,rfl,.inr ⟨hp,nZ⟩,lI cs vs zq m hc lQ ∅⟩
theorem lI {K:ba}{H:Hp}:∀(ts:gR)(vs zq:List V) (n:Nat),hX K H ts vs->hX K H ts zq->2 * xj ts<=n->Paired (DY K H n) vs zq
 | .nil,vs,zq,n,h,h',_=>by
  unfold hX at h h';subst h;subst h';exact .nil
 | .cons t r,vs,zq,n,h,h',hn=>by
  unfold hX at h h';obtain⟨v,us,rfl,h1,h2⟩:=h;obtain⟨v',uc,rfl,h1',h2'⟩:=h';unfold xj at hn;exact .cons (Hl t v v' n h1 h1' ∅) (lI r us uc n h2 h2' ∅)
end
mutual
theorem La {aa:List ar}:∀(t:Tr)(x:Str),Is aa t x->row t=[]->Em aa x
 | .w z,x,_,e=>by unfold row at e;cases e
 | .n k cs,x,h,e=>by
  unfold Is at h;obtain⟨bq,er,hi⟩:=h;unfold row at e;exact Em.mk (ru:=(x,bq)) (b9 er) (G_ cs bq hi e)
theorem G_ {aa:List ar}:∀(ts:gR) (ps:List Str),tO aa ts ps->rows ts=[]->∀p∈ps,Em aa p
 | .nil,ps,h,_=>by unfold tO at h;subst h;intro p hp;cases hp
 | .cons t r,ps,h,e=>by
  unfold tO at h;obtain⟨p,Bz,rfl,h1,h2⟩:=h;unfold rows at e;obtain⟨e1,e2⟩:=List.append_eq_nil_iff.mp e;intro q hq;rcases bW.mp hq with rfl | hq
  .exact La t _ h1 e1
  exact G_ r Bz h2 e2 q hq
end
theorem Hg:∀(ts:gR) (m:Nat),(∀t∈ts.jk,dp t<=m)->xj ts<=m
 | .nil,m,_=>by unfold xj;exact dW _
 | .cons t r,m,h=>by
  have h1:=h t cH;have h2:=Hg r m λu hu=>h u (dA _ hu);unfold xj;omega
theorem qA:∀(ts:List Tr) (j:Nat)(c:Tr),ts[j]?=some c->(row c).length<=(ts.flatMap row).length
 | [],j,c,e=>by cases e
 | t::r,0,c,e=>by cases e;rw [mU,a9];omega
 | t::r,j+1,c,e=>by
  have:=qA r j c e;rw [mU,a9];omega
theorem A3:∀(ts:List Tr) (j k:Nat)(c u:Tr),j≠k->ts[j]?=some c->ts[k]?=some u->(row c).length+(row u).length<=(ts.flatMap row).length
 | [],j,k,c,u,_,e,_=>by cases e
 | t::r,0,0,c,u,n,_,_=>absurd rfl n
 | t::r,0,k+1,c,u,_,e,e2=>by
  cases e;have:=qA r k u e2;rw [mU,a9];omega
 | t::r,j+1,0,c,u,_,e,e2=>by
  cases e2;have:=qA r j c e;rw [mU,a9];omega
 | t::r,j+1,k+1,c,u,n,e,e2=>by
  have:=A3 r j k c u (λz=>n (by rw [z])) e e2;rw [mU,a9];omega
theorem Hi {aa:List ar}{rk:Str->Nat}(R:HK aa rk):∀(n:Nat)(t:Tr)(x:Str),sz t<=n->Is aa t x->dp t<=4 * (row t).length+rk x+1
 | 0,t,x,h,_=>by have:=EB t;omega
 | n+1,.w z,x,_,_=>by unfold dp;exact dW _
 | n+1,.n k cs,x,h,hi=>by
  unfold Is at hi;obtain⟨bq,er,hp⟩:=hi;obtain⟨ln,pr⟩:=tO.paired cs hp;have G5:=b9 er;have key:xj cs<=4 * (row (.n k cs)).length+rk x:=by
   refine Hg cs _ λc hc=>?_;obtain⟨j,ej⟩:=iH hc;have lj:=(bu.mp ej).1;obtain⟨z,ez⟩:∃z,bq[j]?=some z:=⟨bq[j]'∅,dG ∅⟩;have ic:=pr j c z ej ez;have sc:sz c<=n:=by
    have:=vJ cs c hc;unfold sz at h;omega
   have ih:=Hi R n c z sc ic;have r3:=R.1 z;have el:row (.n k cs)=cs.jk.flatMap row:=by unfold row;exact rS cs
   rw [el];have o1:=qA cs.jk j c ej;cases c with
   | w y=>unfold dp;exact dW _
   | n k2 Iv =>
    have hz:z∈hd aa:=by
     unfold Is at ic;obtain⟨Sf,e2,_⟩:=ic;exact n8 (ru:=(z,Sf)) (b9 e2)
    by_cases c1:∀(i:Nat)(u:Tr),i≠j->cs.jk[i]?=some u->row u=[]
    .have lt:=R.2 (x,bq) G5 j z ez hz λi y ni ei=>by
      have li:i < bq.length:=(bu.mp ei).1;obtain⟨u,eu⟩:∃u,cs.jk[i]?=some u:=⟨cs.jk[i]'∅,dG ∅⟩;exact La u y (pr i u y eu ei) (c1 i u ni eu)
     have lt:rk z < rk x:=lt;omega
    obtain⟨i,c2⟩:=Classical.not_forall.mp c1;obtain⟨u,c3⟩:=Classical.not_forall.mp c2;obtain⟨ni,c4⟩:=Classical.not_imp.mp c3;obtain⟨eu,c5⟩:=Classical.not_imp.mp c4;have t2:=A3 cs.jk j i _ u (gB ni) ej eu;have:0 < (row u).length:=List.length_pos_iff.mpr c5;omega
  unfold dp;omega
def Jc (l:List Tr) (k:Nat):row (.n k (gR.lL l))=l.flatMap row:=by
 unfold row;rw [rS,vH]
theorem Bv {aa:List ar}:∀(ds:List De)(p p':List Tr),eY (pZ aa) ds p=some p'->(p'.flatMap row).length=(p.flatMap row).length+mQ ds
 | [],p,p',e=>by cases e;rfl
 | d::r,p,p',e=>by
  have e:(pZ aa p d).bind (eY (pZ aa) r)=some p':=e;cases e1:pZ aa p d with
  | none=>rw [e1] at e;cases e
  | some q =>
   rw [e1] at e;have h:=Bv r q p' e;have hq:(q.flatMap row).length=(p.flatMap row).length+N5 d:=by
    cases d with
    | d y =>
     cases y with
     | step z =>
      have e1:(if z∈hd aa then none else some (p++[Tr.w z]))=some q:=e1;by_cases c:z∈hd aa
      .rw [ax c] at e1;cases e1
      rw [ay c] at e1;cases e1;rw [i5,a9];rfl
     | make k =>
      obtain⟨ru,er,le,fl,rfl⟩:=ik (show fM aa k p=some q from e1);rw [i5,zf,Jc,<-i5,pR];rfl
    | si n=>cases e1
    | no=>cases e1
    | dn=>cases e1
   show _=_+(N5 d+mQ r);omega
def Dv {o:Option (List Tr)}{t:Tr}(h:jE o=some t):o=some [t]/\∃k cs,t=.n k cs:=by
 cases o with
 | none=>cases h
 | some p =>
  match p,h with
  | [],h=>cases h
  | [.w z],h=>cases h
  | [.n k cs],h=>cases h;exact⟨rfl,k,cs,rfl⟩
  | .w _::_::_,h=>cases h
  | .n _ _::_::_,h=>cases h
def uv {aa:List ar}{es:List De}{t:Tr}(h:resT aa es=some t):(∃x,Is aa t x)/\(∃k cs,t=.n k cs)/\(row t).length<=mQ es:=by
 unfold resT at h;cases el:es.getLast? with
 | none=>rw [el] at h;cases h
 | some d =>
  rw [el] at h;cases d with
  | d x=>cases h
  | si n=>cases h
  | no=>cases h
  | dn =>
   have h:jE (eY (pZ aa) es.dropLast [])=some t:=h;obtain⟨e,k,cs,rfl⟩:=Dv h;have o:=qz (λh e=>qf.pZ h e) _ qf.nil e;refine⟨?_,⟨k,cs,rfl⟩,?_⟩
   .rcases o _ cH with q | ⟨y,_,q⟩
    .exact q
    cases q
   have r:=Bv _ _ _ e;rw [zf] at r;have r:(row (.n k cs)).length=0+mQ es.dropLast:=r;have sp:=gp es.dropLast [De.dn];have:es.dropLast++[De.dn]=es:=by
    obtain⟨ys,hy⟩:=List.getLast?_eq_some_iff.mp el;rw [hy,ua]
   rw [this] at sp;omega
def Nr {aa:List ar}:∀{t:Tr}{p:Str},Is aa t p->gC aa t p=true
 | .w z,p,h=>by
  unfold Is at h;obtain⟨rfl,nh⟩:=h;show (!decide (p∈hd aa) && decide (p=p))=true;rw [b0 nh,bh rfl];rfl
 | .n k cs,p,h=>by
  unfold Is at h;obtain⟨bq,e,_⟩:=h;show (decide (p∈hd aa) && decide (sg aa k=some p))=true;rw [bh (n8 (ru:=(p,bq)) (b9 e)),bh (by unfold sg;rw [e];rfl)];rfl
theorem BI:∀ts:gR,gR.lL ts.jk=ts
 | .nil=>rfl
 | .cons t r=>by show gR.cons t (gR.lL r.jk)=_;rw [BI r]
mutual
theorem Bw {aa:List ar}:∀(t:Tr)(x:Str)(p:List Tr),Is aa t x->eY (pZ aa) ((jK t).map De.d) p=some (p++[t])
 | .w z,x,p,h=>by
  unfold Is at h;unfold jK;show (if z∈hd aa then none else some (p++[Tr.w z])).bind (eY (pZ aa) [])=_;rw [ay h.2];rfl
 | .n k cs,x,p,h=>by
  unfold Is at h;obtain⟨bq,er,hi⟩:=h;rw [B2,bG,kP,xK cs bq p hi];obtain⟨ln,pr⟩:=tO.paired cs hi;show (fM aa k (p++cs.jk)).bind (eY (pZ aa) [])=_;have em:fM aa k (p++cs.jk)=some (p++[.n k cs]):=by
   unfold fM;rw [er];have l1:(p++cs.jk).length - bq.length=p.length:=by rw [a9];omega
   show (if (decide (bq.length<=(p++cs.jk).length) && i0 aa ((p++cs.jk).drop ((p++cs.jk).length - bq.length)) bq)=true then some ((p++cs.jk).take ((p++cs.jk).length - bq.length)++[.n k (gR.lL ((p++cs.jk).drop ((p++cs.jk).length - bq.length)))]) else none)=_;rw [l1,List.drop_left,List.take_left,BI,bh (by rw [a9];omega),qH ln (λi t q et eq=>Nr (pr i t q et eq))];rfl
  rw [em];rfl
theorem xK {aa:List ar}:∀(ts:gR) (ps:List Str)(p:List Tr),tO aa ts ps->eY (pZ aa) ((jX ts).map De.d) p=some (p++ts.jk)
 | .nil,ps,p,h=>by
  unfold jX;show some p=some (p++[]);rw [iR]
 | .cons t r,ps,p,h=>by
  unfold tO at h;obtain⟨q,Bz,rfl,h1,h2⟩:=h;unfold jX;rw [bG,kP,Bw t q p h1];show eY (pZ aa) ((jX r).map De.d) (p++[t])=_;rw [xK r Bz (p++[t]) h2,lW];rfl
end
def Fd {aa:List ar}{t:Tr}{x:Str}(h:Is aa t x)(hx:x∈hd aa):resT aa ((jK t).map De.d++[.dn])=some t:=by
 unfold resT;rw [rm,xm,ua];show jE (eY (pZ aa) ((jK t).map De.d) [])=some t;rw [Bw t x [] h];cases t with
 | w z =>
  unfold Is at h;exact absurd (h.1 ▸ hx) h.2
 | n k cs=>rfl
theorem vK:∀ds:List Dd,mQ (ds.map De.d)=(ds.flatMap EE).length
 | []=>rfl
 | .step z::r=>by
  show 1+mQ (r.map De.d)=(z::r.flatMap EE).length;rw [vK r,dY];omega
 | .make k::r=>by
  show 0+mQ (r.map De.d)=(r.flatMap EE).length;rw [vK r];omega
mutual
theorem B0 {aa:List ar}:∀(t:Tr)(x:Str),Is aa t x->∀k,Dd.make k∈jK t->k < aa.length
 | .w z,x,h,k,m=>by
  unfold jK at m;have:=bF.mp m;cases this
 | .n j cs,x,h,k,m=>by
  unfold Is at h;obtain⟨bq,er,hi⟩:=h;rw [B2] at m;rcases bQ.mp m with q | q
  .exact yu cs bq hi k q
  cases bF.mp q;exact(bu.mp er).1
theorem yu {aa:List ar}:∀(ts:gR) (ps:List Str),tO aa ts ps->∀k,Dd.make k∈jX ts->k < aa.length
 | .nil,ps,h,k,m=>by unfold jX at m;cases m
 | .cons t r,ps,h,k,m=>by
  unfold tO at h;obtain⟨q,Bz,rfl,h1,h2⟩:=h;unfold jX at m;rcases bQ.mp m with y | y
  .exact B0 t q h1 k y
  exact yu r Bz h2 k y
end
def NJ {aa:List ar}{t:Tr}{x:Str}(h:Is aa t x):∀d∈(jK t).map De.d,jH aa d:=by
 intro d hd2;obtain⟨y,hy,rfl⟩:=cX.mp hd2;cases y with
 | step z=>exact trivial
 | make k=>exact B0 t x h k hy
abbrev LV:Stmt:=top 63
def JY (ns:List Int):∃cs:List Int,d8 (ns.map V.int) (some 8) (some 30)=cs.map V.int/\cs.length<=22:=by
 refine⟨(ns.drop (min 8 ns.length)).take (min 30 ns.length - min 8 ns.length),?_,?_⟩
 .unfold d8;rw [show (some (8:Int))=some ((8:Nat):Int) from rfl,show (some (30:Int))=some ((30:Nat):Int) from rfl,HT.gZ,HT.gZ,au,<-oK,<-mR]
 rw [bO];omega
section
def Bl (K:ba)(T1 T2 T3:Addr):Sp:=λvs H Q _=>∃(a:Addr)(ns:List Int),vs=[.ref a]/\aH K H a (ns.map V.int)/\ns.length<=63/\Cb T1 T2 T3 H/\∀H',Q (.bl true) H'
def pU:aK ["_law_script","_law_rules","_law_tree_here","_law_deeds_here","_law_cell","_law_way","_law_at","_law_spoiled_here"] ["_law_script"] (av LV):=iM rfl rfl rfl rfl (by decide +kernel)
def Mu {Cg C T1 T2 T3 fG:Addr}{Zw:FuncData}(F:iB K "law" "law" LV f fd)(T:Txt mg)
  (GG:aC P w K mg base 11 "_law_grammar" ["_law_script","_law_at"] (EK K))(GDT:aC P w K mg base 11 "_law_drawn_tree" ["_law_rules","_law_name","_law_cells"] (xB K))(GDL:aC P w K mg base 11 "_law_deeds" ["_law_tree_here"] (nu K 10))
  (GC1:aC P w K mg base 11 "_law_cell_at" ["_law_script","_law_k"] (rH K))(GS:aC P w K mg base 11 "_law_spoiled" ["_law_rules","_law_deeds_here","_law_way","_law_at","_law_cell"] (uj K))
  (GDu:aC P w K mg base 11 "_law_due" ["_law_rules","_law_deeds_here"] (Ko K))(GTo:aC P w K mg base 11 "tree_of" ["rules","deeds"] (xx K))
  (G:GC K Cg)(MG:Mk K Cg fG)(FG:bR P w K mg base gk 10 fG Zw ["self","rules","strengths"] (Bn K Cg C T1 T2 T3))(B1:Binds K Zw ["self","rules","strengths"] [.none])(mG:mg "Grammar"=some (.ref Cg)):bR P w K mg base gk 12 f fd ["_law_script"] (Bl K T1 T2 T3):=by
 refine F.ok pU (λvs H Q E h=>?_) (λeX A outer s H vs Q E hr h=>?_)
 .obtain⟨a,ns,rfl,_⟩:=h;rfl
 obtain⟨S,ns,rfl,hS,hl,hT,q⟩:=h;have yf:=Ki (n:=336+1) hr (by decide);have BM:=Ki (n:=20+1) hr (by decide);refine⟨_,ai (az (i:=1) pU.nd rfl (bC rfl) (fP (wj (dvs:=[.fg]) MG FG hr rfl mG B1 (.cons rfl .nil) ux (ab (bp GG hr rfl (ab (pv 0) (ab ao ag))) ag)) rfl))
  (ai (az (i:=2) pU.nd rfl (bC rfl) (bp GDT hr rfl (ab (pv 1) (ab (aL aZ (aL bB (pv 1) ao (λ_ _=>rfl)) ao (λ_ _=>rfl)) (ab (bY dq (pv 0) (bS ao) (bS ao)) ag)))))
  (ai (az (i:=3) pU.nd rfl (bC rfl) (aI dH (bp GDL hr rfl (ab (pv 2) ag)) (a_ (ab (bo (ab bx ag)) ag))))
  (ai (az (i:=4) pU.nd rfl (bC rfl) (bp GC1 hr rfl (ab (pv 0) (ab ao ag))))
  (ai (bL cg rfl (gM rfl T.Cw (ab ao ag)) (aq (i:=5) pU.nd rfl (bC rfl))
   (ai (az (i:=6) pU.nd rfl (bC rfl) (aI c_ (aI du (bp GC1 hr rfl (ab (pv 0) (ab ao ag))) (aI Fx (pv 5) ao)) (aD aG rfl T.len cY (ab (pv 3) ag))))
   (ai (az (i:=7) pU.nd rfl (bC rfl) (bp GS hr rfl (ab (pv 1) (ab (pv 3) (ab (pv 5) (ab (pv 6) (ab (aI du (pv 4) (pv 5)) ag)))))))
   (ak (bI (aX (uA.or (xT 336 yf)) (bp GTo hr rfl (ab (bc fA rfl T.lst gH (ab (pv 1) ag)) (ab (bc fA rfl T.lst gH (ab (pv 7) ag)) ag))) (bp GDu hr rfl (ab (pv 1) (ab (pv 7) ag))) (bJ _)) (ak (aN f_)) aQ)))))
  (ak (aN (fu (xV 20 BM) (bp GTo hr rfl (ab (bc fA rfl T.lst gH (ab (pv 1) ag)) (ab (bc fA rfl T.lst gH (ab (pv 3) ag)) ag))) (pv 2) (bJ _)))))))),?_⟩
 nofun
 refine⟨_,rfl,S,ns,0,rfl,hS,∅,λc R0 rs aa H1 hc f0 s1 ZW Us go=>?_⟩;obtain⟨rk,bb,gd⟩:=go.good;obtain⟨rk2,Ky⟩:=go.rank;have six:=go.six;have one:=go.one;have h3:∀ru∈aa,ru.2.length<=3:=λru h=>(go.ins ru h).2.1;have h8:∀ru∈aa,ru.2.length<=8:=λru h=>by have:=h3 ru h;omega
 have qF:aa≠[]:=λz=>by rw [z] at one;cases one
 have t1:=hT.same s1;intro g x hg hx nx;refine⟨H1,g,x,R0,.fg,rs,[],aa,[],rk,bb,rfl,(af hx _).trans (af (by rw [aj nx.symm];exact hg) _),hg,ae,aH.of ZW,Us,∅,h8,qF,.inl ⟨rfl,rfl,rfl⟩,by simp,λru h=>(by cases h),by simp,gd,t1,λbt H2 s2 t2 gv=>⟨rfl,?_⟩⟩;have k2:=Kp.of3 s2 t1;clear s2 t2;obtain⟨gx,fs,R,S2,eg,lr,_,_,_,eR,_,_,_⟩:=gv;refine⟨g,Cg,gx,fs,_,rfl,eg,G.cls,G.a1,lr,?_⟩;have Sb:=k2.aa Us;have Ee:=k2.seq (s1.seq hS);obtain⟨jI,Rc⟩:∃jI,aa[0]?=some jI:=⟨aa[0]'∅,dG ∅⟩;obtain⟨r0,Wy,p0,v10,v20⟩:=Paired.at_ Sb 0 jI Rc;have qJ:jZ (rs.map V.ref) 0=some (.ref r0):=bZ (j:=0) (by rw [bz,Wy];rfl);have K1:jI.1∈hm aa:=cX.mpr ⟨jI,b9 Rc,rfl⟩;have hxd:jI.1∈hd aa:=kb.mp K1;have Sr:∀z∈hm aa,z∈dw c:=λz hz=>by
  obtain⟨ru,iY,rfl⟩:=cX.mp hz;exact(go.ins ru iY).1
 refine⟨_,rfl,_,rfl,R,_,_,_,rfl,rfl,aH.of eR,qJ,r0,_,_,_,rfl,rfl,v10,rfl,_,rfl,_,rfl,_,rfl,S,_,rfl,Ee,λC3 JP=>?_⟩;obtain⟨cs,ecs,lcs⟩:=JY ns;rw [ecs];have k3:=af JP (.lst (cs.map V.int));have He:upd H2 C3 (.lst (cs.map V.int)) C3=some (.lst (cs.map V.int)):=ae;generalize upd H2 C3 (.lst (cs.map V.int))=H3 at k3 He;refine⟨R,C3,rs,aa,dw c,cs,jI.1,rfl,k3 _ _ eR,Sb.same k3,∅,h3,(su c).2,Sr,go.en,aH.of He,∅,K1,λv t H4 s4 tv ok aag=>?_⟩;have Ja:=k3.trans s4;have dt:=ok.deep;have st:sz t<=29524:=dX ok.size (by decide);refine⟨_,rfl,v,t,rfl,tv,∅,∅,λD0 as H5 f5 s5 Z2 pd=>?_⟩;have lad:=aU pd;have YI:=oz t;refine⟨qg,λa0 ha0=>⟨qg,λL1 Ou=>?_⟩⟩;have k6:=(af ha0 (.tup [V.str "done"])).trans (af Ou (.lst [V.ref a0]));have Ip:upd (upd H5 a0 (.tup [V.str "done"])) L1 (.lst [V.ref a0]) a0=some (.tup [.str "done"]):=(af Ou _) _ _ ae;have Hc:upd (upd H5 a0 (.tup [V.str "done"])) L1 (.lst [V.ref a0]) L1=some (.lst [V.ref a0]):=ae;generalize upd (upd H5 a0 (.tup [V.str "done"])) L1 (.lst [V.ref a0])=H6 at k6 Ip Hc;refine⟨D0,L1,_,_,rfl,rfl,k6 _ _ Z2,Hc,fits (by rw [au];show _+1<=1000000;omega),λD hD=>?_⟩;have k7:=af hD (.lst (as.map V.ref++[V.ref a0]));have Rq:upd H6 D (.lst (as.map V.ref++[V.ref a0])) D=some (.lst ((as++[a0]).map V.ref)):=by rw [ae,bG];rfl
 generalize upd H6 D (.lst (as.map V.ref++[V.ref a0]))=H7 at k7 Rq;have YN:=k6.trans k7;have Yg:=s5.trans YN;have L0:=Ja.trans Yg;have Hk:lR aa.length H7 (as++[a0]) ((jK t).map De.d++[.dn]):=aW (cx pd λ_ _ z=>YN _ _ z) (.cons (k7 _ _ Ip) .nil);have NH:∀d∈(jK t).map De.d++[De.dn],jH aa d:=λd h=>by
  rcases bQ.mp h with y | y
  .exact NJ ok.is d y
  rw [bF.mp y];exact trivial
 have sc7:mQ ((jK t).map De.d++[De.dn])<=40:=by
  rw [gp,vK,qw];show _+0<=40;omega
 have U8:((jK t).map De.d++[De.dn]).length=sz t+1:=by rw [a9,au,gw,YI]
 have own:=Fd ok.is hxd;have tv7:=fV.keep (λ_ _ z=>Yg.tup z) t tv;have Ro:=L0 _ _ eR;have Px:=Sb.same L0;have Zp:=L0.seq Ee;clear Hc Ip Z2 k6 k7 He Ee Sb tv ZW Us;generalize (jK t).map De.d++[De.dn]=es at Hk NH sc7 U8 own;have U_:=aU Hk;generalize as++[a0]=bs at Hk Rq U_;refine⟨_,rfl,S,ns,31,rfl,Zp,∅,λcl _=>?_⟩;refine⟨(16:Int),rfl,by decide,by decide,?_⟩;rw [show (16:Int).toNat=16 from rfl];refine gP (n:=16) (λi σ H8=>∃(y5 y6 y7:Option V),σ=[aM S,aM R,some v,aM D,some (.int cl),y5,y6,y7]/\aA H7 H8) ⟨none,none,none,rfl,aA.refl _⟩ ?_ ?_
 .intro i σ H8 hi jW
  ac_nf0
  obtain⟨y5,y6,y7,rfl,s8⟩:=jW;have hp:(0:Int) < ((bs.map V.ref).length:Int):=by rw [au];omega
  refine goN ?_
  ac_rfl
  refine⟨_,rfl,S,ns,30,rfl,s8.seq Zp,∅,λNS _=>?_⟩;refine⟨_,rfl,_,_,rfl,rfl,.inr ⟨by decide,by decide⟩,_,_,rfl,rfl,_,rfl,D,_,rfl,.inl (aH.of (s8 _ _ Rq)),_,_,rfl,rfl,hp,?_⟩;obtain⟨a,ea,la⟩:∃a:Nat,(NS+(0+(i:Int)) * 7) % ((bs.map V.ref).length:Int)=(a:Int)/\a < es.length:=by
   have h1:=qU (NS+(0+(i:Int)) * 7) (show ((bs.map V.ref).length:Int)≠0 ∅);have h2:=vj (NS+(0+(i:Int)) * 7) hp;rw [au] at h1 h2 ⊢;exact⟨((NS+(0+(i:Int)) * 7) % (bs.length:Int)).toNat,∅,∅⟩
  refine⟨_,rfl,_,rfl,_,rfl,_,rfl,_,rfl,_,rfl,_,_,rfl,rfl,?_⟩;refine⟨R,D,rs,bs,aa,es,i,a,cl+(0+(i:Int)),?_,aH.of (s8 _ _ Ro),Px.same s8,qF,∅,s8 _ _ Rq,Hk.same s8,NH,∅,la,hi,λD9 NV Rb H9 s9 e9 d9 sp9=>?_⟩
  .show [V.ref R,V.ref D,V.int (0+(i:Int)),V.int ((NS+(0+(i:Int)) * 7) % ((bs.map V.ref).length:Int)),V.int (cl+(0+(i:Int)))]=_;rw [ea,j6]
  have Yb:=s8.trans s9;obtain⟨NF,sc9,aai⟩:=sp9;refine⟨_,rfl,R,_,rfl,.inl (aH.of (Yb _ _ Ro)),λRA V9=>?_⟩;have kA:=af V9 (.lst (rs.map V.ref));have eA:upd H9 RA (.lst (rs.map V.ref)) RA=some (.lst (rs.map V.ref)):=ae;generalize upd H9 RA (.lst (rs.map V.ref))=HA at kA eA;refine⟨_,rfl,D9,_,rfl,.inl (aH.of (kA _ _ e9)),λDB Wd=>?_⟩;have kB:=af Wd (.lst (NV.map V.ref));have eB:upd HA DB (.lst (NV.map V.ref)) DB=some (.lst (NV.map V.ref)):=ae;generalize upd HA DB (.lst (NV.map V.ref))=HB at kB eB;have Vh:=kA.trans kB;have N9:=Yb.trans Vh;refine⟨RA,DB,rs,NV,aa,Rb,rfl,kB _ _ eA,Px.same N9,h8,∅,aH.of eB,d9.same Vh,NF,∅,λHC sC=>?_⟩;have N8:=Vh.trans sC;have R8:=N9.trans sC;refine⟨λe=>?_,λt2 v2 e HW=>?_⟩
  .refine⟨_,rfl,_,rfl,R,D9,rs,NV,aa,Rb,rfl,aH.of (R8 _ _ Ro),Px.same R8,h8,∅,qF,aH.of (N8 _ _ e9),d9.same N8,NF,∅,λHD sD=>⟨λ_=>?_,(λt3 v3 e3 _=>by rw [e] at e3;cases e3)⟩⟩;refine .inl ⟨rfl,false,rfl,?_⟩;refine cT ?_;exact⟨_,_,_,rfl,s8.trans (s9.trans (N8.trans sD))⟩
  refine⟨_,rfl,_,rfl,R,D9,rs,NV,aa,Rb,rfl,aH.of (R8 _ _ Ro),Px.same R8,h8,∅,qF,aH.of (N8 _ _ e9),d9.same N8,NF,∅,λHD sD=>⟨(λe3=>by rw [e] at e3;cases e3),λt3 v3 e3 XZ=>?_⟩⟩;rw [e] at e3;cases e3;obtain⟨⟨x2,is2⟩,⟨k,Iv,rfl⟩,aab⟩:=uv e;have dpr:=Hi Ky _ _ x2 (aF _) is2;have r3:=Ky.1 x2;have M7:2 * xj Iv<=335:=by
   have:dp (.n k Iv)=1+xj Iv:=by unfold dp;rfl
   omega
  have XX:=fV.keep (λ_ _ z=>sD.tup z) _ HW;unfold fV at XX XZ;obtain⟨b1,p1,OY,rfl,Ot,VF,V5⟩:=XX;obtain⟨b2,p2,Kh,rfl,GO,oE,JM⟩:=XZ;refine .inr ⟨b1,b2,_,_,rfl,rfl,Ot,GO,.cons (DY.self (.inl rfl) _) (.cons (.inr ⟨p1,p2,OY,Kh,rfl,rfl,.inr ⟨VF,oE⟩,lI Iv OY Kh 335 V5 JM M7⟩) .nil),false,rfl,?_⟩;refine cT ?_;exact⟨_,_,_,rfl,s8.trans (s9.trans (N8.trans sD))⟩
 rintro σ H8 ⟨y5,y6,y7,rfl,s8⟩;refine⟨_,rfl,R,_,rfl,.inl (aH.of (s8 _ _ Ro)),λRA V9=>?_⟩;have kA:=af V9 (.lst (rs.map V.ref));have eA:upd H8 RA (.lst (rs.map V.ref)) RA=some (.lst (rs.map V.ref)):=ae;generalize upd H8 RA (.lst (rs.map V.ref))=HA at kA eA;refine⟨_,rfl,D,_,rfl,.inl (aH.of (kA _ _ (s8 _ _ Rq))),λDB Wd=>?_⟩;have kB:=af Wd (.lst (bs.map V.ref));have eB:upd HA DB (.lst (bs.map V.ref)) DB=some (.lst (bs.map V.ref)):=ae;generalize upd HA DB (.lst (bs.map V.ref))=HB at kB eB;have N9:=s8.trans (kA.trans kB);refine⟨RA,DB,rs,bs,aa,es,rfl,kB _ _ eA,Px.same N9,h8,∅,aH.of eB,Hk.same N9,NH,∅,λHC sC=>⟨(λe=>by rw [own] at e;cases e),λt2 v2 e HW=>?_⟩⟩;rw [own] at e;cases e;obtain⟨_,⟨k,Iv,rfl⟩,_⟩:=uv own;have XY:=fV.keep (λ_ _ z=>(N9.trans sC).tup z) _ tv7;have M7:2 * xj Iv<=19:=by
  have:dp (.n k Iv)=1+xj Iv:=by unfold dp;rfl
  omega
 unfold fV at XY HW;obtain⟨b1,p1,OY,rfl,Ot,VF,V5⟩:=XY;obtain⟨b2,p2,Kh,rfl,GO,oE,JM⟩:=HW;exact⟨_,rfl,b2,b1,_,_,rfl,rfl,GO,Ot,.cons (DY.self (.inl rfl) _) (.cons (.inr ⟨p2,p1,Kh,OY,rfl,rfl,.inr ⟨oE,VF⟩,lI Iv Kh OY 19 JM V5 M7⟩) .nil),q _⟩
end
end hU
namespace L2
open PySem
def w_ {C:List Value->Prop}(h:∀a,C [a]):∀us:List Value,us.length=1->C us
 | [a],_=>h a
def Cj {C:List Value->Prop}(h:∀a b,C [a,b]):∀us:List Value,us.length=2->C us
 | [a,b],_=>h a b
def IK {C:List Value->Prop}(h:∀a b c,C [a,b,c]):∀us:List Value,us.length=3->C us
 | [a,b,c],_=>h a b c
def OZ {C:List Value->Prop}(h:∀a b c d,C [a,b,c,d]):∀us:List Value,us.length=4->C us
 | [a,b,c,d],_=>h a b c d
def TJ {C:List Value->Prop}(h:∀a b c d e,C [a,b,c,d,e]):∀us:List Value,us.length=5->C us
 | [a,b,c,d,e],_=>h a b c d e
def dP (K:ba)(x:Str)(st:Stmt):Prop:=∃(g:Addr)(oc:Value)(od an:Option Addr)(sl:Array (Option Value))(kV dc pm cd ct:Value),PySem.W.nsIn K mainGlobals x=some (some (.ref g)) /\
 K.lookup g=some ⟨oc,od,.func (PySem.W.fnOf x x (dI st) (cA st) (av st) .none kV dc pm an cd ct),sl⟩/\PySem.W.codeIn K cd x=true/\PySem.W.keepIn K (.ref g)=true
def dP.get {K:ba}{h:Heap}{mg:Str->Option Value}{x:Str}{st:Stmt}(X:K.In h)(G:h.Ns mainGlobals mg)(H:dP K x st):∃g gd,iB K x x st g gd/\mg x=some (.ref g):=by
 obtain⟨g,oc,od,an,sl,kV,dc,pm,cd,ct,a,l,c,k⟩:=H;exact⟨g,_,GX (st:=st) l c k,oM X G a⟩
def DW (K:ba)(x:Str)(st:Stmt)(T:Addr):Prop:=∃(g:Addr)(oc:Value)(od an:Option Addr)(sl:Array (Option Value))(kV dc pm:Value)(c:Addr)(ct:Value),PySem.W.nsIn K mainGlobals x=some (some (.ref g)) /\
 K.lookup g=some ⟨oc,od,.func (PySem.W.fnOf x x (dI st) (cA st) (av st) .none kV dc pm an (.ref c) ct),sl⟩/\PySem.W.codeIn K (.ref c) x=true/\PySem.W.codeHdIn K c T=true/\PySem.W.keepIn K (.ref g)=true
def DW.get {K:ba}{h:Heap}{mg:Str->Option Value}{x:Str}{st:Stmt}{T:Addr}(X:K.In h)(G:h.Ns mainGlobals mg)(H:DW K x st T):∃g gd,yL K x x st g gd T/\mg x=some (.ref g):=by
 obtain⟨g,oc,od,an,sl,kV,dc,pm,c,ct,a,l,d,e,k⟩:=H;exact⟨g,_,⟨⟨oc,od,kV,dc,pm,an,c,ct,sl,rfl,l,d,e⟩,k⟩,oM X G a⟩
def yL.binds {K:ba}{x qual:Str}{st:Stmt}{f T:Addr}{fd:FuncData}{ps:List Str}(F:yL K x qual st f fd T)
  (h:∀(kV doc pm:Value)(an:Option Addr)(eX ct:Value)(us:List Value),us.length=ps.length->bindArgs (PySem.W.fnOf x qual (dI st) (cA st) (av st) .none kV doc pm an eX ct) ⟨us,[]⟩=pure (ps.zip us)):Binds K fd ps []:=by
 obtain⟨oc,od,kV,doc,pm,an,c,ct,xR,rfl,lk,wJ,_⟩:=F.ex;exact .all (h kV doc pm an (.ref c) ct)
def A0 (K:ba)(C:Addr)(m qual:Str)(st:Stmt):Prop:=∃(g:Addr)(oc:Value)(od an:Option Addr)(sl:Array (Option Value))(kV dc pm cd ct:Value),PySem.W.findIn K (.ref C) m=some (some (.ref g)) /\
 K.lookup g=some ⟨oc,od,.func (PySem.W.fnOf m qual (dI st) (cA st) (av st) .none kV dc pm an cd ct),sl⟩/\PySem.W.codeIn K cd qual=true/\PySem.W.keepIn K (.ref g)=true/\PySem.W.isFn K (.ref g)=true
def A0.get {K:ba}{C:Addr}{m qual:Str}{st:Stmt}(H:A0 K C m qual st):∃g gd,iB K m qual st g gd/\Meth K C m g:=by
 obtain⟨g,oc,od,an,sl,kV,dc,pm,cd,ct,a,l,c,k,i⟩:=H;exact⟨g,_,GX (st:=st) l c k,⟨a,i,k⟩⟩
def dP.c {K:ba}{h:Heap}{mg:Str->Option Value}{x:Str}{st:Stmt}{P:Program}{w:World}{base:Heap}{k:Nat}{ps:List Str}{sp:Sp}(H:dP K x st)(X:K.In h)(G:h.Ns mainGlobals mg)
  (b:∀(kV doc pm:Value)(an:Option Addr)(eX ct:Value)(us:List Value),us.length=ps.length->bindArgs (PySem.W.fnOf x x (dI st) (cA st) (av st) .none kV doc pm an eX ct) ⟨us,[]⟩=pure (ps.zip us))
  (o:∀{f:Addr}{fd:FuncData},iB K x x st f fd->mg x=some (.ref f)->Binds K fd ps []->bR P w K mg base gk k f fd ps sp):aC P w K mg base k x ps sp:=by
 obtain⟨f,fd,F,m⟩:=H.get X G;have B:=F.binds b;exact⟨f,fd,o F m B,B,F.kp,m⟩
def hD {K:ba}{x:Str}{st:Stmt}(g c:Addr)(pm:Value)(h:(PySem.W.nsIn K mainGlobals x,K.lookup g,PySem.W.codeIn K (.ref c) x,PySem.W.keepIn K (.ref g))=(some (some (.ref g)),some ⟨.type "function",none,.func (PySem.W.fnOf x x (dI st) (cA st) (av st) .none .none .none pm none (.ref c) .none),#[]⟩,true,true)):dP K x st:=by
 simp only [qR] at h;exact⟨g,_,_,_,_,_,_,_,_,_,h.1,h.2.1,h.2.2.1,h.2.2.2⟩
def hC {K:ba}{x:Str}{st:Stmt}{T:Addr}(g c:Addr)(pm:Value)(h:(PySem.W.nsIn K mainGlobals x,K.lookup g,PySem.W.codeIn K (.ref c) x,PySem.W.codeHdIn K c T,PySem.W.keepIn K (.ref g))=(some (some (.ref g)),some ⟨.type "function",none,.func (PySem.W.fnOf x x (dI st) (cA st) (av st) .none .none .none pm none (.ref c) .none),#[]⟩,true,true,true)):DW K x st T:=by
 simp only [qR] at h;exact⟨g,_,_,_,_,_,_,_,c,_,h.1,h.2.1,h.2.2.1,h.2.2.2.1,h.2.2.2.2⟩
def hM {K:ba}{C:Addr}{m qual:Str}{st:Stmt}(g c:Addr)(pm:Value)(h:(PySem.W.findIn K (.ref C) m,K.lookup g,PySem.W.codeIn K (.ref c) qual,PySem.W.keepIn K (.ref g),PySem.W.isFn K (.ref g))=(some (some (.ref g)),some ⟨.type "function",none,.func (PySem.W.fnOf m qual (dI st) (cA st) (av st) .none .none .none pm none (.ref c) .none),#[]⟩,true,true,true)):A0 K C m qual st:=by
 simp only [qR] at h;exact⟨g,_,_,_,_,_,_,_,_,_,h.1,h.2.1,h.2.2.1,h.2.2.2.1,h.2.2.2.2⟩
end L2
namespace hU
open PySem L2 M11
def N1 (K:ba)(C:Addr)(m qual:Str)(st:Stmt):Prop:=∃(g:Addr)(oc:Value)(od an:Option Addr)(sl:Array (Option Value))(kV dc pm cd ct:Value)(T:Addr)(o:Obj) (n:Nat),PySem.W.findIn K (.ref C) m=some (some (.ref g)) /\
 K.lookup g=some ⟨oc,od,.func (PySem.W.fnOf m qual (dI st) (cA st) (av st) (.ref T) kV dc pm an cd ct),sl⟩/\PySem.W.codeIn K cd qual=true/\K.lookup T=some o/\o.data=.seq #[.none] n/\PySem.W.keepIn K (.ref g)=true/\PySem.W.isFn K (.ref g)=true
def N1.get {K:ba}{C:Addr}{m qual:Str}{st:Stmt}(H:N1 K C m qual st):∃g gd,HS K m qual st g gd/\PySem.W.findIn K (.ref C) m=some (some (.ref g))/\PySem.W.isFn K (.ref g)=true:=by
 obtain⟨g,oc,od,an,sl,kV,dc,pm,cd,ct,T,o,n,a,l,c,t,d,k,i⟩:=H;exact⟨g,_,⟨⟨oc,od,kV,dc,pm,an,cd,ct,sl,T,o,n,rfl,l,c,t,d⟩,k⟩,a,i⟩
structure Top (K:ba)(C Cg C3 T1 T2 T3:Addr)(tm:Tok):Prop where
 nB:PySem.W.nsIn K mainGlobals "BeginTable"=some (some (.ref C))
 nG:PySem.W.nsIn K mainGlobals "Grammar"=some (some (.ref Cg))
 nL:PySem.W.nsIn K mainGlobals "LeastTrees"=some (some (.ref C3))
 nM:PySem.W.nsIn K mainGlobals "MOST_RULES"=some (some (.int 60 tm))
 ID:PySem.W.nsIn K mainGlobals "sorted"=some none
 h0:dP K "heads_of" zM
 h1:dP K "numbers_by_name" EW
 h2:dP K "standings_by_part" LS
 h3:dP K "rule_size" o8
 h4:dP K "empty_by_name" rQ
 h5:dP K "words_in" zD
 h6:dP K "found_empties" rR
 h7:dP K "first_places" vV
 h8:dP K "way_back" LR
 h9:dP K "steps_with_like_rows" zH
 h10:dP K "find_loop" EY
 h11:dP K "refuse_twice" zF
 h12:dP K "names_met" LU
 h13:dP K "_law_cell_at" E5
 h14:dP K "_law_digits" v_
 Wn:dP K "_law_names" zK
 h16:dP K "_law_words" vS
 h17:dP K "_law_more" EX
 h18:dP K "_law_skeleton" EV
 h19:dP K "_law_ended" zN
 h20:dP K "_law_good" E3
 h21:dP K "_law_grammar" E2
 h22:dP K "is_number_below" zO
 h23:dP K "is_child" rP
 h24:dP K "do_step" v7
 h25:dP K "do_make" v8
 h26:dP K "do_deed" v9
 h27:dP K "tree_of" vT
 h28:dP K "_law_whole" zE
 h29:dP K "_law_piled" zI
 h30:dP K "_law_due" LX
 h31:dP K "_law_deeds" wa
 h32:dP K "_law_least" vW
 h33:dP K "_law_tree" zG
 h34:dP K "_law_drawn_tree" vZ
 h35:dP K "_law_spoiled" rN
 VO:dP K "law" LV
 Vx:dP K "settled_sizes" nK
 VD:dP K "refuse_faults" vU
 hL:DW K "least_sizes" rO T1
 hG:DW K "greatest_empty_sizes" vX T2
 hLB:DW K "least_by_part" nN T3
 mL1:A0 K C3 "__init__" "LeastTrees.__init__" zL
 mB1:A0 K C "__init__" "BeginTable.__init__" zQ
 mB2:A0 K C "find_begins" "BeginTable.find_begins" E4
 mB3:A0 K C "words_of_part" "BeginTable.words_of_part" zJ
 mG1:N1 K Cg "__init__" "Grammar.__init__" vY
 pgB:PySem.W.plainGet K C Str.empty=true
 hdB:PySem.W.hasDictIn K C=true
 poB:PySem.W.plainOver K C=true
 saB:PySem.W.findIn K (.ref C) "__setattr__"=some (some (.builtin "object.__setattr__"))
 mkB:PySem.W.makesIn K C=true
 Ga:PySem.W.keepIn K (.ref C)=true
 pgG:PySem.W.plainGet K Cg Str.empty=true
 hdG:PySem.W.hasDictIn K Cg=true
 poG:PySem.W.plainOver K Cg=true
 saG:PySem.W.findIn K (.ref Cg) "__setattr__"=some (some (.builtin "object.__setattr__"))
 mkG:PySem.W.makesIn K Cg=true
 kpG:PySem.W.keepIn K (.ref Cg)=true
 pgL:PySem.W.plainGet K C3 Str.empty=true
 hdL:PySem.W.hasDictIn K C3=true
 poL:PySem.W.plainOver K C3=true
 saL:PySem.W.findIn K (.ref C3) "__setattr__"=some (some (.builtin "object.__setattr__"))
 mkL:PySem.W.makesIn K C3=true
 kpL:PySem.W.keepIn K (.ref C3)=true
 AU:PySem.W.findIn K (.ref C) "empties"=some none
 HF:PySem.W.findIn K (.ref C) "empty"=some none
 DU:PySem.W.findIn K (.ref C) "begins"=some none
 DT:PySem.W.findIn K (.ref C) "firsts"=some none
 Hw:PySem.W.findIn K (.ref C3) "rules"=some none
 Hz:PySem.W.findIn K (.ref C3) "empty"=some none
 Hy:PySem.W.findIn K (.ref C3) "least"=some none
 DS:PySem.W.findIn K (.ref C3) "hollow"=some none
 tY:PySem.W.findIn K (.ref C3) "beginnings"=some none
 HE:PySem.W.findIn K (.ref Cg) "rules"=some none
 wW:PySem.W.findIn K (.ref Cg) "strengths"=some none
 tF:PySem.W.findIn K (.ref Cg) "begin_table"=some none
 wX:PySem.W.findIn K (.ref Cg) "standings"=some none
 tE:PySem.W.findIn K (.ref Cg) "small_trees"=some none
 To:PySem.W.nsIn K mainGlobals "len"=some none
 Lx:PySem.W.nsIn K mainGlobals "range"=some none
 xp:PySem.W.nsIn K mainGlobals "isinstance"=some none
 Lv:PySem.W.nsIn K mainGlobals "tuple"=some none
 OV:PySem.W.nsIn K mainGlobals "list"=some none
 OW:PySem.W.nsIn K mainGlobals "dict"=some none
 Tt:PySem.W.nsIn K mainGlobals "all"=some none
 Tq:PySem.W.nsIn K mainGlobals "any"=some none
 Ti:PySem.W.nsIn K mainGlobals "str"=some none
 Tp:PySem.W.nsIn K mainGlobals "int"=some none
 OX:PySem.W.nsIn K mainGlobals "bool"=some none
 zp:PySem.W.nsIn K mainGlobals "enumerate"=some none
 Th:PySem.W.nsIn K mainGlobals "sum"=some none
 Tn:PySem.W.nsIn K mainGlobals "max"=some none
 Tj:PySem.W.nsIn K mainGlobals "min"=some none
def all_mk {l:PySem.W.OpenLaw}{w:World}{K:ba}{h:Heap}{mg:Str->Option Value}{fa C Cg C3 T1 T2 T3:Addr}{tm:Tok}(X:K.In h)(G:h.Ns mainGlobals mg)(hfa:mg "law"=some (.ref fa))(tp:Top K C Cg C3 T1 T2 T3 tm) :
  ∃fd:FuncData,(∀(s:Shared)(v:Value),BindsTo s fd ⟨[v],[]⟩ [("_law_script",v)])/\∀base:Heap,K.In base->base.Ns mainGlobals mg->tJ mg base->bR l.prog w K mg base gk 12 fa fd ["_law_script"] (Bl K T1 T2 T3):=by
 have T:Txt mg:=⟨iG X G tp.To,iG X G tp.Lx,iG X G tp.xp,iG X G tp.Lv,iG X G tp.OV,iG X G tp.OW,iG X G tp.Tt,iG X G tp.Tq,iG X G tp.Ti,iG X G tp.Tp,iG X G tp.OX,iG X G tp.zp,iG X G tp.Th,iG X G tp.Tn,iG X G tp.Tj⟩;obtain⟨K_,Lj,yM,KJ⟩:=tp.Vx.get X G;have Lo:=yM.binds (ps:=["rules","sizes","better"]) λ_ _ _ _ _ _=>by exact IK λ_ _ _=>rfl
 obtain⟨Q7,Rt,HU,P6⟩:=tp.VD.get X G;have RB:=HU.binds (ps:=["rules","strengths"]) λ_ _ _ _ _ _=>by exact Cj λ_ _=>rfl
 obtain⟨f_L,d_L,XH,m_L⟩:=tp.hL.get X G;have b_L:=XH.binds (ps:=["rules"]) λ_ _ _ _ _ _=>by exact w_ λ_=>rfl
 obtain⟨f_G,d_G,XI,m_G⟩:=tp.hG.get X G;have b_G:=XI.binds (ps:=["rules"]) λ_ _ _ _ _ _=>by exact w_ λ_=>rfl
 obtain⟨Wr,W7,N3,UZ⟩:=tp.hLB.get X G;have Xi:=N3.binds (ps:=["rules"]) λ_ _ _ _ _ _=>by exact w_ λ_=>rfl
 obtain⟨Wu,aax,RQ,P8⟩:=tp.mB1.get;have Xm:=RQ.binds (ps:=["self","rules"]) λ_ _ _ _ _ _=>by exact Cj λ_ _=>rfl
 obtain⟨aar,aaw,RP,U2⟩:=tp.mB2.get;have Xl:=RP.binds (ps:=["self","number","rule"]) λ_ _ _ _ _ _=>by exact IK λ_ _ _=>rfl
 obtain⟨aaq,aav,RO,U1⟩:=tp.mB3.get;have Xk:=RO.binds (ps:=["self","part"]) λ_ _ _ _ _ _=>by exact Cj λ_ _=>rfl
 obtain⟨Ws,aat,RM,P7⟩:=tp.mL1.get;have Xj:=RM.binds (ps:=["self","rules","begin_table"]) λ_ _ _ _ _ _=>by exact IK λ_ _ _=>rfl
 obtain⟨Wt,aau,RN,U0,Vj⟩:=tp.mG1.get;have cB:BC K C:=⟨⟨tp.pgB,tp.hdB,tp.poB,tp.saB⟩,tp.AU,tp.HF,tp.DU,tp.DT⟩;have cG:GC K Cg:=⟨⟨tp.pgG,tp.hdG,tp.poG,tp.saG⟩,tp.HE,tp.wW,tp.tF,tp.wX,tp.tE⟩;have cL:LC K C3:=⟨⟨tp.pgL,tp.hdL,tp.poL,tp.saL⟩,tp.Hw,tp.Hz,tp.Hy,tp.DS,tp.tY⟩;have kL:Mk K C3 Ws:=⟨tp.mkL,P7.at_,P7.fn,tp.kpL⟩;have kB:Mk K C Wu:=⟨tp.mkB,P8.at_,P8.fn,tp.Ga⟩;have kG:Mk K Cg Wt:=⟨tp.mkG,U0,Vj,tp.kpG⟩;obtain⟨f9,d9,F9,m9⟩:=tp.VO.get X G;have e:=hfa.symm.trans m9;cases e;obtain⟨oc,od,kV,doc,pm,an,eX,ct,xR,eL,lk,wJ⟩:=F9.ex;refine⟨d9,λs v=>?_,λbase _ _ Q3=>?_⟩
 .rw [eL];exact .of_eq rfl
 have c0:=tp.h0.c (P:=l.prog) (w:=w) (base:=base) X G (λ_ _ _ _ _ _=>by exact w_ λ_=>rfl) λF m B=>FO F T;have c1:=tp.h1.c (P:=l.prog) (w:=w) (base:=base) X G (λ_ _ _ _ _ _=>by exact w_ λ_=>rfl) λF m B=>Jq F T c0;have c2:=tp.h2.c (P:=l.prog) (w:=w) (base:=base) X G (λ_ _ _ _ _ _=>by exact w_ λ_=>rfl) λF m B=>Ms F T;have c3:=tp.h3.c (P:=l.prog) (w:=w) (base:=base) X G (λ_ _ _ _ _ _=>by exact Cj λ_ _=>rfl) λF m B=>xX F T;have c4:=tp.h4.c (P:=l.prog) (w:=w) (base:=base) X G (λ_ _ _ _ _ _=>by exact Cj λ_ _=>rfl) λF m B=>Ab F T;have c5:=tp.h5.c (P:=l.prog) (w:=w) (base:=base) X G (λ_ _ _ _ _ _=>by exact w_ λ_=>rfl) λF m B=>Fz F T;have c6:=tp.h6.c (P:=l.prog) (w:=w) (base:=base) X G (λ_ _ _ _ _ _=>by exact w_ λ_=>rfl) λF m B=>Ac F T;have c7:=tp.h7.c (P:=l.prog) (w:=w) (base:=base) X G (λ_ _ _ _ _ _=>by exact Cj λ_ _=>rfl) λF m B=>CI F T;have c8:=tp.h8.c (P:=l.prog) (w:=w) (base:=base) X G (λ_ _ _ _ _ _=>by exact IK λ_ _ _=>rfl) λF m B=>Mr F T;have c9:=tp.h9.c (P:=l.prog) (w:=w) (base:=base) X G (λ_ _ _ _ _ _=>by exact w_ λ_=>rfl) λF m B=>FE F T c6 c0;have c10:=tp.h10.c (P:=l.prog) (w:=w) (base:=base) X G (λ_ _ _ _ _ _=>by exact w_ λ_=>rfl) λF m B=>Js F T c9 c8;have c11:=tp.h11.c (P:=l.prog) (w:=w) (base:=base) X G (λ_ _ _ _ _ _=>by exact w_ λ_=>rfl) λF m B=>FC F T;have c12:=tp.h12.c (P:=l.prog) (w:=w) (base:=base) X G (λ_ _ _ _ _ _=>by exact w_ λ_=>rfl) λF m B=>Mt F T;have Hr:=tp.h13.c (P:=l.prog) (w:=w) (base:=base) X G (λ_ _ _ _ _ _=>by exact Cj λ_ _=>rfl) λF m B=>Jw F T;have c14:=tp.h14.c (P:=l.prog) (w:=w) (base:=base) X G (λ_ _ _ _ _ _=>by exact IK λ_ _ _=>rfl) λF m B=>CO F T;have Xd:=tp.Wn.c (P:=l.prog) (w:=w) (base:=base) X G (λ_ _ _ _ _ _=>by exact w_ λ_=>rfl) λF m B=>FJ F T;have c16:=tp.h16.c (P:=l.prog) (w:=w) (base:=base) X G (λ_ _ _ _ _ _=>by exact w_ λ_=>rfl) λF m B=>CF F T;have c17:=tp.h17.c (P:=l.prog) (w:=w) (base:=base) X G (λ_ _ _ _ _ _=>by exact TJ λ_ _ _ _ _=>rfl) λF m B=>Jr F T (Hr.mono (by decide)) (c14.mono (by decide));have c18:=tp.h18.c (P:=l.prog) (w:=w) (base:=base) X G (λ_ _ _ _ _ _=>by exact OZ λ_ _ _ _=>rfl) λF m B=>Jp F T (Hr.mono (by decide)) (c14.mono (by decide));have c19:=tp.h19.c (P:=l.prog) (w:=w) (base:=base) X G (λ_ _ _ _ _ _=>by exact Cj λ_ _=>rfl) λF m B=>FR F T;have c20:=tp.h20.c (P:=l.prog) (w:=w) (base:=base) X G (λ_ _ _ _ _ _=>by exact w_ λ_=>rfl) λF m B=>Ju F T (c19.mono (by decide));have c21:=tp.h21.c (P:=l.prog) (w:=w) (base:=base) X G (λ_ _ _ _ _ _=>by exact Cj λ_ _=>rfl) λF m B=>Jt F T (Hr.mono (by decide)) (Xd.mono (by decide)) (c16.mono (by decide)) (c18.mono (by decide)) (c17.mono (by decide)) (c20.mono (by decide));have c22:=tp.h22.c (P:=l.prog) (w:=w) (base:=base) X G (λ_ _ _ _ _ _=>by exact Cj λ_ _=>rfl) λF m B=>FV F T;have c23:=tp.h23.c (P:=l.prog) (w:=w) (base:=base) X G (λ_ _ _ _ _ _=>by exact OZ λ_ _ _ _=>rfl) λF m B=>FT F T;have c24:=tp.h24.c (P:=l.prog) (w:=w) (base:=base) X G (λ_ _ _ _ _ _=>by exact IK λ_ _ _=>rfl) λF m B=>CL F T;have c25:=tp.h25.c (P:=l.prog) (w:=w) (base:=base) X G (λ_ _ _ _ _ _=>by exact OZ λ_ _ _ _=>rfl) λF m B=>CM F T (c22.mono (by decide)) (c23.mono (by decide));have c26:=tp.h26.c (P:=l.prog) (w:=w) (base:=base) X G (λ_ _ _ _ _ _=>by exact OZ λ_ _ _ _=>rfl) λF m B=>CN F T (c24.mono (by decide)) (c25.mono (by decide));have c27:=tp.h27.c (P:=l.prog) (w:=w) (base:=base) X G (λ_ _ _ _ _ _=>by exact Cj λ_ _=>rfl) λF m B=>CG F T (c0.mono (by decide)) (c26.mono (by decide));have c28:=tp.h28.c (P:=l.prog) (w:=w) (base:=base) X G (λ_ _ _ _ _ _=>by exact w_ λ_=>rfl) λF m B=>FA F T;have c29:=tp.h29.c (P:=l.prog) (w:=w) (base:=base) X G (λ_ _ _ _ _ _=>by exact OZ λ_ _ _ _=>rfl) λF m B=>FH F T (c28.mono (by decide));have NS:=tp.h30.c (P:=l.prog) (w:=w) (base:=base) X G (λ_ _ _ _ _ _=>by exact Cj λ_ _=>rfl) λF m B=>Mv F T (c29.mono (by decide));have c31:=tp.h31.c (P:=l.prog) (w:=w) (base:=base) X G (λ_ _ _ _ _ _=>by exact w_ λ_=>rfl) λF m B=>uC F T B m 10;have c32:=tp.h32.c (P:=l.prog) (w:=w) (base:=base) X G (λ_ _ _ _ _ _=>by exact w_ λ_=>rfl) λF m B=>CJ F T;have c33:=tp.h33.c (P:=l.prog) (w:=w) (base:=base) X G (λ_ _ _ _ _ _=>by exact TJ λ_ _ _ _ _=>rfl) λF m B=>xW F T B m 7;have c34:=tp.h34.c (P:=l.prog) (w:=w) (base:=base) X G (λ_ _ _ _ _ _=>by exact IK λ_ _ _=>rfl) λF m B=>CK F T (c32.mono (by decide)) (c33.mono (by decide)) (c31.mono (by decide));have c35:=tp.h35.c (P:=l.prog) (w:=w) (base:=base) X G (λ_ _ _ _ _ _=>by exact TJ λ_ _ _ _ _=>rfl) λF m B=>z8 F T;have Xa:aC l.prog w K mg base 2 "settled_sizes" ["rules","sizes","better"] (iS K yT rX.1 rX.2.1 rX.2.2.1 M11.bl):=⟨K_,Lj,z9 yM T,Lo,yM.kp,KJ⟩;have Xb:aC l.prog w K mg base 2 "settled_sizes" ["rules","sizes","better"] (iS K KL Ak.1 Ak.2.1 Ak.2.2.1 M11.bg):=⟨K_,Lj,z_ yM T,Lo,yM.kp,KJ⟩;have c_L:aC l.prog w K mg base 3 "least_sizes" ["rules"] (qx K T1):=⟨f_L,d_L,FN XH T Q3 c5 Xa,b_L,XH.kp,m_L⟩;have c_G:aC l.prog w K mg base 3 "greatest_empty_sizes" ["rules"] (vM K T2):=⟨f_G,d_G,FP XI Q3 Xb,b_G,XI.kp,m_G⟩;have Rw:aC l.prog w K mg base 4 "refuse_faults" ["rules","strengths"] (rF K T1 T2):=⟨Q7,Rt,CH HU T (oM X G tp.nM) c11 c_L c0 c12 c10 c_G,RB,HU.kp,P6⟩;have Xc:aC l.prog w K mg base 4 "least_by_part" ["rules"] (o5 K T1 T3):=⟨Wr,W7,Aa N3 T Q3 (iG X G tp.ID) (c0.mono (by decide)) c_L (c1.mono (by decide)) (c3.mono (by decide)),Xi,N3.kp,UZ⟩;have UE:=FI (P:=l.prog) (w:=w) (base:=base) RO T cB;have UG:=Jv RP T cB c7 UE U1 Xk;have UH:=FU RQ T cB c6 c0 UG U2 Xl;have UC:=FK RM T cB cL Xc (c4.mono (by decide));have UD:=FQ RN T cG (Rw.mono (by decide)) (c2.mono (by decide)) (UH.mono (by decide)) kB Xm (oM X G tp.nB) UC kL Xj (oM X G tp.nL);exact Mu F9 T (c21.mono (by decide)) (c34.mono (by decide)) (c31.mono (by decide)) (Hr.mono (by decide)) (c35.mono (by decide)) (NS.mono (by decide)) (c27.mono (by decide)) cG kG (UD.mono (by decide)) (GU RN) (oM X G tp.nG)
def walk {l:PySem.W.OpenLaw}{q:Program}{loose:List Str}{XP:(Str->Option Value)->Heap->Prop}{YP:World->Heap->Prop}{d:DefRec}{K:Params->ba}(T1 T2 T3 c1 c2 c3:Addr)(KG:T1≠T2)(KD:T1≠T3)(KC:T2≠T3)(hn:l.most=some 63)(M8:d.params.defaults=[])
  (hY:∀(w:World)(h:Heap),YP w h->(K w.params).In h/\∀T∈[T3,T2,T1],h.get? T=some (PySem.W.tabObj #[]))
  (hK1:∀w:World,(K w.params).lookup T1=none)(hK2:∀w:World,(K w.params).lookup T2=none)(hK3:∀w:World,(K w.params).lookup T3=none)(Ni:∀w:World,PySem.W.codeHdIn (K w.params) c1 T1=true)(yX:∀w:World,PySem.W.codeHdIn (K w.params) c2 T2=true)(JP:∀w:World,PySem.W.codeHdIn (K w.params) c3 T3=true)
  (F:∀(w:World)(mg:Str->Option Value)(fa:Addr)(h:Heap),(K w.params).In h->h.Ns mainGlobals mg->mg d.name=some (.ref fa) ->
   ∃fd:FuncData,(∀(s:Shared)(u:Value),BindsTo s fd ⟨[u],[]⟩ [("_law_script",u)])/\∀base:Heap,(K w.params).In base->base.Ns mainGlobals mg->tJ mg base->bR l.prog w (K w.params) mg base gk 12 fa fd ["_law_script"] (Bl (K w.params) T1 T2 T3)) :
  PySem.W.WalkO q loose XP YP l.row.toRowW d [] (λf vs=>PySem.call f vs) :=
 L2.Er (n:=63) (k:=12) (x := "_law_script") (CX:=λ_=>gk) (sp:=λw=>Bl (K w.params) T1 T2 T3) hn (by decide) M8 ⟨rfl,by decide,by decide⟩ hY (λw T hT=>by
  rcases bW.mp hT with e | hT
  .subst e;exact⟨hK3 w,c3,JP w⟩
  rcases bW.mp hT with e | hT
  .subst e;exact⟨hK2 w,c2,yX w⟩
  rw [bF.mp hT];exact⟨hK1 w,c1,Ni w⟩) F (λ_ H a ns hl _ hT hS=>⟨a,ns,rfl,hS,hl,⟨⟨#[],hT T1 (by simp),by trivial,.inl rfl⟩,⟨#[],hT T2 (by simp),by trivial,.inl rfl⟩,⟨#[],hT T3 (by simp),by trivial,.inl rfl⟩,KG,KD,KC⟩,λ_=>rfl⟩) λ_ _ _ _ _ z=>z
end hU
set_option maxHeartbeats 0
end
namespace HD
open PySem PySem.W L2
def TN (P:Params):hU.Top (K P) 145 407 378 288 293 322 591:=⟨by kernel_rfl,
 by kernel_rfl,
 by kernel_rfl,
 by kernel_rfl,
 by kernel_rfl,
 hD 26 25 HD.m1 (by kernel_rfl),
 hD 36 35 HD.m1 (by kernel_rfl),
 hD 43 42 HD.m1 (by kernel_rfl),
 hD 330 329 HD.m8 (by kernel_rfl),
 hD 335 334 HD.m8 (by kernel_rfl),
 hD 31 30 HD.m1 (by kernel_rfl),
 hD 88 87 HD.m3 (by kernel_rfl),
 hD 95 94 HD.m3 (by kernel_rfl),
 hD 286 285 HD.m5 (by kernel_rfl),
 hD 279 278 HD.m5 (by kernel_rfl),
 hD 274 273 HD.m5 (by kernel_rfl),
 hD 315 314 HD.m7 (by kernel_rfl),
 hD 320 319 HD.m7 (by kernel_rfl),
 hD 418 417 HD.ki (by kernel_rfl),
 hD 437 436 HD.ki (by kernel_rfl),
 hD 423 422 HD.ki (by kernel_rfl),
 hD 430 429 HD.ki (by kernel_rfl),
 hD 451 450 HD.ki (by kernel_rfl),
 hD 444 443 HD.ki (by kernel_rfl),
 hD 456 455 HD.ki (by kernel_rfl),
 hD 461 460 HD.ki (by kernel_rfl),
 hD 468 467 HD.ki (by kernel_rfl),
 hD 50 49 HD.m1 (by kernel_rfl),
 hD 83 82 HD.m2 (by kernel_rfl),
 hD 69 68 HD.m2 (by kernel_rfl),
 hD 76 75 HD.m2 (by kernel_rfl),
 hD 62 61 HD.m2 (by kernel_rfl),
 hD 55 54 HD.m2 (by kernel_rfl),
 hD 499 498 HD.ki (by kernel_rfl),
 hD 506 505 HD.ki (by kernel_rfl),
 hD 511 510 HD.ki (by kernel_rfl),
 hD 487 486 HD.ki (by kernel_rfl),
 hD 473 472 HD.ki (by kernel_rfl),
 hD 480 479 HD.ki (by kernel_rfl),
 hD 492 491 HD.ki (by kernel_rfl),
 hD 518 517 HD.ki (by kernel_rfl),
 hD 525 524 HD.ki (by kernel_rfl),
 hD 303 302 HD.m6 (by kernel_rfl),
 hD 308 307 HD.m7 (by kernel_rfl),
 hC 291 290 HD.m6 (by kernel_rfl),
 hC 298 297 HD.m6 (by kernel_rfl),
 hC 325 324 HD.m8 (by kernel_rfl),
 hM 347 346 HD.m8 (by kernel_rfl),
 hM 107 106 HD.m3 (by kernel_rfl),
 hM 114 113 HD.m3 (by kernel_rfl),
 hM 121 120 HD.m3 (by kernel_rfl),
 ⟨397,.type "function",none,none,#[],.none,.none,.str "wright.grammars" 702,.ref 396,.none,390,⟨.type "tuple",none,.seq #[.none] 0,#[]⟩,0,by kernel_rfl,by kernel_rfl,by kernel_rfl,by kernel_rfl,rfl,by kernel_rfl,by kernel_rfl⟩,
 by kernel_rfl,
 by kernel_rfl,
 by kernel_rfl,
 by kernel_rfl,
 by kernel_rfl,
 by kernel_rfl,
 by kernel_rfl,
 by kernel_rfl,
 by kernel_rfl,
 by kernel_rfl,
 by kernel_rfl,
 by kernel_rfl,
 by kernel_rfl,
 by kernel_rfl,
 by kernel_rfl,
 by kernel_rfl,
 by kernel_rfl,
 by kernel_rfl,
 by kernel_rfl,
 by kernel_rfl,
 by kernel_rfl,
 by kernel_rfl,
 by kernel_rfl,
 by kernel_rfl,
 by kernel_rfl,
 by kernel_rfl,
 by kernel_rfl,
 by kernel_rfl,
 by kernel_rfl,
 by kernel_rfl,
 by kernel_rfl,
 by kernel_rfl,
 by kernel_rfl,
 by kernel_rfl,
 by kernel_rfl,
 by kernel_rfl,
 by kernel_rfl,
 by kernel_rfl,
 by kernel_rfl,
 by kernel_rfl,
 by kernel_rfl,
 by kernel_rfl,
 by kernel_rfl,
 by kernel_rfl,
 by kernel_rfl,
 by kernel_rfl,
 by kernel_rfl⟩
end HD
theorem PySem.Challenge.cw_wright_k68_deeds_of_no_tree_holds : PySem.Challenge.rw_wright_k68_deeds_of_no_tree.Holds := by
 refine HD.hold ?_ ?hw
 case hw=>w_witness2
 refine hU.walk (l:=PySem.Challenge.rw_wright_k68_deeds_of_no_tree) (K:=HD.K) 288 293 322 290 297 324 (by decide) (by decide) (by decide) rfl HD.ok5 (λw h Y=>⟨PySem.W.km_in_of Y,PySem.W.km_tabs_of Y⟩) (λw=>by kernel_rfl) (λw=>by kernel_rfl) (λw=>by kernel_rfl) (λw=>by kernel_rfl) (λw=>by kernel_rfl) (λw=>by kernel_rfl) ?F;intro w mg fa h KX G MV;exact hU.all_mk KX G MV (HD.TN w.params)
