import PyProof.Rows.All
import Wide.All
import OpenK.AllK
import Wide.FinOn
import Lean
import PyProof.EqAt
import PyProof.EqKinds
import PyProof.TupleCall
import KE.KNestM
import PyProof.IsiH_list
import PyProof.RaisesAny
import KE.KDictOf
import PyProof.CollectWalk
import PyProof.CompFree
import KE.KDictList
import PyProof.NeKinds
import PyProof.ConsumeWalk
import PyProof.StrBlockI
import PyProof.EnumFor
import PyProof.TupleIter
import PyProof.EnumMake
import KE.KLam
import PyProof.DictUpdate
import PyProof.SeqI3
import PyProof.DictWalks
import PyProof.ConsumeS
import PyProof.Rows.CallKwBuiltin
import PyProof.StrCalls2
import PyProof.StrLawsTight
import PyProof.StrLawsChain
import PyProof.Rows.StrItems
import PyProof.AutoListH
import PyProof.StrOps
import PyProof.StrOps2
import PyProof.StrCalls
import PyProof.Rows.StrPins
import PyProof.Rows.StrDouble
import PyProof.Rows.StrJoin2
import PyProof.ZipIter
import PyProof.ListNew
import KE.KRevSl
import PyProof.ListTruth
import PyProof.Rows.StrBool
import KE.KDictLaws
import KE.KSortKey
import PyProof.Draws
import PySem.Challenge.RW_wright_k16_parts_that_come_again
set_option Elab.async false
set_option linter.all false
set_option maxRecDepth 100000
local macro_rules | `(tactic| omega) => `(tactic| first | lia | omega (config := {}))
local macro_rules | `(∅) => `(by omega)
local macro_rules | `(nofun) => `(by first | decide +kernel | kernel_rfl)
def bJ:=@Or.inl
abbrev aV:=PySem.W.Frag
def qQ:0<=PySem.sizeLine:=by decide
def BK:1<=PySem.sizeLine:=by decide
def gE:2<=PySem.sizeLine:=by decide
def Pq:4<=PySem.sizeLine:=by decide
def aB.{u,v}:=@List.length_map.{u,v}
def bA.{u}:=@List.getElem?_eq_some_iff.{u}
def bS:=@PySem.Heap.get?_push_of_some
def bx.{u}:=@List.mem_singleton.{u}
def bo.{u,v}:=@List.getElem?_map.{u,v}
def cg.{u,v}:=@Option.map_eq_some_iff.{u,v}
def bZ.{u}:=@List.mem_of_getElem?.{u}
def bw.{u,v}:=@List.map_append.{u,v}
def aJ:=@PySem.wpAny_bind
def cu.{u}:=@List.length_append.{u}
def bC.{u}:=@List.mem_cons_of_mem.{u}
def bp.{u}:=@List.mem_cons_self.{u}
def aQ.{u}:=@List.mem_cons.{u}
def aF:=@Nat.le_refl
def cQ.{u}:=@List.getElem?_eq_getElem.{u}
def bO.{u}:=@List.size_toArray.{u}
def a9:=@PySem.Paired.length
def bN.{u}:=@List.mem_append.{u}
def bu.{u,v}:=@List.map_cons.{u,v}
def ba:=@PySem.Heap.lt_size
def cV:=@PySem.Heap.get?_push_size
def cK:=@of_decide_eq_true
def av.{u}:=@if_pos.{u}
def ax.{u}:=@if_neg.{u}
def cP.{u}:=@List.take_add_one.{u}
def cx:=@PySem.PassesOwn.never
def aZ:=@PySem.wpAny_pure
def bM:=@Nat.ne_of_lt
def cU.{u}:=@List.take_length.{u}
def cX.{u}:=@List.length_cons.{u}
def eX.{u}:=@List.mem_append_right.{u}
def gC:=@PySem.F.plainAttrs_list
def eG:=@Bool.false_ne_true
def cA.{u,v}:=@List.mem_map.{u,v}
def eW:=@Nat.lt_of_lt_of_le
def cO:=@Nat.le_trans
def dI:=@decide_eq_true
def ir:=@PySem.F.type_list_append
def iq:=@PySem.F.slot_list_append
def eV.{u}:=@List.length_take.{u}
def eF.{u}:=@List.append_nil.{u}
def cT:=@Nat.zero_le
def gB:=@PySem.W.mg_none_of
def gh.{u}:=@List.append_assoc.{u}
def cJ:=@PySem.wpAny_mono
def gb.{u}:=@List.all_eq_true.{u}
def fN:=@decide_eq_false
def gA.{u,v}:=@List.mem_flatMap.{u,v}
def f_.{u}:=@Option.some.inj.{u}
def il.{u,v}:=@List.mem_map_of_mem.{u,v}
def i4.{u}:=@List.getElem?_of_mem.{u}
def i3.{u}:=@beq_eq_false_iff_ne.{u}
def jh.{u}:=@List.mem_append_left.{u}
def kS.{u}:=@Option.isSome_iff_exists.{u}
def ik.{u}:=@List.nodup_append.{u}
def gP:=@PySem.boot_len
def ij:=@Bool.eq_iff_iff
def fj:=@PySem.Paired.snoc
def oW.{u}:=@List.getElem?_append_right.{u}
def nZ:=@PySem.F.plainAttrs_str
def i0.{u}:=@List.length_nil.{u}
def oV.{u}:=@List.getElem?_append_left.{u}
def jf:=@Bool.and_eq_true
def kR.{u}:=@Array.length_toList.{u}
def nY:=@PySem.StrLaws.glued_eq_join
def je.{u}:=@List.mem_filter.{u}
def kQ.{u}:=@List.filter_append.{u}
def g8.{u,v,w}:=@List.map_map.{u,v,w}
def nX:=@PySem.wpAny_loadPart'
def oU.{u}:=@List.length_filter_le.{u}
def kP:=@PySem.wpAny_pyIter_list
def nW:=@Nat.lt_of_le_of_lt
def kO:=@Nat.lt_succ_self
def oT.{u}:=@List.mem_iff_getElem.{u}
def jd.{u}:=@List.sum_cons.{u}
def nV:=@PySem.wpAny_Call_Name_kw
def iZ:=@Nat.ne_of_gt
def jT.{u}:=@List.nodup_nil.{u}
def nU:=@Int.toNat_natCast
def nS:=@Bool.eq_false_iff
def jc:=@PySem.wpAny_holding
def vm.{u}:=@List.getD_eq_getElem?_getD.{u}
def nR.{u}:=@List.getElem_mem.{u}
def jS:=@PySem.W.mg_of
def jb.{u,v}:=@List.map_nil.{u,v}
def vk.{u}:=@List.getLast?_eq_some_iff.{u}
def rq.{u}:=@List.mem_of_mem_take.{u}
def rp:=@Bool.and_eq_true_iff
def nQ.{u}:=@List.nodup_cons.{u}
def nP.{u}:=@List.nil_append.{u}
def oS:=@List.length_range
def vj:=@PyProof.Rows.boot_tuple
def ja:=@Nat.le_succ
def vi.{u}:=@List.length_eq_zero_iff.{u}
def rm.{u,v}:=@List.flatMap_append.{u,v}
def oR:=@PySem.wpAny_truthy_bool
def oQ.{u}:=@beq_self_eq_true.{u}
def rj.{u,v}:=@List.map_singleton.{u,v}
def zo:=@PyProof.Rows.callWith_type1
def vh.{u}:=@List.take_append_drop.{u}
def pA.{u}:=@List.length_singleton.{u}
def jm:=@PySem.Heap.size_push
def mF.{u,v}:=@Option.isSome_map.{u,v}
def jl:=@Nat.lt_irrefl
def mE:=@PySem.tupleKind_room_in1
def mD:=@PySem.Calls.spliced_cons
def pz.{u}:=@List.mem_of_getLast?.{u}
def ka:=@PySem.wpAny_passesOwn
def h_:=@PySem.wpAny_field
def j_:=@List.mem_range
def tN.{u}:=@List.getLast?_eq_none_iff.{u}
def tM.{u}:=@List.drop_eq_getElem_cons.{u}
def tL:=@Classical.byContradiction
def mC.{u}:=@List.length_drop.{u}
def mz.{u,v}:=@List.getElem_map.{u,v}
def mw:=@PySem.wpAny_pyIter_enum
def px:=@PySem.mem_of_lookup
def pq.{u}:=@Array.toList_append.{u}
def jk:=@Nat.le_of_lt
def tK.{u,v}:=@List.length_filterMap_le.{u,v}
def tJ.{u}:=@List.getElem?_take_of_lt.{u}
def tI:=@PySem.F.slot_tuple_iterator_next
def pj:=@PySem.codeAny_call_builtin
def ph:=@PySem.Around.under_plainId
def mv.{u}:=@List.find?_cons.{u}
def j9:=@Bool.true_and
def jj:=@PySem.codeAny_mono
def tH:=@PySem.F.slot_list_getattribute
def pd.{u,v}:=@List.foldl_append.{u,v}
def pb:=@PySem.wpAny_setField_rec
def tG:=@PySem.wpAny_getItem_str_slice
def tF:=@PySem.wpAny_callSpecial?_slot
def mr:=@PySem.codeAny_builtin
def tE:=@PySem.F.type_str_join
def tD:=@PySem.F.slot_str_join
def j8:=@Nat.lt_trans
def tq.{u}:=@List.getElem?_eq_none.{u}
def xB.{u}:=@List.dropLast_append_of_ne_nil.{u}
def fk.{u}:=@Ne.symm.{u}
def xA.{u}:=@List.take_append_of_le_length.{u}
def o_.{u}:=@List.prefix_refl.{u}
def o9.{u}:=@List.getElem_inj.{u}
def o8.{u}:=@List.filter_cons.{u}
def s_:=@PySem.StrLaws.join_length_le
def sZ.{u}:=@List.mem_of_mem_drop.{u}
def sY:=@PySem.Calls.callWith_builtin
def o7:=@PySem.wpAny_newObj_type
def sX:=@PySem.wpAny_pyNext_list_end
def j7.{u,v}:=@Sum.inr.inj.{u,v}
def o6.{u,v}:=@Option.map_some.{u,v}
def sW.{u}:=@List.take_succ_cons.{u}
def o5.{u}:=@List.length_set.{u}
def sV:=@PySem.F.slot_enumerate_next
def sU:=@PySem.wpAny_loadName_local
def mq:=@Nat.zero_add
def sS.{u,v}:=@List.mem_filterMap.{u,v}
def sR:=@PySem.Calls.evalArgs_plain
def mn:=@PySem.plainId_quiet
def xy.{u}:=@List.getElem?_eq_none_iff.{u}
def ji:=@PySem.wpAny_call
def xx:=@PySem.F.type_list_extend
def xw:=@PySem.F.slot_list_extend
def xu:=@PySem.F.slot_dict_update
def sQ.{u}:=@Option.some.injEq.{u}
def sP:=@Nat.lt_succ_of_lt
def sO:=@Nat.le_succ_of_le
def xt:=@PySem.wpAny_letOwnedTupleGo_enum
def xr:=@PySem.F.plainAttrs_dict
def oZ.{u,v}:=@Prod.mk.injEq.{u,v}
def oY.{u}:=@List.any_cons.{u}
def ml:=@Int.le_refl
def xq:=@Int.eq_ofNat_of_zero_le
def mj:=@PySem.wpAny_typeOf
def sN:=@PySem.wpAny_pyIter_tuple
def oX:=@PySem.wpAny_seqItems
namespace L2
open PySem PySem.Spec PyProof.Rows
abbrev aI:=Sum Int Str
def p8:aI->Value->Bool
 | .inl k,v=>Value.isInt k v
 | .inr x,v=>Value.isStrOf x v
def Q0 (w:World):aI->Int
 | .inl k=>hashInt k
 | .inr x=>hashStr w x
def cN:∀{k:aI}{v:Value},p8 k v=true->(∃i t,k=Sum.inl i/\v=Value.int i t)\/(∃x t,k=Sum.inr x/\v=Value.str x t)
 | .inl i,v,h=>by
  obtain⟨t,e⟩:=Value.isInt_shape (k:=i) (v:=v) h;exact .inl ⟨i,t,rfl,e⟩
 | .inr x,v,h=>by
  obtain⟨t,e⟩:=Value.isStrOf_shape (x:=x) (v:=v) h;exact .inr ⟨x,t,rfl,e⟩
def A5 (i:Int)(t:Tok):p8 (.inl i) (.int i t)=true:=by simp [p8,Value.isInt]
def A4 (x:Str)(t:Tok):p8 (.inr x) (.str x t)=true:=by simp [p8,Value.isStrOf]
def JE (a b:Int):decide ((Sum.inl a:aI)=Sum.inl b)=(a == b):=by
 by_cases e:a=b
 .subst e;simp
 have h:¬(Sum.inl a:aI)=Sum.inl b:=λq=>e (Sum.inl.inj q);rw [fN h];exact(i3.mpr e).symm
def JB (a b:Str):decide ((Sum.inr a:aI)=Sum.inr b)=decide (a=b):=by
 by_cases e:a=b
 .subst e;simp
 have h:¬(Sum.inr a:aI)=Sum.inr b:=λq=>e (j7 q);rw [fN h,fN e]
def JD (a:Int)(b:Str):decide ((Sum.inl a:aI)=Sum.inr b)=false:=fN (λq=>nomatch q)
def JC (a:Str) (b:Int):decide ((Sum.inr a:aI)=Sum.inl b)=false:=fN (λq=>nomatch q)
def aU (prog:Program)(w:World):PySem.KeyKind prog w aI where
 is:=p8
 hash:=Q0 w
 inj:=λv a b ha hb=>by
  rcases cN ha with ⟨i,t,rfl,rfl⟩ | ⟨x,t,rfl,rfl⟩
  .rcases cN hb with ⟨j,u,rfl,e⟩ | ⟨y,u,rfl,e⟩
   .injection e with e1 _;rw [e1]
   exact nomatch e
  rcases cN hb with ⟨j,u,rfl,e⟩ | ⟨y,u,rfl,e⟩
  .exact nomatch e
  injection e with e1 _;rw [e1]
 byValue:=λk v h=>by
  rcases cN h with ⟨i,t,rfl,rfl⟩ | ⟨x,t,rfl,rfl⟩ <;> rfl
 pyHash:=λhv h=>by
  rcases cN hv with ⟨i,t,rfl,rfl⟩ | ⟨x,t,rfl,rfl⟩
  .exact wpAny_pyHash_int h
  exact wpAny_pyHash_str h
 eqBool:=λhu hv h=>by
  rcases cN hu with ⟨i,t,rfl,rfl⟩ | ⟨x,t,rfl,rfl⟩
  .rcases cN hv with ⟨j,u,rfl,rfl⟩ | ⟨y,u,rfl,rfl⟩
   .rw [JE] at h;exact wpAny_eqBool_int h
   rw [JD] at h;exact SeqAt.EqAt.int_str i t y u _ _ _ _ h
  rcases cN hv with ⟨j,u,rfl,rfl⟩ | ⟨y,u,rfl,rfl⟩
  .rw [JC] at h;exact SeqAt.EqAt.str_int x t j u _ _ _ _ h
  rw [JB] at h;exact wpAny_eqBool_str h
 «strs»:=λk x t v h=>by
  rcases cN h with ⟨i,u,rfl,e⟩ | ⟨y,u,rfl,e⟩
  .exact nomatch e
  injection e with e1 _;subst e1;cases v <;> rfl
def vV (prog:Program)(w:World) (i:Int)(t:Tok):(aU prog w).is (.inl i) (.int i t)=true:=A5 i t
def vU (prog:Program)(w:World)(x:Str)(t:Tok):(aU prog w).is (.inr x) (.str x t)=true:=A4 x t
inductive V where
 | eJ | bl (b:Bool) | int (i:Int) | str (x:Str) | Bu (b:Array UInt8) | Kg (b:UInt64) | ref (a:Addr) | ty (n:String)
 deriving DecidableEq
def RelV:V->Value->Prop
 | .eJ,u=>u=Value.none
 | .bl b,u=>u=Value.bool b
 | .int i,u=>∃t,u=Value.int i t
 | .str x,u=>∃t,u=Value.str x t
 | .Bu b,u=>∃t,u=Value.bytes b t
 | .Kg b,u=>∃t,u=Value.float b t
 | .ref a,u=>u=Value.ref a
 | .ty n,u=>u=Value.type n
abbrev aT:List V->List Value->Prop:=Paired RelV
theorem aT.length {xs:List V}{us:List Value}(r:aT xs us):xs.length=us.length:=a9 r
theorem aT.get:∀{xs:List V}{us:List Value}{i:Nat}{x:V},aT xs us->xs[i]?=some x->∃u,us[i]?=some u/\RelV x u
 | _,_,_,_,.nil,e=>by simp at e
 | _,_,0,_,.cons r _,e=>by simp at e;subst e;exact⟨_,rfl,r⟩
 | _,_,i+1,x,.cons _ t,e=>by
  obtain⟨u,h1,h2⟩:=aT.get (i:=i) (x:=x) t (by simpa using e);exact⟨u,by simpa using h1,h2⟩
theorem aT.set {x:V}{u:Value}(r:RelV x u):∀{xs:List V}{us:List Value}(i:Nat),aT xs us->aT (xs.set i x) (us.set i u)
 | _,_,_,.nil=>.nil
 | _,_,0,.cons _ t=>.cons r t
 | _,_,i+1,.cons q t=>.cons q (aT.set r i t)
theorem aT.append:∀{xs ys:List V}{us ws:List Value},aT xs us->aT ys ws->aT (xs++ys) (us++ws)
 | _,_,_,_,.nil,s=>s
 | _,_,_,_,.cons r t,s=>.cons r (aT.append t s)
theorem aT.take:∀{xs:List V}{us:List Value}(n:Nat),aT xs us->aT (xs.take n) (us.take n)
 | _,_,0,_=>.nil
 | _,_,_+1,.nil=>.nil
 | _,_,n+1,.cons r t=>.cons r (aT.take n t)
theorem aT.drop:∀{xs:List V}{us:List Value}(n:Nat),aT xs us->aT (xs.drop n) (us.drop n)
 | _,_,0,r=>r
 | _,_,_+1,.nil=>.nil
 | _,_,n+1,.cons _ t=>aT.drop n t
def aT.none_of:∀{xs:List V}{us:List Value}{i:Nat},aT xs us->xs[i]?=none->us[i]?=none:=λ{xs us i} r e=>by
 have h1:=r.length;have h2:xs.length<=i:=xy.mp e;exact xy.mpr ∅
def iY:Option V->Option Value->Prop
 | some v,some u=>RelV v u
 | none,none=>True
 | _,_=>False
def KV {κ:Type}:List (κ×V)->List (κ×Value)->Prop:=Paired λ(p:κ×V)(q:κ×Value)=>p.1=q.1/\RelV p.2 q.2
def kV:aI->V
 | .inl i=>.int i
 | .inr x=>.str x
inductive HO where
 | lst (xs:List V)
 | tup (xs:List V)
 | dK (kvs:List (aI×V)) | dT (kvs:List (List aI×V))
 | set (S:Int->Bool) (n:Nat)
 | ins (C dx:Addr)(fs:List (Str×V))
 | own (x:Addr)
 | xd (fs:List (Str×V))
 | met (f x:Addr)
 | ES (lo hi:Int)
 | i_ (o:Obj)(u:HO)
 | qR (ps:Array Value)
 | ext (φ:Heap->Prop)
abbrev Hp:=Addr->Option HO
def upd (H:Hp)(a:Addr)(o:HO):Hp:=λb=>if b=a then some o else H b
def ae {H:Hp}{a:Addr}{o:HO}:upd H a o a=some o:=by unfold upd;rw [av rfl]
def ai {H:Hp}{a b:Addr}{o:HO}(h:b≠a):upd H a o b=H b:=by unfold upd;rw [ax h]
def iM {H:Hp}{a:Addr}{o u:HO}:upd (upd H a o) a u=upd H a u:=by
 funext b;unfold upd;split <;> rfl
def Ms {H:Hp}{a b:Addr}{o u:HO}(h:H a=some o)(h':H b=some u)(d:o≠u):a≠b:=by
 intro e;subst e;rw [h] at h';exact d (f_ h')
def ao {H:Hp}{a b:Addr}{o:HO}(h:H a=some o)(h':H b=none):a≠b:=by
 intro e;subst e;rw [h] at h';cases h'
section
variable (P:Program)(w:World)
def bY (H:Hp)(h:Heap)(a:Addr):HO->Prop
 | .lst xs=>xs.length<=sizeLine/\∃(aL:List Value) (n:Nat),aT xs aL/\h.get? a=some { cls:=.type "list",data:=.seq aL.toArray n }
 | .tup xs=>xs.length<=sizeLine/\∃aL:List Value,aT xs aL/\IsTup h a aL.toArray
 | .dK kvs=>kvs.length<=sizeLine/\(a == sysModules)=false/\∃vs,KV kvs vs/\h.DictOf (aU P w) a vs
 | .dT kvs=>kvs.length<=sizeLine/\(a == sysModules)=false/\∃xs:List (List aI×Addr×Value),
   Paired (λ(p:List aI×V)(q:List aI×Addr×Value)=>p.1=q.1/\H q.2.1=some (.tup (p.1.map kV))/\RelV p.2 q.2.2) kvs xs /\
   ∃o es ep,h.get? a=some o/\o.ExactDict/\o.data=.dict es ep/\es.toList=xs.map (entryOfKey (tupleKind (aU P w)))/\(xs.map (·.1)).Nodup
 | .set S n=>h.SetOf (intKind P w) a S n
 | .ins C dx fs=>H dx=some (.own a)/\fs.length<=1000/\dx≠a/\h.get? a=some (PySem.W.instObj C dx) /\
   ∃mA,h.Ns1 dx mA/\(∀f,iY (fs.lookup f) (mA f))/\PySem.Within mA (fs.map (·.1))
 | .own _=>∃o,h.get? a=some o
 | .xd fs=>∃mA,h.Ns1 a mA/\∀f,iY (fs.lookup f) (mA f)
 | .ES lo hi=>∃t u v,h.get? a=some { cls:=.type "range",data:=.fields #[.int lo t,.int hi u,.int 1 v] }
 | .i_ o u=>h.get? a=some o/\bY H h a u
 | .qR ps=>h.get? a=some { cls:=.none,data:=.fields ps }
 | .met f x=>h.get? a=some (PySem.W.methodObj (.ref f) (.ref x))
 | .ext φ=>φ h/\(∃o,h.get? a=some o)/\∀h1 h2:Heap,φ h1->(∀o,h1.get? a=some o->h2.get? a=some o)->φ h2
def j6 (H:Hp)(h:Heap):Prop:=∀a o,H a=some o->bY P w H h a o
end
section
variable {P:Program}{w:World}{H H':Hp}{h h':Heap}{a:Addr}{o:HO}
theorem bY.lt (x:bY P w H h a o):a < h.objs.size:=by
 cases o with
 | lst xs=>obtain⟨_,_,_,_,e⟩:=x;exact ba e
 | tup xs=>obtain⟨_,_,_,p⟩:=x;exact p.lt
 | dK kvs=>obtain⟨_,_,_,_,o,_,_,e,_⟩:=x;exact ba e
 | dT kvs=>obtain⟨_,_,_,_,o,_,_,e,_⟩:=x;exact ba e
 | set S n=>obtain⟨o,_,_,_,e,_⟩:=x;exact ba e
 | ins C dx fs=>obtain⟨_,_,_,e,_⟩:=x;exact ba e
 | own y=>obtain⟨_,e⟩:=x;exact ba e
 | xd fs=>obtain⟨_,⟨_,_,_,e,_⟩,_⟩:=x;exact ba e
 | ES lo hi=>obtain⟨_,_,_,e⟩:=x;exact ba e
 | i_ ob u=>obtain⟨e,_⟩:=x;exact ba e
 | qR ps=>exact ba (show h.get? a=some _ from x)
 | met f y=>exact ba (show h.get? a=some _ from x)
 | ext φ=>obtain⟨_,⟨_,e⟩,_⟩:=x;exact ba e
theorem Paired.gy {α β:Type}{F G:α->β->Prop}:∀{l₁:List α}{l₂:List β},Paired F l₁ l₂->(∀a b,F a b->G a b)->Paired G l₁ l₂
 | _,_,.nil,_=>.nil
 | _,_,.cons r t,f=>.cons (f _ _ r) (Paired.gy t f)
def bY.g6 (x:bY P w H h a o)(k:∀b u,(b=a\/H b=some (.own a))->h.get? b=some u->h'.get? b=some u)
  (ho:∀b,H b=some (.own a)->H' b=some (.own a))(ht:∀b xs,H b=some (.tup xs)->H' b=some (.tup xs)):bY P w H' h' a o:=by
 induction o with
 | lst xs=>obtain⟨z,aL,n,r,e⟩:=x;exact⟨z,aL,n,r,k _ _ (.inl rfl) e⟩
 | tup xs=>obtain⟨z,aL,r,ob,e,c⟩:=x;exact⟨z,aL,r,ob,k _ _ (.inl rfl) e,c⟩
 | dK kvs=>obtain⟨z,y,vs,r,ob,es,ep,e,c⟩:=x;exact⟨z,y,vs,r,ob,es,ep,k _ _ (.inl rfl) e,c⟩
 | dT kvs =>
  obtain⟨z,y,xs,r,ob,es,ep,e,c⟩:=x;exact⟨z,y,xs,Paired.gy r λp q z=>⟨z.1,ht _ _ z.2.1,z.2.2⟩,ob,es,ep,k _ _ (.inl rfl) e,c⟩
 | set S n=>obtain⟨ob,es,ep,t,e,c⟩:=x;exact⟨ob,es,ep,t,k _ _ (.inl rfl) e,c⟩
 | ins C dx fs =>
  obtain⟨d,z,ne,e,mA,⟨od,es,ep,e2,c⟩,r⟩:=x;exact⟨ho _ d,z,ne,k _ _ (.inl rfl) e,mA,⟨od,es,ep,k _ _ (.inr d) e2,c⟩,r⟩
 | own y=>obtain⟨ob,e⟩:=x;exact⟨ob,k _ _ (.inl rfl) e⟩
 | xd fs=>obtain⟨mA,⟨od,es,ep,e,c⟩,r⟩:=x;exact⟨mA,⟨od,es,ep,k _ _ (.inl rfl) e,c⟩,r⟩
 | ES lo hi=>obtain⟨t,u,v,e⟩:=x;exact⟨t,u,v,k _ _ (.inl rfl) e⟩
 | i_ ob u ih=>obtain⟨e,q⟩:=x;exact⟨k _ _ (.inl rfl) e,ih q⟩
 | qR ps =>
  have e:h.get? a=some { cls:=.none,data:=.fields ps }:=x;show h'.get? a=some { cls:=.none,data:=.fields ps };exact k a _ (.inl rfl) e
 | met f y =>
  have e:h.get? a=some (PySem.W.methodObj (.ref f) (.ref y)):=x;show h'.get? a=some (PySem.W.methodObj (.ref f) (.ref y));exact k a _ (.inl rfl) e
 | ext φ=>obtain⟨p,⟨o,e⟩,st⟩:=x;exact⟨st _ _ p λo q=>k _ _ (.inl rfl) q,⟨o,k _ _ (.inl rfl) e⟩,st⟩
theorem j6.lt (x:j6 P w H h)(e:H a=some o):a < h.objs.size:=(x a o e).lt
def j6.fresh (x:j6 P w H h)(e:h.objs.size<=a):H a=none:=by
 cases q:H a with
 | none=>rfl
 | some u=>exact absurd (eW (x.lt q) e) (jl _)
def j6.kept (x:j6 P w H h)(k:∀b u,h.get? b=some u->h'.get? b=some u):j6 P w H h':=λa o e =>
 (x a o e).g6 (λb u _ q=>k b u q) (λ_ q=>q) λ_ _ q=>q
def j6.laid (x:j6 P w H h)(k:∀b u,h.get? b=some u->h'.get? b=some u)(hp:h.objs.size<=a)(new:bY P w (upd H a o) h' a o):j6 P w (upd H a o) h':=λb u e=>by
 have hn:=x.fresh hp;by_cases hb:b=a
 .subst hb;rw [ae] at e;cases e;exact new
 rw [ai hb] at e;exact(x b u e).g6 (λc v _ q=>k c v q) (λc q=>by rw [ai (ao q hn)];exact q) λc xs q=>by rw [ai (ao q hn)];exact q
end
def Rd (H:Hp)(a:Addr)(u:HO):Prop:=H a=some u\/∃o,H a=some (.i_ o u)
def Rd.of {H:Hp}{a:Addr}{u:HO}(h:H a=some u):Rd H a u:=.inl h
def Rd.ok {P:Program}{w:World}{H:Hp}{h:Heap}{a:Addr}{u:HO}(r:Rd H a u)(x:j6 P w H h):bY P w H h a u:=by
 rcases r with r | ⟨o,r⟩
 .exact x a u r
 obtain⟨_,q⟩:=x a _ r;exact q
def Of:Option HO->Prop
 | some (.lst _)=>True
 | some (.dK _)=>True
 | some (.dT _)=>True
 | some (.set _ _)=>True
 | some (.ins _ _ _)=>True
 | some (.ext _)=>True
 | _=>False
section
variable {P:Program}{w:World}{H:Hp}{h h':Heap}{x e:Addr}{o':HO}
def j6.write (ok:j6 P w H h)(mu:Of (H x))(he:e=x\/H e=some (.own x))(k:∀b u,b≠e->h.get? b=some u->h'.get? b=some u)(K8:∃u,h'.get? e=some u)
  (new:bY P w (upd H x o') h' x o'):j6 P w (upd H x o') h':=λb u q=>by
 have Mn:∀c y,H c=some (.own y)->c≠x:=λc y r z=>by subst z;rw [r] at mu;exact mu
 have Qv:∀c xs,H c=some (.tup xs)->c≠x:=λc xs r z=>by subst z;rw [r] at mu;exact mu
 by_cases hb:b=x
 .subst hb;rw [ae] at q;cases q;exact new
 rw [ai hb] at q;by_cases JY:b=e
 .have q':H b=some (.own x):=by
   rcases he with z | z
   .exact absurd (JY.trans z) hb
   rw [JY];exact z
  rw [q] at q';cases q';obtain⟨v,hv⟩:=K8;exact⟨v,by rw [JY];exact hv⟩
 refine(ok b u q).g6 (λc v hc r=>k c v ?_ r) (λc r=>by rw [ai (Mn c b r)];exact r) λc xs r=>by rw [ai (Qv c xs r)];exact r
 rcases hc with rfl | hc
 .exact JY
 rintro rfl;rcases he with z | z
 .exact Mn c b hc z
 rw [hc] at z;cases z;exact hb rfl
end
structure Un (fs ex:List Addr)(H H':Hp)(h h':Heap):Prop where
 keep:∀b o,h.get? b=some o->H b=none->b∉fs->b∉ex->h'.get? b=some o
 slot:∀b o,h.get? b=some o->H b=none->b∈fs->b∉ex->∃sl,h'.get? b=some { o with slots:=sl }
 free:∀b o,h.get? b=some o->H b=none->b∉ex->H' b=none
 there:∀b o,h.get? b=some o->b∉ex->∃o',h'.get? b=some o'
 mJ:∀b xs,H b=some (.tup xs)->H' b=some (.tup xs)
 kJ:∀b o u,H b=some (.i_ o u)->H' b=some (.i_ o u)
 kT:∀b ps,H b=some (.qR ps)->∃more,H' b=some (.qR (ps++more))
section
variable {fs E2 ex VI:List Addr}{H H1 H2:Hp}{h h1 h2 h':Heap}{a x e:Addr}{o:HO}
def Un.any (u:Un fs ex H H1 h h1){b:Addr}{ob:Obj}(q:h.get? b=some ob)(n:H b=none)(hx:b∉ex):∃sl,h1.get? b=some { ob with slots:=sl }:=by
 by_cases hb:b∈fs
 .exact u.slot b ob q n hb hx
 exact⟨ob.slots,u.keep b ob q n hb hx⟩
def Un.trans (a:Un fs ex H H1 h h1)(b:Un fs ex H1 H2 h1 h2):Un fs ex H H2 h h2 where
 keep:=λc ob q n hc hx=>b.keep c ob (a.keep c ob q n hc hx) (a.free c ob q n hx) hc hx
 slot:=λc ob q n hc hx=>by
  obtain⟨sl,e1⟩:=a.slot c ob q n hc hx;obtain⟨PZ,e2⟩:=b.slot c _ e1 (a.free c ob q n hx) hc hx;exact⟨PZ,e2⟩
 free:=λc ob q n hx=>by
  obtain⟨o',e1⟩:=a.there c ob q hx;exact b.free c o' e1 (a.free c ob q n hx) hx
 there:=λc ob q hx=>by
  obtain⟨o',e1⟩:=a.there c ob q hx;exact b.there c o' e1 hx
 mJ:=λc xs q=>b.mJ c xs (a.mJ c xs q)
 kJ:=λc ob xs q=>b.kJ c ob xs (a.kJ c ob xs q)
 kT:=λc ps q=>by
  obtain⟨m1,e1⟩:=a.kT c ps q;obtain⟨m2,e2⟩:=b.kT c _ e1;exact⟨m1++m2,by rw [e2,Array.append_assoc]⟩
def Un.kept (k:∀b u,h.get? b=some u->h'.get? b=some u):Un fs ex H H h h' :=
 ⟨λb ob q _ _ _=>k b ob q,λb ob q _ _ _=>⟨ob.slots,k b ob q⟩,λ_ _ _ n _=>n,λb ob q _=>⟨ob,k b ob q⟩,λ_ _ q=>q,λ_ _ _ q=>q,λ_ ps q=>⟨#[],by rw [q];simp⟩⟩
def Un.refl:Un fs ex H H h h:=Un.kept λ_ _ q=>q
def Un.laid (k:∀b u,h.get? b=some u->h'.get? b=some u)(hp:h.objs.size<=a)(hn:H a=none):Un fs ex H (upd H a o) h h' where
 keep:=λb u q _ _ _=>k b u q
 slot:=λb u q _ _ _=>⟨u.slots,k b u q⟩
 free:=λb u q n _=>by rw [ai (bM (eW (ba q) hp))];exact n
 there:=λb u q _=>⟨u,k b u q⟩
 mJ:=λb xs q=>by rw [ai (ao q hn)];exact q
 kJ:=λb u xs q=>by rw [ai (ao q hn)];exact q
 kT:=λb ps q=>⟨#[],by rw [ai (ao q hn),q];simp⟩
def Un.write (mu:Of (H x))(he:e=x\/H e=some (.own x))(k:∀b u,b≠e->h.get? b=some u->h'.get? b=some u)(K8:∃u,h'.get? e=some u):Un fs ex H (upd H x o) h h':=by
 have hx:∀b,H b=none->b≠x:=λb n z=>by subst z;rw [n] at mu;exact mu
 have hb:∀b,H b=none->b≠e:=λb n z=>by
  subst z;rcases he with r | r
  .exact hx b n r
  rw [n] at r;cases r
 have hm:∀b u,H b=some u->¬Of (some u)->b≠x:=λb u q nm z=>by subst z;rw [q] at mu;exact nm mu
 refine⟨λb u q n _ _=>k b u (hb b n) q,λb u q n _ _=>⟨u.slots,k b u (hb b n) q⟩,λb u q n _=>by rw [ai (hx b n)];exact n,λb u q _=>?_,
  λb xs q=>by rw [ai (hm b _ q λz=>z)];exact q,λb u xs q=>by rw [ai (hm b _ q λz=>z)];exact q,λb ps q=>⟨#[],by rw [ai (hm b _ q λz=>z),q];simp⟩⟩
 by_cases JY:b=e
 .subst JY;exact K8
 exact⟨u,k b u JY q⟩
def Un.mono (u:Un fs ex H H1 h h1)(hs:∀b∈fs,b∈E2)(hx:∀b∈ex,b∈VI):Un E2 VI H H1 h h1 :=
 ⟨λb ob q n hb he=>u.keep b ob q n (λz=>hb (hs b z)) λz=>he (hx b z),λ_ _ q n _ he=>u.any q n λz=>he (hx _ z),λb ob q n he=>u.free b ob q n λz=>he (hx b z),λb ob q he=>u.there b ob q λz=>he (hx b z),u.mJ,u.kJ,u.kT⟩
end
def EL (h:Heap)(H:Hp):List Addr:=(List.range h.objs.size).filter λa=>(H a).isSome
def kI (h:Heap)(H:Hp):Heap:=PySem.W.hideAll h (EL h H)
def sf (h:Heap)(H:Hp):(kI h H).objs.size=h.objs.size:=PySem.W.hideAll_size _ _
def v_ {h:Heap}{H:Hp}{b:Addr}{o:Obj}(e:h.get? b=some o)(n:H b=none):(kI h H).get? b=some o :=
 PySem.W.hideAll_get _ e λhm=>by
  have q:(H b).isSome=true:=(je.mp hm).2;rw [n] at q;simp at q
def zZ {h:Heap}{H:Hp}{b:Addr}{o:Obj}(e:(kI h H).get? b=some o):h.get? b=some o/\H b=none:=by
 have e':h.get? b=some o:=PySem.W.of_hideAll (EL h H) e;refine⟨e',?_⟩;cases q:H b with
 | none=>rfl
 | some x =>
  have hm:b∈EL h H:=je.mpr ⟨j_.mpr (ba e'),by simp [q]⟩;have z:(kI h H).get? b=none:=PySem.W.hideAll_none (EL h H) hm;rw [z] at e;cases e
def GX (g h:Heap)(L:Addr):List (Addr×Obj):=(List.range h.objs.size).filterMap λa=>if a=L\/(g.get? a).isSome=true then none else (h.get? a).map λo=>(a,o)
def rest (g h:Heap)(L d:Addr):List (Addr×Obj):=(GX g h L).filter λp=>decide (p.1≠d)
structure Mod (K:aV)(mg:Str->Option Value)(base:Heap):Prop where
 MS:K.In base
 glob:base.Ns mainGlobals mg
 blt:∃mb,base.Ns builtinsNs mb/\∀x:Str,x ≠ "__name__" -> mb x=bootBuiltins x
 nolimit:base.NoLimit
structure Cx where
 prog:Program
 w:World
 K:aV
 mg:Str->Option Value
 base:Heap
 A:Around
 N:List Str
 s₀:Shared
 H₀:Hp
 env:Env
 outer:List Env
 stack:List Env
 ex:List Addr
 fn:Str->Bool
 calm:Bool
 pn:List (Addr×Obj)
 xe:Value->Shared->Prop
def Bd (l:List Env):List Addr:=l.filterMap (·.frame)
abbrev Cx.fs (X:Cx):List Addr:=Bd X.outer
def Pf (sc:Scope)(x:Str):Prop:=sc.names.lookup x=some .local\/sc.names.lookup x=some .cell\/sc.names.lookup x=some .free
def Loc (sc:Scope)(x:Str):Prop:=sc.names.lookup x=some .local\/sc.names.lookup x=some .cell
def Look (env:Env)(h:Heap)(m:Str->Option Value)(x:Str)(u:Value):Prop :=
 (env.kindOf x=some .local/\m x=some u)\/((env.kindOf x=some .cell\/env.kindOf x=some .free)/\∃c,env.cells.lookup x=some c/\h.IsCell c (some u))
structure Cx.Ok (X:Cx):Prop where
 mod:Mod X.K X.mg X.base
 kind:X.env.scope.kind=.function
 glob:X.env.globals=mainGlobals
 blt:X.env.builtins=builtinsNs
 above:X.s₀.heap.objs.size<=X.env.locals
 inj:∀x y c,X.env.cells.lookup x=some c->X.env.cells.lookup y=some c->x=y
 has:∀x,(X.env.kindOf x=some .cell\/X.env.kindOf x=some .free)->∃c,X.env.cells.lookup x=some c
 NU:∀x c,X.fn x=true->X.env.cells.lookup x=some c->X.s₀.heap.objs.size<=c
 hd:X.calm=true->X.A.handled=none
 frames:X.A.frames=some X.stack
 Oz:X.stack=X.outer\/(X.stack=X.env::X.outer/\X.env.frame=some X.env.locals)
 Lg:∀b∈X.ex,b≠X.env.locals/\∀x c,X.env.cells.lookup x=some c->c≠b
 bs:∀b o,X.base.get? b=some o->X.s₀.heap.get? b=some o/\X.H₀ b=none
 E6:X.base.objs.size<=X.s₀.heap.objs.size
 Dt:∀b o,X.base.get? b=some o->b∉X.ex
 Bi:∀b∈X.ex,b∉X.fs
 nq:X.s₀.heap.FunFrames X.base X.outer
 HQ:∀b∈X.fs,X.H₀ b=none
structure Inv (X:Cx)(ah:List (Addr×Obj))(σ:List (Option V))(H:Hp)(s:Shared):Prop where
 ok:X.Ok
 os:s.os=X.s₀.os
 bare:AllBare s.gens
 base:Un X.fs X.ex X.H₀ H X.s₀.heap s.heap
 loc:∃m,s.heap.Ns X.env.locals m/\∀(i:Nat)(x:Str)(v:V),X.N[i]?=some x->σ[i]?=some (some v)->Pf X.env.scope x->∃u,RelV v u/\Look X.env s.heap m x u
 cell:∀x c,X.env.cells.lookup x=some c->∃v,s.heap.IsCell c v
 free:H X.env.locals=none
 jY:∀x c,X.env.cells.lookup x=some c->H c=none
 pin:∀p∈X.pn++ah,s.heap.get? p.1=some p.2/\H p.1=none/\p.1≠X.env.locals/\p.1∉X.fs/\∀v,p.2.data≠.cell v
 bQ:j6 X.prog X.w H s.heap
 len:σ.length=X.N.length
section
variable {X:Cx}{ah:List (Addr×Obj)}{σ:List (Option V)}{H H':Hp}{s:Shared}{h':Heap}
def Cx.Ok.Qy (ok:X.Ok){b:Addr}{o:Obj}(e:X.base.get? b=some o):b∉X.fs:=λhb=>by
 have:=(ok.nq.mem hb).1;rw [e] at this;cases this
theorem Inv.bs (I:Inv X ah σ H s):∀b o,X.base.get? b=some o->s.heap.get? b=some o/\H b=none:=λb o e =>
 ⟨I.base.keep b o (I.ok.bs b o e).1 (I.ok.bs b o e).2 (I.ok.Qy e) (I.ok.Dt b o e),I.base.free b o (I.ok.bs b o e).1 (I.ok.bs b o e).2 (I.ok.Dt b o e)⟩
def Inv.bk (I:Inv X ah σ H s):∀b o,X.base.get? b=some o->s.heap.get? b=some o:=λb o e=>(I.bs b o e).1
theorem Inv.mod (I:Inv X ah σ H s):Mod X.K X.mg X.base:=I.ok.mod
def Inv.xb (I:Inv X ah σ H s):X.K.In s.heap:=I.ok.mod.MS.keeps I.bk
theorem Inv.nolimit (I:Inv X ah σ H s):s.heap.NoLimit:=I.ok.mod.nolimit.keeps I.bk
def Inv.fr (I:Inv X ah σ H s):∃m,Fr X.base X.env.locals s.heap m :=
 let ⟨m,hn,_⟩:=I.loc
 ⟨m,hn,I.bk,cO I.ok.E6 I.ok.above⟩
theorem Inv.lt (I:Inv X ah σ H s):X.env.locals < s.heap.objs.size:=let ⟨_,hn,_⟩:=I.loc;hn.lt
def Inv.sz (I:Inv X ah σ H s):X.s₀.heap.objs.size<=s.heap.objs.size:=cO I.ok.above (jk I.lt)
def Inv.Qx (I:Inv X ah σ H s){a:Addr}(h:s.heap.objs.size<=a):a∉X.fs:=λhb=>by
 obtain⟨_,o,ho,_⟩:=I.ok.nq.mem hb;exact absurd (eW (ba ho) (cO I.sz h)) (jl _)
def Inv.Ky (I:Inv X ah σ H s):∀x c,X.env.cells.lookup x=some c->c≠X.env.locals:=λx c e z=>by
 obtain⟨v,o,ho,hd⟩:=I.cell x c e;obtain⟨m,⟨o',es,ep,Gf,A_,_⟩,_⟩:=I.loc;rw [z,Gf] at ho;cases ho;rw [A_] at hd;cases hd
theorem Inv.nq (I:Inv X ah σ H s):s.heap.FunFrames X.base X.outer:=by
 have all:∀(l:List Env),(∀b∈Bd l,b∈X.fs)->X.s₀.heap.FunFrames X.base l->s.heap.FunFrames X.base l:=by
  intro l
  induction l with
  | nil=>intro _ _;trivial
  | cons env r ih =>
   intro hs hl;obtain⟨hk,⟨L,o,hf,hn,ho,hd⟩,hr⟩:=hl;have hL:L∈X.fs:=hs L (by unfold Bd;rw [List.filterMap_cons,hf];exact bp);obtain⟨sl,e⟩:=I.base.slot L o ho (I.ok.HQ L hL) hL λz=>I.ok.Bi L z hL;exact⟨hk,⟨L,_,hf,hn,e,hd⟩,ih (λb hb=>hs b (by unfold Bd;rw [List.filterMap_cons,hf];exact bC _ hb)) hr⟩
 exact all X.outer (λ_ hb=>hb) I.ok.nq
theorem Inv.stack (I:Inv X ah σ H s):s.heap.FunFrames X.base X.stack:=by
 rcases I.ok.Oz with e | ⟨e,hf⟩
 .rw [e];exact I.nq
 rw [e];obtain⟨m,hn,_⟩:=I.loc;refine .cons (by rw [I.ok.kind];decide) hf hn ?_ I.nq;exact Heap.get?_none_of_le (cO I.ok.E6 I.ok.above)
def Inv.xM (I:Inv X ah σ H s):∀b∈Bd X.stack,b∈X.env.locals::X.fs:=λb hb=>by
 rcases I.ok.Oz with e | ⟨e,hf⟩
 .rw [e] at hb;exact bC _ hb
 rw [e] at hb;unfold Bd at hb;rw [List.filterMap_cons,hf] at hb;exact hb
def Inv.zC (I:Inv X ah σ H s):∀b∈Bd X.stack,H b=none:=λb hb=>by
 rcases aQ.mp (I.xM b hb) with e | hb
 .rw [e];exact I.free
 obtain⟨_,o,ho,_⟩:=I.ok.nq.mem hb;exact I.base.free b o ho (I.ok.HQ b hb) λz=>I.ok.Bi b z hb
def Inv.step {g':Array GenState}{t':Nat}{d':Drawn}{ch:List Addr}(I:Inv X ah σ H s)
  (EY:∀b∈ch,(b∈X.ex\/X.s₀.heap.objs.size<=b)/\b≠X.env.locals/\(∀x c,X.env.cells.lookup x=some c->c≠b)/\∀p∈X.pn++ah,p.1≠b)
  (keep:∀b o,b≠X.env.locals->b∉X.fs->b∉ch->s.heap.get? b=some o->H b=none->h'.get? b=some o)
  (slot:∀b o,b≠X.env.locals->b∈X.fs->b∉ch->s.heap.get? b=some o->H b=none->∃sl,h'.get? b=some { o with slots:=sl })(free:∀b o,b∉ch->s.heap.get? b=some o->H b=none->H' b=none)
  (there:∀b o,b∉ch->s.heap.get? b=some o->∃o',h'.get? b=some o')
  (mJ:∀b xs,H b=some (.tup xs)->H' b=some (.tup xs))(kJ:∀b o u,H b=some (.i_ o u)->H' b=some (.i_ o u))(kT:∀b ps,H b=some (.qR ps)->∃more,H' b=some (.qR (ps++more)))
  (ns:∀m,s.heap.Ns X.env.locals m->h'.Ns X.env.locals m)(bQ:j6 X.prog X.w H' h')(hg:AllBare g') :
  Inv X ah σ H' { s with heap:=h',gens:=g',drawn:=d',toks:=t' }:=by
 have Uz:∀b o,X.s₀.heap.get? b=some o->b≠X.env.locals:=λb o e=>bM (eW (ba e) I.ok.above);have K0:∀b o,X.s₀.heap.get? b=some o->b∉X.ex->b∉ch:=λb o e hx hb=>by
  rcases (EY b hb).1 with z | z
  .exact hx z
  exact absurd (eW (ba e) z) (jl _)
 have cellK:∀x c,X.env.cells.lookup x=some c->∀v,s.heap.IsCell c v->h'.IsCell c v:=λx c e v ⟨o,ho,hd⟩=>by
  have Mu:c∉ch:=λz=>(EY c z).2.2.1 x c e rfl;by_cases hc:c∈X.fs
  .obtain⟨sl,q⟩:=slot c o (I.Ky x c e) hc Mu ho (I.jY x c e);exact⟨_,q,hd⟩
  exact⟨o,keep c o (I.Ky x c e) hc Mu ho (I.jY x c e),hd⟩
 refine⟨I.ok,I.os,hg,⟨λb o e n hb hx=>?_,λb o e n hb hx=>?_,λb o e n hx=>?_,λb o e hx=>?_,λb xs e=>mJ b xs (I.base.mJ b xs e),λb o xs e=>kJ b o xs (I.base.kJ b o xs e),λb ps e=>?_⟩,?_,λx c e=>?_,?_,λx c e=>?_,λp hp=>?_,bQ,I.len⟩
 .exact keep b o (Uz b o e) hb (K0 b o e hx) (I.base.keep b o e n hb hx) (I.base.free b o e n hx)
 .obtain⟨sl,e1⟩:=I.base.slot b o e n hb hx;obtain⟨PZ,e2⟩:=slot b _ (Uz b o e) hb (K0 b o e hx) e1 (I.base.free b o e n hx);exact⟨PZ,e2⟩
 .obtain⟨o',e1⟩:=I.base.there b o e hx;exact free b o' (K0 b o e hx) e1 (I.base.free b o e n hx)
 .obtain⟨o',e1⟩:=I.base.there b o e hx;exact there b o' (K0 b o e hx) e1
 .obtain⟨m1,e1⟩:=I.base.kT b ps e;obtain⟨m2,e2⟩:=kT b _ e1;exact⟨m1++m2,by rw [e2,Array.append_assoc]⟩
 .obtain⟨m,hn,hl⟩:=I.loc;refine⟨m,ns m hn,λi x v e1 e2 e3=>?_⟩;obtain⟨u,r,l⟩:=hl i x v e1 e2 e3;refine⟨u,r,?_⟩;rcases l with l | ⟨k,c,e,z⟩
  .exact .inl l
  exact .inr ⟨k,c,e,cellK x c e _ z⟩
 .obtain⟨v,z⟩:=I.cell x c e;exact⟨v,cellK x c e v z⟩
 .obtain⟨m,⟨o,_,_,ho,_⟩,_⟩:=I.loc;exact free _ o (λz=>(EY _ z).2.1 rfl) ho I.free
 .obtain⟨v,o,ho,hd⟩:=I.cell x c e;exact free c o (λz=>(EY c z).2.2.1 x c e rfl) ho (I.jY x c e)
 obtain⟨e,n,ne,nf,d⟩:=I.pin p hp;have Mu:p.1∉ch:=λz=>(EY p.1 z).2.2.2 p hp rfl;exact⟨keep p.1 p.2 ne nf Mu e n,free p.1 p.2 Mu e n,ne,nf,d⟩
def Inv.un {t':Nat}(I:Inv X ah σ H s)(u:Un X.fs [] H H' s.heap h')(bQ:j6 X.prog X.w H' h'):Inv X ah σ H' { s with heap:=h',toks:=t' }:=by
 obtain⟨m,⟨o,es,ep,ho,r⟩,_⟩:=id I.loc;obtain⟨sl,hL⟩:=u.any ho I.free (by simp);exact I.step (g':=s.gens) (d':=s.drawn) (ch:=[]) (λ_ z=>nomatch z) (λb o _ hb _ e n=>u.keep b o e n hb (by simp)) (λb o _ hb _ e n=>u.slot b o e n hb (by simp)) (λb o _ e n=>u.free b o e n (by simp)) (λb o _ e=>u.there b o e (by simp)) u.mJ u.kJ u.kT (λm' hm=>by
  obtain⟨o',So,Su,Gf,r'⟩:=hm;rw [ho] at Gf;cases Gf;exact⟨_,So,Su,hL,r'⟩) bQ I.bare
def Inv.call {g':Array GenState}{t':Nat}{d':Drawn}{ch:List Addr}(I:Inv X ah σ H s)(u:Un (Bd X.stack) ch H H' s.heap h')(bQ:j6 X.prog X.w H' h')(hg:AllBare g')
  (EY:∀b∈ch,(b∈X.ex\/X.s₀.heap.objs.size<=b)/\b≠X.env.locals/\(∀x c,X.env.cells.lookup x=some c->c≠b)/\∀p∈X.pn++ah,p.1≠b) :
  Inv X ah σ H' { s with heap:=h',gens:=g',drawn:=d',toks:=t' }:=by
 obtain⟨m,⟨o,es,ep,ho,r⟩,_⟩:=id I.loc;obtain⟨sl,hL⟩:=u.any ho I.free λz=>(EY _ z).2.1 rfl;exact I.step (ch:=ch) EY (λb o hL hb hc e n=>u.keep b o e n (λz=>(aQ.mp (I.xM b z)).elim hL hb) hc) (λb o _ _ hc e n=>u.any e n hc) (λb o hc e n=>u.free b o e n hc) (λb o hc e=>u.there b o e hc) u.mJ u.kJ u.kT (λm' hm=>by
  obtain⟨o',So,Su,Gf,r'⟩:=hm;rw [ho] at Gf;cases Gf;exact⟨_,So,Su,hL,r'⟩) bQ hg
def Inv.turned {t':Nat}{it:Addr}(I:Inv X ah σ H s)(k:∀b o,b≠it->s.heap.get? b=some o->h'.get? b=some o)(hn:H it=none)(hL:it≠X.env.locals)
  (h1:it∈X.ex\/X.s₀.heap.objs.size<=it)(h2:∀x c,X.env.cells.lookup x=some c->c≠it)(h3:∀p∈X.pn++ah,p.1≠it):Inv X ah σ H { s with heap:=h',toks:=t' }:=by
 have Ux:∀b u,H b=some u->b≠it:=λb u e z=>by rw [z,hn] at e;cases e
 refine I.step (g':=s.gens) (d':=s.drawn) (ch:=[it]) (λb hb=>?_) (λb o _ _ hc e _=>k b o (λz=>hc (by simp [z])) e) (λb o _ _ hc e _=>⟨o.slots,k b o (λz=>hc (by simp [z])) e⟩) (λ_ _ _ _ n=>n)
  (λb o hc e=>⟨o,k b o (λz=>hc (by simp [z])) e⟩) (λ_ _ e=>e) (λ_ _ _ e=>e) (λb ps e=>⟨#[],by rw [e];simp⟩) (λm hm=>?_) (λb u e=>?_) I.bare
 .have e:b=it:=by simpa using hb
  subst e;exact⟨h1,hL,h2,h3⟩
 .obtain⟨o,es,ep,ho,r⟩:=hm;exact⟨o,es,ep,k _ o (fk hL) ho,r⟩
 refine(I.bQ b u e).g6 (λc v hc q=>k c v ?_ q) (λ_ q=>q) λ_ _ q=>q;rcases hc with z | z
 .rw [z];exact Ux b u e
 exact Ux c _ z
def Inv.tok (I:Inv X ah σ H s) (t:Nat):Inv X ah σ H { s with toks:=t }:=I.un (h':=s.heap) (t':=t) Un.refl I.bQ
theorem Inv.kept {t':Nat}(I:Inv X ah σ H s)(k:∀b u,s.heap.get? b=some u->h'.get? b=some u):Inv X ah σ H { s with heap:=h',toks:=t' }:=I.un (Un.kept k) (I.bQ.kept k)
theorem Inv.laid {a:Addr}{o:HO}{t':Nat}(I:Inv X ah σ H s)(k:∀b u,s.heap.get? b=some u->h'.get? b=some u)(hp:s.heap.objs.size<=a)(new:bY X.prog X.w (upd H a o) h' a o) :
  Inv X ah σ (upd H a o) { s with heap:=h',toks:=t' }:=I.un (Un.laid k hp (I.bQ.fresh hp)) (I.bQ.laid k hp new)
theorem Inv.write {x e:Addr}{o:HO}{t':Nat}(I:Inv X ah σ H s)(mu:Of (H x))(he:e=x\/H e=some (.own x))(k:∀b u,b≠e->s.heap.get? b=some u->h'.get? b=some u)(K8:∃u,h'.get? e=some u)
  (new:bY X.prog X.w (upd H x o) h' x o):Inv X ah σ (upd H x o) { s with heap:=h',toks:=t' }:=I.un (Un.write mu he k K8) (I.bQ.write mu he k K8 new)
def Inv.zV {i6:List (Addr×Obj)}(I:Inv X ah σ H s)(h:∀p∈i6,s.heap.get? p.1=some p.2/\H p.1=none/\p.1≠X.env.locals/\p.1∉X.fs/\∀v,p.2.data≠.cell v):Inv X i6 σ H s :=
 ⟨I.ok,I.os,I.bare,I.base,I.loc,I.cell,I.free,I.jY,λp hp=>(bN.mp hp).elim (λz=>I.pin p (jh _ z)) (h p),I.bQ,I.len⟩
def vP {N:List Str}(hN:N.Nodup){i j:Nat}{x:Str}(a:N[i]?=some x)(b:N[j]?=some x):i=j:=by
 obtain⟨h1,e1⟩:=bA.mp a;obtain⟨h2,e2⟩:=bA.mp b;exact(o9 hN).mp (e1.trans e2.symm)
def rF {M:Model}{A:Around}{E:Value->Shared->Prop}{i:Nat}{x:Str}{v:V}{u:Value}{Q:Unit->Shared->Prop}(I:Inv X ah σ H s)(hN:X.N.Nodup)(hi:X.N[i]?=some x)(hx:Loc X.env.scope x)(r:RelV v u)
  (h:∀s',Inv X ah (σ.set i (some v)) H s'->(∃a,Heap.SameBut a s.heap s'.heap/\(a=X.env.locals\/X.env.cells.lookup x=some a))->Q () s')(hf:X.fn x=true\/X.env.scope.names.lookup x=some .local:=by first | exact .inl rfl | exact .inr rfl | assumption):wpAny M A (storeName X.env x u) Q E s:=by
 obtain⟨m,hn,hl⟩:=id I.loc;have RX:(X.env.scope.kind == .class || (X.env.scope.kind == .module && X.env.locals != X.env.globals))=false:=by rw [I.ok.kind];rfl
 have Vj:i < σ.length:=by rw [I.len];exact(bA.mp hi).1
 have Ky:=I.Ky;have tracked:∀{a:Addr}{h':Heap},(∃o,s.heap.get? a=some o/\H a=none)->Heap.SameBut a s.heap h'->j6 X.prog X.w H h':=λ{a h'} ha hs b ob e=>by
  obtain⟨_,_,lU⟩:=ha;refine(I.bQ b ob e).g6 (λc w' hc q=>(hs.2 c ?_).trans q) (λ_ q=>q) λ_ _ q=>q;rintro rfl;rcases hc with rfl | hc
  .rw [lU] at e;cases e
  rw [lU] at hc;cases hc
 rcases hx with hk | hk
 .refine wpAny_storeName_local hk hn (λh' Nj hs=>?_) RX;obtain⟨oL,_,_,Y0,_⟩:=id hn;refine h _ ⟨I.ok,I.os,I.bare,⟨λb o e n hb hx=>?_,λb o e n hb hx=>?_,I.base.free,λb o e hx=>?_,I.base.mJ,I.base.kJ,I.base.kT⟩,⟨_,Nj,λj y v' e1 e2 e3=>?_⟩,λy c e=>?_,I.free,I.jY,λp hp=>?_,tracked ⟨oL,Y0,I.free⟩ hs,by simpa using I.len⟩ ⟨_,hs,.inl rfl⟩
  .exact(hs.2 b (bM (eW (ba e) I.ok.above))).trans (I.base.keep b o e n hb hx)
  .obtain⟨sl,e1⟩:=I.base.slot b o e n hb hx;exact⟨sl,(hs.2 b (bM (eW (ba e) I.ok.above))).trans e1⟩
  .obtain⟨o',e1⟩:=I.base.there b o e hx;exact⟨o',(hs.2 b (bM (eW (ba e) I.ok.above))).trans e1⟩
  .by_cases hj:j=i
   .subst hj;rw [hi] at e1;cases e1;rw [List.getElem?_set_self Vj] at e2;cases e2;exact⟨u,r,.inl ⟨hk,by simp⟩⟩
   rw [List.getElem?_set_ne (fk hj)] at e2;obtain⟨u',r',q⟩:=hl j y v' e1 e2 e3;refine⟨u',r',?_⟩;rcases q with ⟨k,e⟩ | ⟨k,c,e,z⟩
   .refine .inl ⟨k,?_⟩;have:y≠x:=λe=>hj (vP hN e1 (e ▸ hi));simp [this,e]
   exact .inr ⟨k,c,e,z.sameBut hs (Ky y c e)⟩
  .obtain⟨w',z⟩:=I.cell y c e;exact⟨w',z.sameBut hs (Ky y c e)⟩
  obtain⟨e,n,ne,nf,d⟩:=I.pin p hp;exact⟨(hs.2 p.1 ne).trans e,n,ne,nf,d⟩
 have RN:X.fn x=true:=by
  rcases hf with z | z
  .exact z
  rw [z] at hk;cases hk
 obtain⟨c,hc⟩:=I.ok.has x (.inl hk);obtain⟨w',z⟩:=I.cell x c hc;refine wpAny_storeName_cell I.ok.kind hk hc z (λh' i9 hs=>?_);obtain⟨oc,xi,Ry⟩:=id z;refine h { s with heap:=h' } ⟨I.ok,I.os,I.bare,⟨λb o e n hb hx=>?_,λb o e n hb hx=>?_,I.base.free,λb o e hx=>?_,I.base.mJ,I.base.kJ,I.base.kT⟩,⟨m,hn.sameBut hs (fk (Ky x c hc)),λj y v' e1 e2 e3=>?_⟩,λy c' e=>?_,I.free,I.jY,λp hp=>?_,tracked ⟨oc,xi,I.jY x c hc⟩ hs,by simpa using I.len⟩ ⟨c,hs,.inr hc⟩
 .exact(hs.2 b (bM (eW (ba e) (I.ok.NU x c RN hc)))).trans (I.base.keep b o e n hb hx)
 .obtain⟨sl,e1⟩:=I.base.slot b o e n hb hx;exact⟨sl,(hs.2 b (bM (eW (ba e) (I.ok.NU x c RN hc)))).trans e1⟩
 .obtain⟨o',e1⟩:=I.base.there b o e hx;exact⟨o',(hs.2 b (bM (eW (ba e) (I.ok.NU x c RN hc)))).trans e1⟩
 .by_cases hj:j=i
  .subst hj;rw [hi] at e1;cases e1;rw [List.getElem?_set_self Vj] at e2;cases e2;exact⟨u,r,.inr ⟨.inl hk,c,hc,i9⟩⟩
  rw [List.getElem?_set_ne (fk hj)] at e2;obtain⟨u',r',q⟩:=hl j y v' e1 e2 e3;refine⟨u',r',?_⟩;rcases q with q | ⟨k,c',e,z'⟩
  .exact .inl q
  refine .inr ⟨k,c',e,z'.sameBut hs ?_⟩;rintro rfl;exact hj (vP hN e1 (I.ok.inj _ _ _ e hc ▸ hi))
 .by_cases Gk:c'=c
  .subst Gk;exact⟨_,i9⟩
  obtain⟨w2,z2⟩:=I.cell y c' e;exact⟨w2,z2.sameBut hs Gk⟩
 obtain⟨e,n,ne,nf,d⟩:=I.pin p hp;refine⟨(hs.2 p.1 ?_).trans e,n,ne,nf,d⟩;intro q;rw [q,xi] at e;have q':oc=p.2:=f_ e;exact d w' (by rw [<-q'];exact Ry)
def pH {M:Model}{A:Around}{E:Value->Shared->Prop}{i:Nat}{x:Str}{v:V}{u:Value}{Q:Unit->Shared->Prop}(I:Inv X ah σ H s)(hN:X.N.Nodup)(hi:X.N[i]?=some x)(hx:Loc X.env.scope x)(r:RelV v u)
  (h:∀s',Inv X ah (σ.set i (some v)) H s'->Q () s')(hf:X.fn x=true\/X.env.scope.names.lookup x=some .local:=by first | exact .inl rfl | exact .inr rfl | assumption):wpAny M A (storeName X.env x u) Q E s :=
 rF I hN hi hx r (λs' I' _=>h s' I') hf
def Inv.HY {s':Shared}{ch:List Addr}(I:Inv X ah σ H s)(ho:s'.os=s.os)(u:Un (Bd X.stack) ch H H' s.heap s'.heap)(bQ:j6 X.prog X.w H' s'.heap)(hg:AllBare s'.gens)
  (EY:∀b∈ch,(b∈X.ex\/X.s₀.heap.objs.size<=b)/\b≠X.env.locals/\(∀x c,X.env.cells.lookup x=some c->c≠b)/\∀p∈X.pn++ah,p.1≠b):Inv X ah σ H' s':=by
 obtain⟨h',g',d',t',o'⟩:=s';have e:o'=s.os:=ho;subst e;exact I.call (g':=g') (t':=t') (d':=d') u bQ hg EY
end
abbrev XK:=Value->Option Addr->Hp->Prop
abbrev St:=List (Option V)
abbrev bz (a:Addr):Option V:=some (.ref a)
abbrev VK:=V->Hp->Prop
abbrev TE:=St->Hp->VK->Prop
abbrev TT:=St->Hp->(Bool->Hp->Prop)->Prop
abbrev TA:=St->Hp->(List V->Hp->Prop)->Prop
structure Ends where
 nx:St->Hp->Prop
 rt:VK
 bk:St->Hp->Prop:=λ_ _=>False
 ct:St->Hp->Prop:=λ_ _=>False
abbrev TS:=Ends->St->Hp->Prop
def EP (X:Cx)(ah:List (Addr×Obj))(σ:St)(Q:VK)(u:Value)(s':Shared):Prop:=∃v H',Inv X ah σ H' s'/\RelV v u/\Q v H'
def TP (X:Cx)(ah:List (Addr×Obj))(σ:St)(Q:Bool->Hp->Prop)(b:Bool)(s':Shared):Prop:=∃H',Inv X ah σ H' s'/\Q b H'
def AP (X:Cx)(ah:List (Addr×Obj))(σ:St)(Q:List V->Hp->Prop)(us:List Value)(s':Shared):Prop:=∃vs H',Inv X ah σ H' s'/\aT vs us/\Q vs H'
def SP (X:Cx)(ah:List (Addr×Obj))(D:Ends)(f:Flow)(s':Shared):Prop :=
 match f with
 | .next=>∃σ' H',Inv X ah σ' H' s'/\D.nx σ' H'
 | .brk=>∃σ' H',Inv X ah σ' H' s'/\D.bk σ' H'
 | .cont=>∃σ' H',Inv X ah σ' H' s'/\D.ct σ' H'
 | .ret u=>∃v σ' H',Inv X ah σ' H' s'/\RelV v u/\D.rt v H'
def PE (X:Cx)(e:Expr)(t:TE):Prop :=
 ∀(ah:List (Addr×Obj))(s:Shared)(σ:St)(H:Hp)(Q:VK),Inv X ah σ H s->t σ H Q->wpAny (model X.prog X.w) X.A (eval e X.env) (EP X ah σ Q) X.xe s
def PT (X:Cx)(e:Expr)(t:TT):Prop :=
 ∀(ah:List (Addr×Obj))(s:Shared)(σ:St)(H:Hp)(Q:Bool->Hp->Prop),Inv X ah σ H s->t σ H Q->wpAny (model X.prog X.w) X.A (isTrue e X.env (eval e X.env)) (TP X ah σ Q) X.xe s
def PW (X:Cx)(e:Expr)(t:TT):Prop :=
 ∀(whole:Sem Value)(ah:List (Addr×Obj))(s:Shared)(σ:St)(H:Hp)(Q:Bool->Hp->Prop),Inv X ah σ H s->t σ H Q->wpAny (model X.prog X.w) X.A (isTrue e X.env whole) (TP X ah σ Q) X.xe s
def PW.pt {X:Cx}{e:Expr}{t:TT}(h:PW X e t):PT X e t:=h _
def PA (X:Cx)(es:List Expr)(t:TA):Prop :=
 ∀(pos:Pos)(ah:List (Addr×Obj))(s:Shared)(σ:St)(H:Hp)(Q:List V->Hp->Prop),Inv X ah σ H s->t σ H Q->wpAny (model X.prog X.w) X.A (spliced (backTo pos (starEach es X.env))) (AP X ah σ Q) X.xe s
def PS (X:Cx)(st:Stmt)(t:TS):Prop :=
 ∀(ah:List (Addr×Obj))(s:Shared)(σ:St)(H:Hp)(D:Ends),Inv X ah σ H s->t D σ H->wpAny (model X.prog X.w) X.A (exec st X.env) (SP X ah D) X.xe s
def zg (X:Cx)(st:List Stmt)(t:TS):Prop :=
 ∀(ah:List (Addr×Obj))(s:Shared)(σ:St)(H:Hp)(D:Ends),Inv X ah σ H s->t D σ H->wpAny (model X.prog X.w) X.A (execs st X.env) (SP X ah D) X.xe s
def cD {α:Type}{t:Sem α}{Q Q':α->Shared->Prop}{M:Model}{A:Around}{E:Value->Shared->Prop}{s:Shared}(h:wpAny M A t Q E s)(hQ:∀a s,Q a s->Q' a s):wpAny M A t Q' E s:=cJ h hQ λ_ _ x=>x
section
variable {X:Cx}
def bin {a b:Expr}{ta tb:TE}(ha:PE X a ta)(hb:PE X b tb){ah:List (Addr×Obj)}{s:Shared}{σ:St}{H:Hp}{R:V->V->Hp->Prop}(I:Inv X ah σ H s)(h:ta σ H λx H1=>tb σ H1 λy H2=>R x y H2)
  {α:Type}{Q:α->Shared->Prop}{f:Value->Value->Sem α}
  (hf:∀v u s2 x y H2,Inv X ah σ H2 s2->RelV x v->RelV y u->R x y H2->wpAny (model X.prog X.w) X.A (f v u) Q X.xe s2) :
  wpAny (model X.prog X.w) X.A (eval a X.env) (λv s₁=>wpAny (model X.prog X.w) X.A (eval b X.env) (λu s₂=>wpAny (model X.prog X.w) X.A (f v u) Q X.xe s₂) X.xe s₁) X.xe s:=by
 refine cD (ha ah s σ H _ I h) λv s1 a8=>?_;obtain⟨x,H1,I1,r1,q1⟩:=a8;refine cD (hb ah s1 σ H1 _ I1 q1) λu s2 a8=>?_;obtain⟨y,H2,I2,r2,q2⟩:=a8;exact hf v u s2 x y H2 I2 r1 r2 q2
inductive N7 (o:Option (Option V))(R:V->Prop):Prop
|mk(v:V)(e:o=some (some v))(q:R v)
inductive XB (x:V)(R:Bool->Prop):Prop
|mk(c:Bool)(e:x=.bl c)(q:R c)
inductive Tq (x:V)(R:Int->Prop):Prop
|mk(i:Int)(e:x=.int i)(q:R i)
inductive Wm (x y:V)(R:Int->Int->Prop):Prop
|mk(i j:Int)(e:x=.int i)(e2:y=.int j)(q:R i j)
inductive Wl (x y:V)(C:Int->Int->Prop)(R:Int->Int->Prop):Prop
|mk(i j:Int)(e:x=.int i)(e2:y=.int j)(c:C i j)(q:R i j)
inductive Ic (vs:List V)(R:V->List V->Prop):Prop
|mk(v:V)(r:List V)(e:vs=v::r)(q:R v r)
inductive N8 (v:V)(S:Addr->List V->Prop) (n:Nat)(R:List V->Prop):Prop
|mk(a:Addr)(xs:List V)(e:v=.ref a)(s:S a xs)(l:xs.length=n)(q:R xs)
inductive Pd (x:V)(S:Addr->Prop)(R:Addr->Prop):Prop
|mk(a:Addr)(e:x=.ref a)(s:S a)(q:R a)
inductive Wh (x:V)(S:Addr->List V->Prop)(R:List V->Prop):Prop
|mk(a:Addr)(xs:List V)(e:x=.ref a)(s:S a xs)(q:R xs)
inductive Wr (S:Addr->List V->Prop)(x y:V)(R:List V->List V->Prop):Prop
|mk(a b:Addr)(xs ys:List V)(e:x=.ref a)(e2:y=.ref b)(s:S a xs)(s2:S b ys)(z:xs.length+ys.length<=sizeLine)(q:R xs ys)
inductive Wj (vs:List V)(R:Int->Prop):Prop
|mk(j:Int)(e:vs=[.int j])(l:-(2 ^ 62)<=j)(u:j < 2 ^ 62)(q:R j)
inductive Pe (vs:List V)(S:Addr->List V->Prop)(R:Addr->Prop):Prop
|mk(a:Addr)(xs:List V)(e:vs=[.ref a])(s:S a xs)(q:R a)
inductive KD (xs:List V)(S:Addr->List V->Prop)(R:List V->Prop):Prop
|mk(p:Addr)(ys:List V)(e:xs=[.ref p])(s:S p ys)(q:R ys)
def fR (i:Nat):TE:=λσ H Q=>N7 σ[i]? λv=>Q v H
def tC (v:V):TE:=λ_ H Q=>Q v H
def Ja {i:Nat}{x:Str}{pos:Pos}(hN:X.N[i]?=some x)(hv:Pf X.env.scope x)(hd:(x == ("__debug__":Str))=false:=by decide)(uP:(x == ("__classdict__":Str))=false:=by decide):PE X (.Name x pos) (fR i):=by
 intro ah s σ H Q I h;obtain⟨v,e,h⟩:=h;obtain⟨m,hn,hl⟩:=I.loc;obtain⟨u,r,l⟩:=hl i x v hN e hv;have fin:EP X ah σ Q u s:=⟨v,H,I,r,h⟩;rcases l with ⟨hk,hm⟩ | ⟨hk,c,hc,iD⟩
 .exact wpAny_Name (sU I.ok.kind hk hn hm fin) hd
 rcases hk with hk | hk
 .exact wpAny_Name (wpAny_loadName_cell I.ok.kind hk hc iD fin) hd
 exact wpAny_Name (wpAny_loadName_free I.ok.kind hk hc iD fin uP) hd
def ar {i j pos}:PE X (.Constant (.int i) j pos) (tC (.int i)):=λ_ _ _ H _ I h=>wpAny_Constant_int ⟨.int i,H,I.tok _,⟨_,rfl⟩,h⟩
def fO {b j pos}:PE X (.Constant (.bool b) j pos) (tC (.bl b)):=λ_ _ _ H _ I h=>Constant_bool ⟨.bl b,H,I,rfl,h⟩
def cm {x j pos}:PE X (.Constant (.str x) j pos) (tC (.str x)):=λ_ _ _ H _ I h=>Calls.Constant_str ⟨.str x,H,I.tok _,⟨_,rfl⟩,h⟩
def Gl (X:Cx)(x:Str):Prop:=X.env.kindOf x=some .globalImplicit
def uI {E:Value->Shared->Prop}{ah:List (Addr×Obj)}{s:Shared}{σ:St}{H:Hp}{x:Str}{u:Value}{pos:Pos}{Q:Value->Shared->Prop}(I:Inv X ah σ H s)(hg:Gl X x)(hm:X.mg x=some u)(h:Q u s)
  (hd:(x == ("__debug__":Str))=false:=by decide):wpAny (model X.prog X.w) X.A (eval (.Name x pos) X.env) Q E s :=
 Calls.Name_function_global I.ok.kind hg (Calls.loadGlobal_global (by rw [I.ok.glob];exact I.mod.glob.keeps I.bk) hm h) hd
def ig {E:Value->Shared->Prop}{ah:List (Addr×Obj)}{s:Shared}{σ:St}{H:Hp}{x:Str}{u:Value}{pos:Pos}{Q:Value->Shared->Prop}(I:Inv X ah σ H s)(hg:Gl X x)(hm:X.mg x=none)(hv:bootBuiltins x=some u)(h:Q u s)
  (hn:x ≠ "__name__" := by decide)(hd:(x == ("__debug__":Str))=false:=by decide):wpAny (model X.prog X.w) X.A (eval (.Name x pos) X.env) Q E s:=by
 obtain⟨mb,h1,h2⟩:=I.mod.blt;exact Calls.Name_function_global I.ok.kind hg (Calls.loadGlobal_builtin (by rw [I.ok.glob];exact I.mod.glob.keeps I.bk) hm (by rw [I.ok.blt];exact h1.keeps I.bk) ((h2 x hn).trans hv) h) hd
def lH {x:Str}{v:V}{u:Value}{pos:Pos}(hg:Gl X x)(hm:X.mg x=some u)(r:RelV v u)(hd:(x == ("__debug__":Str))=false:=by decide):PE X (.Name x pos) (tC v) :=
 λ_ _ _ H _ I h=>uI I hg hm ⟨v,H,I,r,h⟩ hd
def FT {x:Str}{v:V}{u:Value}{pos:Pos}(hg:Gl X x)(hm:X.mg x=none)(hv:bootBuiltins x=some u)(r:RelV v u)(hn:x ≠ "__name__" := by decide)(hd:(x == ("__debug__":Str))=false:=by decide):PE X (.Name x pos) (tC v) :=
 λ_ _ _ H _ I h=>ig I hg hm hv ⟨v,H,I,r,h⟩ hn hd
variable {a b:Expr}{ta tb:TE}{pos:Pos}
def PC (X:Cx)(op:CmpOp)(a b:Expr)(t:TE):Prop :=
 ∀(ah:List (Addr×Obj))(s:Shared)(σ:St)(H:Hp)(Q:VK),Inv X ah σ H s->t σ H Q ->
  wpAny (model X.prog X.w) X.A (eval a X.env) (λv s₁=>wpAny (model X.prog X.w) X.A (eval b X.env) (λu s₂=>wpAny (model X.prog X.w) X.A (compareOp op v u) (EP X ah σ Q) X.xe s₂) X.xe s₁) X.xe s
def vQ (b:Expr){op:CmpOp}(h:op≠.In)(h2:op≠.NotIn):behindInMarks op b=false:=by
 have e1:(op == CmpOp.In)=false:=by cases op <;> first | rfl | exact absurd rfl h
 have e2:(op == CmpOp.NotIn)=false:=by cases op <;> first | rfl | exact absurd rfl h2
 cases b <;> simp [behindInMarks,e1,e2]
def PM (ta:TE):TE:=λσ H Q=>ta σ H λx H1=>Q (.bl (decide (x=.eJ))) H1
def RelV.Ds {x:V}{v:Value}(r:RelV x v):(v == Value.none)=decide (x=.eJ):=by
 cases x with
 | eJ=>cases r;rfl
 | bl _=>cases r;rfl
 | int _=>obtain⟨t,rfl⟩:=r;rfl
 | str _=>obtain⟨t,rfl⟩:=r;rfl
 | Bu _=>obtain⟨t,rfl⟩:=r;rfl
 | Kg _=>obtain⟨t,rfl⟩:=r;rfl
 | ref _=>cases r;rfl
 | ty _=>cases r;rfl
def Jd {j pos'}(ha:PE X a ta):PC X .Is a (.Constant .none j pos') (PM ta):=by
 intro ah s σ H Q I h;refine cD (ha ah s σ H _ I h) λv s1 a8=>?_;obtain⟨x,H1,I1,r1,q1⟩:=a8;exact Constant_none (is_none_gen ⟨.bl _,H1,I1,by rw [r1.Ds];rfl,q1⟩)
def tB (t:TE):TT:=λσ H Q=>t σ H λx H1=>XB x λc=>Q c H1
def C5 {op:CmpOp}{t:TE}(h:PC X op a b t)(h1:behindInMarks op b=false:=by first | exact vQ _ nofun nofun | rfl):PE X (.Compare a [op] [b] pos) t:=λah s σ H Q I hw=>wpAny_Compare1 (h ah s σ H Q I hw) h1
def d7 {op:CmpOp}{t:TE}(h:PC X op a b t)(h1:behindInMarks op b=false:=by first | exact vQ _ nofun nofun | rfl):PT X (.Compare a [op] [b] pos) (tB t):=by
 intro ah s σ H Q I hw;refine wpAny_isTrue_Compare1 (cD (h ah s σ H _ I hw) λv s1 h1=>cD h1 λu s2 h2=>cD h2 λc s3 a8=>?_) h1;obtain⟨x,H1,I1,r1,q1⟩:=a8;obtain⟨d,rfl,q⟩:=q1;cases r1;exact oR ⟨H1,I1,q⟩
def iR {e:Expr}{t:TE}(h:PE X e t)(he:∀whole,isTrue e X.env whole=(do let v <-whole;standAt e.pos;holding [v] (truthy v)):=by intro _;rfl):PT X e (tB t):=by
 intro ah s σ H Q I hw;refine isTrue_plain (cD (h ah s σ H _ I hw) λv s1 a8=>?_) (he _);obtain⟨x,H1,I1,r1,q1⟩:=a8;obtain⟨d,rfl,q⟩:=q1;cases r1;exact oR ⟨H1,I1,q⟩
variable {tA Ow:TT}{rest:List Expr}
def PV (t u:TT):TT:=λσ H Q=>t σ H λc H1=>if c=true then u σ H1 Q else Q false H1
def WG (t u:TT):TT:=λσ H Q=>t σ H λc H1=>if c=true then Q true H1 else u σ H1 Q
def PJ (t:TT):TT:=λσ H Q=>t σ H λc H1=>Q (!c) H1
def jK (ha:PT X a tA):PW X (.BoolOp .And [a] pos) tA:=by
 intro wh ah s σ H Q I h;refine isTrue_and (cD (ha ah s σ H Q I h) λc s1 e=>?_);cases c with
 | true=>exact isTrue_and_nil e
 | false=>exact e
def I_ (ha:PT X a tA):PW X (.BoolOp .Or [a] pos) tA:=by
 intro wh ah s σ H Q I h;refine isTrue_or (cD (ha ah s σ H Q I h) λc s1 e=>?_);cases c with
 | false=>exact isTrue_or_nil e
 | true=>exact e
def iQ (ha:PT X a tA)(hb:PW X (.BoolOp .And (b::rest) pos) Ow):PW X (.BoolOp .And (a::b::rest) pos) (PV tA Ow):=by
 intro wh ah s σ H Q I h;refine isTrue_and (cD (ha ah s σ H _ I h) λc s1 a8=>?_);obtain⟨H1,I1,q1⟩:=a8;cases c with
 | true=>exact hb wh ah s1 σ H1 Q I1 q1
 | false=>exact⟨H1,I1,q1⟩
def Mf (ha:PT X a tA)(hb:PW X (.BoolOp .Or (b::rest) pos) Ow):PW X (.BoolOp .Or (a::b::rest) pos) (WG tA Ow):=by
 intro wh ah s σ H Q I h;refine isTrue_or (cD (ha ah s σ H _ I h) λc s1 a8=>?_);obtain⟨H1,I1,q1⟩:=a8;cases c with
 | true=>exact⟨H1,I1,q1⟩
 | false=>exact hb wh ah s1 σ H1 Q I1 q1
def yh (ha:PT X a tA):PT X (.UnaryOp .Not a pos) (PJ tA):=by
 intro ah s σ H Q I h;exact isTrue_not (ha ah s σ H (λc H1=>Q (!c) H1) I h)
def LQ (ta tb:TE):TE:=λσ H Q=>ta σ H λx H1=>XB x λc=>if c=true then tb σ H1 Q else Q (.bl false) H1
def LD (ta:TE):TE:=λσ H Q=>ta σ H λx H1=>XB x λc=>Q (.bl (!c)) H1
def pV {op}{t:TE}(h:PE X a t):PE X (.BoolOp op [a] pos) t:=λah s σ H Q I hw=>BoolOp_one (h ah s σ H Q I hw)
def ki (ha:PE X a ta)(hb:PE X (.BoolOp .And (b::rest) pos) tb):PE X (.BoolOp .And (a::b::rest) pos) (LQ ta tb):=by
 intro ah s σ H Q I h;refine BoolOp_and (cD (ha ah s σ H _ I h) λv s1 a8=>?_);obtain⟨x,H1,I1,r1,q1⟩:=a8;obtain⟨c,rfl,q1⟩:=q1;cases r1;refine oR ?_;cases c with
 | true=>exact hb ah s1 σ H1 Q I1 q1
 | false=>exact⟨.bl false,H1,I1,rfl,q1⟩
def Jb (ha:PE X a ta):PE X (.UnaryOp .Not a pos) (LD ta):=by
 intro ah s σ H Q I h;refine UnaryOp_ (cD (ha ah s σ H _ I h) λv s1 a8=>?_);obtain⟨x,H1,I1,r1,q1⟩:=a8;obtain⟨c,rfl,q1⟩:=q1;cases r1;exact not_of (oR ⟨.bl (!c),H1,I1,rfl,q1⟩)
def WH (t:TT)(ta tb:TE):TE:=λσ H Q=>t σ H λc H1=>if c=true then ta σ H1 Q else tb σ H1 Q
def vI {c:Expr}(hc:PT X c tA)(ha:PE X a ta)(hb:PE X b tb):PE X (.IfExp c a b pos) (WH tA ta tb):=by
 intro ah s σ H Q I h;refine wpAny_IfExp (cD (hc ah s σ H _ I h) λd s1 a8=>?_);obtain⟨H1,I1,q1⟩:=a8;cases d with
 | true=>exact ha ah s1 σ H1 Q I1 q1
 | false=>exact hb ah s1 σ H1 Q I1 q1
end
def aH (K:aV)(H:Hp)(a:Addr)(xs:List V):Prop :=
 Rd H a (.lst xs) \/
  ∃(o:Obj)(aL:Array Value) (n:Nat),K.lookup a=some o/\o.cls=.type "list" /\ o.dict=none/\o.data=.seq aL n/\aL.size<=sizeLine/\aT xs aL.toList
def aW (K:aV)(H:Hp)(a:Addr)(xs:List V):Prop :=
 Rd H a (.tup xs) \/
  ∃(o:Obj)(aL:Array Value) (n:Nat),K.lookup a=some o/\o.cls=.type "tuple" /\ o.data=.seq aL n/\aL.size<=sizeLine/\aT xs aL.toList
def Tn:Value->Option V
 | .none=>some .eJ
 | .bool b=>some (.bl b)
 | .int i _=>some (.int i)
 | .str x _=>some (.str x)
 | .bytes b _=>some (.Bu b)
 | .float b _=>some (.Kg b)
 | .ref a=>some (.ref a)
 | .type n=>some (.ty n)
 | _=>none
def RelV.abs {x:V}{u:Value}(r:RelV x u):Tn u=some x:=by
 cases x with
 | eJ=>cases r;rfl
 | bl _=>cases r;rfl
 | int _=>obtain⟨t,rfl⟩:=r;rfl
 | str _=>obtain⟨t,rfl⟩:=r;rfl
 | Bu _=>obtain⟨t,rfl⟩:=r;rfl
 | Kg _=>obtain⟨t,rfl⟩:=r;rfl
 | ref _=>cases r;rfl
 | ty _=>cases r;rfl
def RelV.inj {x y:V}{u:Value}(r:RelV x u)(q:RelV y u):x=y:=f_ (r.abs.symm.trans q.abs)
theorem aT.inj:∀{xs ys:List V}{us:List Value},aT xs us->aT ys us->xs=ys
 | _,_,_,.nil,.nil=>rfl
 | _,_,_,.cons r t,.cons r' t'=>by rw [r.inj r',aT.inj t t']
section
variable {X:Cx}{ah:List (Addr×Obj)}{σ:St}{H:Hp}{s:Shared}{a:Addr}{xs ys:List V}
def aH.of {K:aV}(h:H a=some (.lst xs)):aH K H a xs:=.inl (.inl h)
def aW.of {K:aV}(h:H a=some (.tup xs)):aW K H a xs:=.inl (.inl h)
def Inv.list (I:Inv X ah σ H s)(h:aH X.K H a xs):∃aL:List Value,aT xs aL/\PlainL s.heap a aL.toArray/\xs.length<=sizeLine:=by
 rcases h with h | ⟨o,aL,n,hk,hc,hd,hs,hz,r⟩
 .obtain⟨z,aL,n,r,e⟩:=h.ok I.bQ;exact⟨aL,r,⟨_,n,e,rfl,rfl,rfl⟩,z⟩
 refine⟨aL.toList,r,⟨o,n,I.xb a o hk,hc,hd,by simpa using hs⟩,?_⟩;have e:=r.length;simp only [kR] at e;omega
def Inv.tuple (I:Inv X ah σ H s)(h:aW X.K H a xs):∃aL:List Value,aT xs aL/\IsTup s.heap a aL.toArray/\xs.length<=sizeLine:=by
 rcases h with h | ⟨o,aL,n,hk,hc,hs,hz,r⟩
 .obtain⟨z,aL,r,p⟩:=h.ok I.bQ;exact⟨aL,r,p,z⟩
 refine⟨aL.toList,r,⟨o,I.xb a o hk,hc,n,by simpa using hs⟩,?_⟩;have e:=r.length;simp only [kR] at e;omega
def Inv.lM (I:Inv X ah σ H s)(h:aH X.K H a xs)(h':aH X.K H a ys):xs=ys:=by
 obtain⟨aL,r,⟨o,n,e,_,_,d⟩,_⟩:=I.list h;obtain⟨lR,r',⟨o',n',e',_,_,d'⟩,_⟩:=I.list h';rw [e] at e';cases e';rw [d] at d';injection d' with d1 _;have:aL=lR:=by simpa using congrArg Array.toList d1
 subst this;exact r.inj r'
def Inv.rC (I:Inv X ah σ H s)(h:aW X.K H a xs)(h':aW X.K H a ys):xs=ys:=by
 obtain⟨aL,r,⟨o,e,_,n,d⟩,_⟩:=I.tuple h;obtain⟨lR,r',⟨o',e',_,n',d'⟩,_⟩:=I.tuple h';rw [e] at e';cases e';rw [d] at d';injection d' with d1 _;have:aL=lR:=by simpa using congrArg Array.toList d1
 subst this;exact r.inj r'
end
abbrev Cx.oo (X:Cx)(E:Value->Shared->Prop):Cx:={ X with xe:=E }
abbrev Cx.AS (X:Cx):Cx:=X.oo λ_ _=>False
theorem Cx.Ok.oo {X:Cx}(ok:X.Ok)(E:Value->Shared->Prop):(X.oo E).Ok :=
 ⟨ok.mod,ok.kind,ok.glob,ok.blt,ok.above,ok.inj,ok.has,ok.NU,ok.hd,ok.frames,ok.Oz,ok.Lg,ok.bs,ok.E6,ok.Dt,ok.Bi,ok.nq,ok.HQ⟩
def Cx.Ok.ib {X:Cx}{E:Value->Shared->Prop}(ok:(X.oo E).Ok):X.Ok :=
 ⟨ok.mod,ok.kind,ok.glob,ok.blt,ok.above,ok.inj,ok.has,ok.NU,ok.hd,ok.frames,ok.Oz,ok.Lg,ok.bs,ok.E6,ok.Dt,ok.Bi,ok.nq,ok.HQ⟩
section
variable {X:Cx}{ah:List (Addr×Obj)}{σ:St}{H:Hp}{s:Shared}{E:Value->Shared->Prop}
theorem Inv.oo (I:Inv X ah σ H s)(E:Value->Shared->Prop):Inv (X.oo E) ah σ H s:=⟨I.ok.oo E,I.os,I.bare,I.base,I.loc,I.cell,I.free,I.jY,I.pin,I.bQ,I.len⟩
theorem Inv.ib (I:Inv (X.oo E) ah σ H s):Inv X ah σ H s:=⟨I.ok.ib,I.os,I.bare,I.base,I.loc,I.cell,I.free,I.jY,I.pin,I.bQ,I.len⟩
theorem SP.ib {D:Ends}{f:Flow}{s':Shared}(h:SP (X.oo E) ah D f s'):SP X ah D f s':=by
 cases f with
 | next=>obtain⟨σ',H',I,q⟩:=h;exact⟨σ',H',I.ib,q⟩
 | brk=>obtain⟨σ',H',I,q⟩:=h;exact⟨σ',H',I.ib,q⟩
 | cont=>obtain⟨σ',H',I,q⟩:=h;exact⟨σ',H',I.ib,q⟩
 | ret u=>obtain⟨v,σ',H',I,r,q⟩:=h;exact⟨v,σ',H',I.ib,r,q⟩
theorem PE.AS {e:Expr}{t:TE}(h:PE X.AS e t):PE X e t:=λah s σ H Q I hw =>
 cJ (h ah s σ H Q (I.oo _) hw) (λ_ _ ⟨v,H',I',r,q⟩=>⟨v,H',I'.ib,r,q⟩) λ_ _ z=>False.elim z
theorem PT.AS {e:Expr}{t:TT}(h:PT X.AS e t):PT X e t:=λah s σ H Q I hw =>
 cJ (h ah s σ H Q (I.oo _) hw) (λ_ _ ⟨H',I',q⟩=>⟨H',I'.ib,q⟩) λ_ _ z=>False.elim z
theorem zg.AS {st:List Stmt}{t:TS}(h:zg X.AS st t):zg X st t:=λah s σ H D I hw =>
 cJ (h ah s σ H D (I.oo _) hw) (λ_ _ q=>q.ib) λ_ _ z=>False.elim z
end
section
variable {X:Cx}{st:Stmt}{rest:List Stmt}{t u:TS}{e:Expr}{te:TE}{pos:Pos}
def LF:TS:=λD σ H=>D.nx σ H
def Iz (t u:TS):TS:=λD σ H=>t { D with nx:=u D } σ H
def bB:zg X [] LF:=λ_ _ σ H _ I h=>wpAny_execs_nil ⟨σ,H,I,h⟩
def ak (h1:PS X st t)(h2:zg X rest u):zg X (st::rest) (Iz t u):=by
 intro ah s σ H D I h;refine wpAny_execs_cons (cD (h1 ah s σ H { D with nx:=u D } I h) λf s1 q=>?_);cases f with
 | next =>
  obtain⟨σ',H',I',q⟩:=q;exact h2 ah s1 σ' H' D I' q
 | ret v=>exact q
 | brk=>exact q
 | cont=>exact q
def aq (h1:PS X st t):zg X [st] t:=by
 intro ah s σ H D I h;refine wpAny_execs_cons (cD (h1 ah s σ H D I h) λf s1 q=>?_);cases f with
 | next=>exact wpAny_execs_nil q
 | ret v=>exact q
 | brk=>exact q
 | cont=>exact q
def ID:TS:=λD σ H=>D.bk σ H
def CO:PS X (.Break pos) ID:=λ_ _ σ H _ I h=>wpAny_Break ⟨σ,H,I,h⟩
def Inv.quiet {ah:List (Addr×Obj)}{σ:St}{H:Hp}{s:Shared}(I:Inv X ah σ H s):interactive X.env=false:=by simp [interactive,I.ok.kind]
def LL (te:TE):TS:=λD σ H=>te σ H λ_ H1=>D.nx σ H1
def cC (he:PE X e te)(hs:swapsWith e none pos.line X.env=pure false:=by rfl):PS X (.Expr e pos) (LL te):=by
 intro ah s σ H D I h;refine wpAny_Expr_any (cD (he ah s σ H _ I h) λv s1 a8=>?_) I.quiet hs;obtain⟨x,H1,I1,r1,q1⟩:=a8;exact⟨σ,H1,I1,q1⟩
def PH (te:TE):TS:=λD σ H=>te σ H D.rt
def a_ (he:PE X e te):PS X (.Return (some e) pos) (PH te):=by
 intro ah s σ H D I h;refine wpAny_Return_some (cD (he ah s σ H _ I h) λv s1 a8=>?_);obtain⟨x,H1,I1,r1,q1⟩:=a8;exact⟨x,σ,H1,I1,r1,q1⟩
def PN (c:TT)(t u:TS):TS:=λD σ H=>c σ H λb H1=>if b=true then t D σ H1 else u D σ H1
def cW {c:Expr}{a b:List Stmt}{tc:TT}(hc:PT X c tc)(ha:zg X a t)(hb:zg X b u):PS X (.If c a b pos) (PN tc t u):=by
 intro ah s σ H D I h;refine wpAny_If (cD (hc ah s σ H _ I h) λd s1 a8=>?_);obtain⟨H1,I1,q1⟩:=a8;cases d with
 | true=>exact ha ah s1 σ H1 D I1 q1
 | false=>exact hb ah s1 σ H1 D I1 q1
def IA:TS:=λ_ _ _=>False
def gq:PS X st IA:=λ_ _ _ _ _ _ h=>h.elim
end
abbrev TG:=V->St->Hp->(St->Hp->Prop)->Prop
abbrev Ie:=List V->St->Hp->(St->Hp->Prop)->Prop
def PG (X:Cx)(target:Expr)(t:TG):Prop :=
 ∀(ah:List (Addr×Obj))(s:Shared)(σ:St)(H:Hp)(v:V)(u:Value)(Q:St->Hp->Prop),Inv X ah σ H s->RelV v u->t v σ H Q ->
  wpAny (model X.prog X.w) X.A (assign target X.env u) (λ_ s'=>∃σ' H',Inv X ah σ' H' s'/\Q σ' H') X.xe s
def Oc (X:Cx)(ts:List Expr)(t:Ie):Prop :=
 ∀(ah:List (Addr×Obj))(s:Shared)(σ:St)(H:Hp)(vs:List V)(us:List Value)(Q:St->Hp->Prop),Inv X ah σ H s->aT vs us->t vs σ H Q ->
  wpAny (model X.prog X.w) X.A (assignInOrder ((assignEach ts X.env).map (·.2)) us) (λ_ s'=>∃σ' H',Inv X ah σ' H' s'/\Q σ' H') X.xe s
abbrev KG:=V->V->V->Hp->(Hp->Prop)->Prop
def Ob (X:Cx)(t:KG):Prop :=
 ∀(ah:List (Addr×Obj))(s:Shared)(σ:St)(H:Hp)(o i v:V)(ov iv u:Value)(Q:Hp->Prop),Inv X ah σ H s->RelV o ov->RelV i iv->RelV v u->t o i v H Q ->
  wpAny (model X.prog X.w) X.A (setItem ov iv u) (λ_ s'=>∃H',Inv X ah σ H' s'/\Q H') X.xe s
abbrev Pg:=V->V->Hp->VK->Prop
def Wu (X:Cx)(op:Operator)(t:Pg):Prop :=
 ∀(ah:List (Addr×Obj))(s:Shared)(σ:St)(H:Hp)(x y:V)(v u:Value)(Q:VK),Inv X ah σ H s->RelV x v->RelV y u->t x y H Q ->
  wpAny (model X.prog X.w) X.A (inplaceOp op v u) (EP X ah σ Q) X.xe s
section
variable {X:Cx}{pos:Pos}
def dM (i:Nat):TG:=λv σ H Q=>Q (σ.set i (some v)) H
def ay {i:Nat}{x:Str}(hN:X.N.Nodup)(hi:X.N[i]?=some x)(hx:Loc X.env.scope x)(hf:X.fn x=true\/X.env.scope.names.lookup x=some .local:=by first | exact .inl rfl | exact .inr rfl | assumption):PG X (.Name x pos) (dM i):=by
 intro ah s σ H v u Q I r h;exact wpAny_assign_Name (pH I hN hi hx r (λs' I'=>⟨_,H,I',h⟩) hf)
def DY:Ie:=λvs σ H Q=>vs=[]/\Q σ H
def jA (t:TG)(u:Ie):Ie:=λvs σ H Q=>Ic vs λv r=>t v σ H λσ' H'=>u r σ' H' Q
def cb:Oc X [] DY:=by
 intro ah s σ H vs us Q I r h;obtain⟨e,h⟩:=h;subst e;cases r;exact assignInOrder_nil ⟨σ,H,I,h⟩
def aD {e:Expr}{es:List Expr}{t:TG}{u:Ie}(h1:PG X e t)(h2:Oc X es u)
  (hs:(assignEach (e::es) X.env).map (·.2)=assign e X.env::(assignEach es X.env).map (·.2):=by rfl):Oc X (e::es) (jA t u):=by
 intro ah s σ H vs us Q I r h;obtain⟨v,vr,e1,h⟩:=h;subst e1;cases r with
 | cons r rr =>
  rw [hs];refine assignInOrder_cons (cD (h1 ah s σ H _ _ _ I r h) λ_ s1 a8=>?_);obtain⟨σ1,H1,I1,q1⟩:=a8;exact h2 ah s1 σ1 H1 _ _ Q I1 rr q1
def Bc (K:aV) (n:Nat)(t:Ie):TG:=λv σ H Q=>N8 v (aW K H) n λxs=>t xs σ H Q
def d8 {es:List Expr}{k:Nat}{t:Ie}{n:Nat}(hc:X.calm=true)(h:Oc X es t)
  (hn:(assignEach es X.env).length=n:=by rfl)(u_:(assignEach es X.env).findIdx? (·.1)=none:=by rfl):PG X (.Tuple es k pos) (Bc X.K n t):=by
 intro ah s σ H v u Q I r hw;obtain⟨a,xs,e1,hq,hl,hw⟩:=hw;subst e1;cases r;obtain⟨aL,rv,ht,hz⟩:=I.tuple hq;refine assign_Tuple_tuple (I.ok.hd hc) ht (by simp [hn,<-hl,rv.length]) u_ λh' hx=>?_;have I1:Inv X ah σ H { s with heap:=h' }:=I.kept (t':=s.toks) λb o e=>hx b o (bM (ba e)) e;exact h ah _ σ H xs _ Q I1 (by simpa using rv) hw
def Sg (to ti:TE)(t:KG):TG:=λv σ H Q=>to σ H λo H1=>ti σ H1 λi H2=>t o i v H2 λH3=>Q σ H3
def CZ {o i:Expr}{to ti:TE}{t:KG}(ho:PE X o to)(hi:PE X i ti)(hs:Ob X t)
  (ha:∀v,assign (.Subscript o i pos) X.env v=(do
   let ov <-holding [v] (eval o X.env)
   let iv <-holding [v,ov] (eval i X.env)
   standAt pos
   holding [v,ov,iv] (setItem ov iv v)
   release [v,ov,iv] []):=by intro _;rfl):PG X (.Subscript o i pos) (Sg to ti t):=by
 intro ah s σ H v u Q I r h;rw [ha];refine aJ (jc (cD (ho ah s σ H _ I h) λov s1 a8=>?_));obtain⟨x,H1,I1,r1,q1⟩:=a8;refine aJ (jc (cD (hi ah s1 σ H1 _ I1 q1) λiv s2 a8=>?_));obtain⟨y,H2,I2,r2,q2⟩:=a8;refine aJ (wpAny_standAt (aJ (jc (cD (hs ah s2 σ H2 x y v ov iv u _ I2 r1 r2 r q2) λ_ s3 a8=>?_))));obtain⟨H3,I3,q3⟩:=a8;exact wpAny_release ⟨σ,H3,I3,q3⟩
def IE (te:TE)(g:TG):TS:=λD σ H=>te σ H λx H1=>g x σ H1 D.nx
def CQ {tg e:Expr}{te:TE}{g:TG}(he:PE X e te)(hg:PG X tg g)(hs:swapsWithSole [tg] e pos.line X.env=pure false:=by rfl)(hw:swappedStores [tg] e X.env=pure none:=by rfl)
  (h1:(assignEach [tg] X.env).map (·.2)=[assign tg X.env]:=by rfl):PS X (.Assign [tg] e pos) (IE te g):=by
 intro ah s σ H D I h;refine wpAny_Assign_stores (cD (he ah s σ H _ I h) λv s1 a8=>?_) hs hw;obtain⟨x,H1,I1,r1,q1⟩:=a8;rw [h1];exact cD (hg ah s1 σ H1 x v _ I1 r1 q1) λ_ s2 q=>q
def aG {i:Nat}{x:Str}{e:Expr}{te:TE}{pos':Pos}(hN:X.N.Nodup)(hi:X.N[i]?=some x)(hx:Loc X.env.scope x)(he:PE X e te)(hs:swapsWith e (some (.Name x pos')) pos.line X.env=pure false:=by rfl)(hf:X.fn x=true\/X.env.scope.names.lookup x=some .local:=by first | exact .inl rfl | exact .inr rfl | assumption) :
  PS X (.Assign [.Name x pos'] e pos) (IE te (dM i)):=by
 intro ah s σ H D I h;refine wpAny_Assign_Name (cD (he ah s σ H _ I h) λv s1 a8=>?_) hs;obtain⟨y,H1,I1,r1,q1⟩:=a8;exact pH I1 hN hi hx r1 (λs2 I2=>⟨_,H1,I2,q1⟩) hf
def PU (i:Nat)(te:TE)(ti:Pg):TS:=λD σ H=>∃x,σ[i]?=some (some x)/\te σ H λy H1=>ti x y H1 λz H2=>D.nx (σ.set i (some z)) H2
def CP {i:Nat}{x:Str}{e:Expr}{te:TE}{op:Operator}{ti:Pg}{pos':Pos}(hN:X.N.Nodup)(hi:X.N[i]?=some x)(hx:Loc X.env.scope x)(he:PE X e te)(ho:Wu X op ti)(hf:X.fn x=true\/X.env.scope.names.lookup x=some .local:=by first | exact .inl rfl | exact .inr rfl | assumption) :
  PS X (.AugAssign (.Name x pos') op e pos) (PU i te ti):=by
 intro ah s σ H D I h;obtain⟨v,e1,h⟩:=h;obtain⟨m,hn,hl⟩:=I.loc;have WA:Pf X.env.scope x:=by rcases hx with k | k;exact .inl k;exact .inr (.inl k)
 obtain⟨u,r,l⟩:=hl i x v hi e1 WA;refine wpAny_AugAssign_Name ?_;have go:wpAny (model X.prog X.w) X.A (eval e X.env) (λw s₂=>wpAny (model X.prog X.w) X.A (inplaceOp op u w) (λr s₃=>wpAny (model X.prog X.w) X.A (storeName X.env x r) (λ_=>SP X ah D .next) X.xe s₃) X.xe s₂) X.xe s:=by
  refine cD (he ah s σ H _ I h) λw s1 a8=>?_;obtain⟨y,H1,I1,r1,q1⟩:=a8;refine cD (ho ah s1 σ H1 v y u w _ I1 r r1 q1) λz s2 a8=>?_;obtain⟨zv,H2,I2,r2,q2⟩:=a8;exact pH I2 hN hi hx r2 (λs3 I3=>⟨_,H2,I3,q2⟩) hf
 rcases l with ⟨hk,hm⟩ | ⟨hk,c,hc,iD⟩
 .exact sU I.ok.kind hk hn hm go
 rcases hk with hk | hk
 .exact wpAny_loadName_cell I.ok.kind hk hc iD go
 rcases hx with k | k
 .have:X.env.scope.names.lookup x=some .free:=hk;rw [k] at this;cases this
 have:X.env.scope.names.lookup x=some .free:=hk;rw [k] at this;cases this
def YA (f:Int->Int->Int):Pg:=λx y H Q=>∃i j,x=.int i/\y=.int j/\Q (.int (f i j)) H
def DJ:Wu X .Add (YA λi j=>i+j):=by
 intro ah s σ H x y v u Q I r1 r2 h;obtain⟨i,j,e1,e2,q⟩:=h;subst e1;subst e2;obtain⟨t,rfl⟩:=r1;obtain⟨t',rfl⟩:=r2;exact iadd_int ⟨.int _,H,I.tok _,⟨_,rfl⟩,q⟩
end
section
variable {X:Cx}{pos:Pos}
def Iw (c:TT)(tb:TS):TS:=λD σ H=>∃W:Nat->St->Hp->Prop,(∃m,W m σ H)/\∀m σ H,W m σ H ->
 c σ H λb H1=>if b=true then ∃N:St->Hp->Prop,(∀σ' H',N σ' H'->∃m',m' < m/\W m' σ' H')/\tb { D with nx:=N,ct:=N,bk:=D.nx } σ H1 else D.nx σ H1
def gW {c:Expr}{body:List Stmt}{tc:TT}{tb:TS}(hp:PassesOwn (model X.prog X.w) X.A X.env X.xe)(hc:PT X c tc)(hb:zg X body tb):PS X (.While c body [] pos) (Iw tc tb):=by
 intro ah s σ H D I h;obtain⟨W,⟨m0,w0⟩,turn⟩:=h;refine wpAny_While (codeAny_whileLoop (λn s'=>∃σ' H',Inv X ah σ' H' s'/\W n σ' H') ?_ m0 ⟨σ,H,I,w0⟩);rintro n s1 ⟨σ1,H1,I1,w1⟩;refine ka hp (cD (hc ah s1 σ1 H1 _ I1 (turn n σ1 H1 w1)) λb s2 a8=>?_);obtain⟨H2,I2,q2⟩:=a8;cases b with
 | true =>
  obtain⟨N,hN,q2⟩:=q2;rw [av rfl];refine ka hp (cD (hb ah s2 σ1 H2 _ I2 q2) λf s3 q3=>?_);cases f with
  | next =>
   obtain⟨σ3,H3,I3,n3⟩:=q3;obtain⟨m',hm,w3⟩:=hN σ3 H3 n3;exact⟨m',hm,σ3,H3,I3,w3⟩
  | cont =>
   obtain⟨σ3,H3,I3,n3⟩:=q3;obtain⟨m',hm,w3⟩:=hN σ3 H3 n3;exact⟨m',hm,σ3,H3,I3,w3⟩
  | brk=>exact q3
  | ret v=>exact q3
 | false =>
  rw [ax eG];exact wpAny_execs_nil ⟨σ1,H2,I2,q2⟩
end
structure It where
 go:Nat->Hp->Prop
 mh:Nat->Hp->V->Hp->Prop
 stop:Nat->Hp->Prop
def u0 (X:Cx)(ah:List (Addr×Obj))(H:Hp)(b:Addr):Prop :=
 H b=none/\b≠X.env.locals/\b∉X.fs/\(b∈X.ex\/X.s₀.heap.objs.size<=b)/\(∀x c,X.env.cells.lookup x=some c->c≠b)/\∀p∈X.pn++ah,p.1≠b
def Inv.qk {X:Cx}{ah:List (Addr×Obj)}{σ:St}{H H':Hp}{s:Shared}{b:Addr}(I:Inv X ah σ H s)(hb:s.heap.objs.size<=b)(hn:H' b=none):u0 X ah H' b:=by
 refine⟨hn,iZ (eW I.lt hb),I.Qx hb,.inr (cO I.sz hb),λx c e z=>?_,λp hp z=>?_⟩
 .obtain⟨v,q⟩:=I.cell x c e;exact absurd (eW q.lt (by rw [z];exact hb)) (jl _)
 exact absurd (eW (ba (I.pin p hp).1) (by rw [z];exact hb)) (jl _)
structure Turn (P:Program)(w:World)(K:aV)(tg:Expr)(J:It)(fp:List Addr)(it:Addr)(tn:Nat->Heap->Prop):Prop where
 mem:it∈fp
 obj:∀i h,tn i h->∀b∈fp,∃o,h.get? b=some o/\∀v,o.data≠.cell v
 keep:∀i h h',tn i h->(∀b∈fp,∀o,h.get? b=some o->h'.get? b=some o)->tn i h'
 item:∀(X:Cx),X.prog=P->X.w=w->X.K=K->X.calm=true->∀(i:Nat)(ah:List (Addr×Obj))(s:Shared)(σ:St)(H:Hp)(E:Value->Shared->Prop),Inv X ah σ H s->(∀b∈fp,u0 X ah H b)->tn i s.heap->J.go i H ->
  wpAny (model P w) X.A (pyNext (.ref it)) (λr s1=>∃u,r=some u /\
   wpAny (model P w) X.A (letOwnedTupleGo tg (.ref it) u) (λ_ s2=>∃x H',Inv X ah σ H' s2/\RelV x u/\J.mh i H x H'/\tn (i+1) s2.heap/\∀b∈fp,H' b=none) E s1) E s
 done:∀(X:Cx),X.prog=P->X.w=w->X.K=K->X.calm=true->∀(i:Nat)(ah:List (Addr×Obj))(s:Shared)(σ:St)(H:Hp)(E:Value->Shared->Prop),Inv X ah σ H s->(∀b∈fp,u0 X ah H b)->tn i s.heap->J.stop i H ->
  wpAny (model P w) X.A (pyNext (.ref it)) (λr s1=>r=none/\Inv X ah σ H s1) E s
 self:∀(A:Around) (i:Nat)(s:Shared)(Q:Value->Shared->Prop)(E:Value->Shared->Prop),tn i s.heap->Q (.ref it) s->wpAny (model P w) A (pyIter (.ref it)) Q E s
abbrev TI:=St->Hp->(It->Hp->Prop)->Prop
def Wv (X:Cx)(ah:List (Addr×Obj))(σ:St)(tg:Expr)(R:It->Hp->Prop)(OO:Value)(s2:Shared):Prop :=
 ∃(it:Addr)(fp:List Addr)(tn:Nat->Heap->Prop)(J:It)(H':Hp),OO=.ref it/\Inv X ah σ H' s2/\Turn X.prog X.w X.K tg J fp it tn/\tn 0 s2.heap/\(∀b∈fp,u0 X ah H' b)/\R J H'
def PI (X:Cx)(tg iter:Expr)(wi:TI):Prop :=
 ∀(ah:List (Addr×Obj))(s:Shared)(σ:St)(H:Hp)(R:It->Hp->Prop),Inv X ah σ H s->wi σ H R ->
  wpAny (model X.prog X.w) X.A (eval iter X.env) (λv s1=>wpAny (model X.prog X.w) X.A (pyIter v) (Wv X ah σ tg R) X.xe s1) X.xe s
def z9 {M:Model}{A:Around}{E:Value->Shared->Prop}{s:Shared}{tg:Expr}{it:Addr}{u:Value}{o:Obj}{n:String}{vs:Array Value}{Q:Unit->Shared->Prop}(ho:s.heap.get? it=some o)(hc:o.cls=.type n)(hd:o.data=.fields vs)
  (hn:["enumerate","zip","dict_itemiterator","dict_reverseitemiterator","odict_iterator","itertools.zip_longest","itertools.pairwise"].contains n=false)(hQ:Q () s):wpAny M A (letOwnedTupleGo tg (.ref it) u) Q E s:=by
 unfold letOwnedTupleGo;cases tg <;> first
  | exact aZ hQ
  | (cases u <;> first
    | exact aZ hQ
    | (refine aJ (wpAny_load ho ?_)
       rw [hc,hd];show wpAny M A (if (["enumerate","zip","dict_itemiterator","dict_reverseitemiterator","odict_iterator","itertools.zip_longest","itertools.pairwise"].contains n && vs[0]? == some (rawInt _))=true then _ else _) Q E s;rw [ax (by intro h;rw [hn,Bool.false_and] at h;cases h)];exact aZ hQ))
def j5 (K:aV)(a:Addr):It :=
 ⟨λi H=>∃xs x,aH K H a xs/\xs[i]?=some x,λi H x H'=>H'=H/\∀xs,aH K H a xs->xs[i]?=some x,λi H=>∃xs,aH K H a xs/\xs.length<=i⟩
def qN (K:aV)(a:Addr):It :=
 ⟨λi H=>∃xs x,aW K H a xs/\xs[i]?=some x,λi H x H'=>H'=H/\∀xs,aW K H a xs->xs[i]?=some x,λi H=>∃xs,aW K H a xs/\xs.length<=i⟩
def G5 (lo:Int) (n:Nat):It:=⟨λi _=>i < n,λi H x H'=>H'=H/\x=.int (lo+i),λi _=>n<=i⟩
def As {P:Program}{w:World}{K:aV}{tg:Expr}(a it:Addr):Turn P w K tg (j5 K a) [it] it (λi h=>h.IsListIter it a i) where
 mem:=by simp
 obj:=λi h st b hb=>by
  have e:b=it:=by simpa using hb
  subst e;obtain⟨o,e,c,d⟩:=st;exact⟨o,e,λv z=>by rw [d] at z;cases z⟩
 keep:=λi h h' st k=>st.at λo e=>k it (by simp) o e
 item:=by
  intro X hP hw hK hc i ah s σ H E I hf st hg;subst hP hw hK;obtain⟨xs,x,hq,hx⟩:=hg;obtain⟨aL,rv,p,hz⟩:=I.list hq;obtain⟨u,hu,ru⟩:=rv.get hx;obtain⟨f0,f1,f2,f3,f4,f5⟩:=hf it (by simp);refine wpAny_pyNext_list_item st p.isList (x:=u) (by simpa using hu) λh' u5 sb=>?_;have I1:Inv X ah σ H { s with heap:=h' }:=I.turned (t':=s.toks) (λb o hb e=>(sb.2 b hb).trans e) f0 f1 f3 f4 f5;obtain⟨o,e,c,d⟩:=id u5;exact⟨u,rfl,z9 (s:={ s with heap:=h' }) e c d nofun ⟨x,H,I1,ru,⟨rfl,λys hy=>by rw [I.lM hy hq];exact hx⟩,u5,λb hb=>(hf b hb).1⟩⟩
 done:=by
  intro X hP hw hK hc i ah s σ H E I hf st hg;subst hP hw hK;obtain⟨xs,hq,hx⟩:=hg;obtain⟨aL,rv,p,hz⟩:=I.list hq;obtain⟨f0,f1,f2,f3,f4,f5⟩:=hf it (by simp);have hl:=rv.length;exact sX (I.ok.hd hc) st p.isList (by simp;omega) λh' eb=>⟨rfl,I.turned (t':=s.toks) (λb o hb e=>eb b o hb e) f0 f1 f3 f4 f5⟩
 self:=λ_ _ _ _ _ st h=>wpAny_pyIter_listiter st h
def xF {P:Program}{w:World}{K:aV}{tg:Expr}(a it:Addr):Turn P w K tg (qN K a) [it] it (λi h=>h.IsTupleIter it a i) where
 mem:=by simp
 obj:=λi h st b hb=>by
  have e:b=it:=by simpa using hb
  subst e;obtain⟨o,e,c,d⟩:=st;exact⟨o,e,λv z=>by rw [d] at z;cases z⟩
 keep:=λi h h' st k=>st.at λo e=>k it (by simp) o e
 item:=by
  intro X hP hw hK hc i ah s σ H E I hf st hg;subst hP hw hK;obtain⟨xs,x,hq,hx⟩:=hg;obtain⟨aL,rv,p,hz⟩:=I.tuple hq;obtain⟨u,hu,ru⟩:=rv.get hx;obtain⟨f0,f1,f2,f3,f4,f5⟩:=hf it (by simp);refine wpAny_pyNext_tuple_item st (show s.heap.IsTuple a aL.toArray from p) (x:=u) (by simpa using hu) λh' u5 sb=>?_;have I1:Inv X ah σ H { s with heap:=h' }:=I.turned (t':=s.toks) (λb o hb e=>(sb.2 b hb).trans e) f0 f1 f3 f4 f5;obtain⟨o,e,c,d⟩:=id u5;exact⟨u,rfl,z9 (s:={ s with heap:=h' }) e c d nofun ⟨x,H,I1,ru,⟨rfl,λys hy=>by rw [I.rC hy hq];exact hx⟩,u5,λb hb=>(hf b hb).1⟩⟩
 done:=by
  intro X hP hw hK hc i ah s σ H E I hf st hg;subst hP hw hK;obtain⟨xs,hq,hx⟩:=hg;obtain⟨aL,rv,p,hz⟩:=I.tuple hq;obtain⟨f0,f1,f2,f3,f4,f5⟩:=hf it (by simp);have hl:=rv.length;exact wpAny_pyNext_tuple_end (I.ok.hd hc) st (show s.heap.IsTuple a aL.toArray from p) (by simp;omega) λh' eb=>⟨rfl,I.turned (t':=s.toks) (λb o hb e=>eb b o hb e) f0 f1 f3 f4 f5⟩
 self:=λ_ _ _ _ _ st h=>wpAny_pyIter_tupleiter st h
def xG {P:Program}{w:World}{K:aV}{tg:Expr}(it:Addr) (lo:Int) (n:Nat):Turn P w K tg (G5 lo n) [it] it (λi h=>IsRangeIter h it (lo+(i:Nat) * 1) ((n:Int) - (i:Nat)) 1) where
 mem:=by simp
 obj:=λi h st b hb=>by
  have e:b=it:=by simpa using hb
  subst e;exact⟨_,st,λv z=>by
   have z':Data.fields _=Data.cell v:=z;cases z'⟩
 keep:=λi h h' st k=>k it (by simp) _ st
 item:=by
  intro X hP hw hK hc i ah s σ H E I hf st hg;subst hP hw hK;obtain⟨f0,f1,f2,f3,f4,f5⟩:=hf it (by simp);have W:=Walks.range (prog:=X.prog) (w:=X.w) (I.ok.hd hc) it lo 1 n;refine W.item i s _ _ hg st λv h' tk hv u5 kk=>?_;obtain⟨t,rfl⟩:=hv;have I1:Inv X ah σ H { s with heap:=h',toks:=tk }:=I.turned (λb o hb e=>kk b o (by simpa using hb) e) f0 f1 f3 f4 f5;refine⟨_,rfl,z9 (s:={ s with heap:=h',toks:=tk }) (n := "range_iterator") u5 rfl rfl nofun ⟨.int (lo+i),H,I1,⟨t,?_⟩,⟨rfl,rfl⟩,u5,λb hb=>(hf b hb).1⟩⟩;rw [Int.mul_one]
 done:=by
  intro X hP hw hK hc i ah s σ H E I hf st hg;subst hP hw hK;obtain⟨f0,f1,f2,f3,f4,f5⟩:=hf it (by simp);exact wpAny_pyNext_range_end (I.ok.hd hc) st (by have:n<=i:=hg;omega) λh' eb=>⟨rfl,I.turned (t':=s.toks) (λb o hb e=>eb b o hb e) f0 f1 f3 f4 f5⟩
 self:=λ_ _ _ _ _ st h=>wpAny_pyIter_rangeiter st h
section
variable {X:Cx}{tg:Expr}
def MV (K:aV)(tl:TE):TI:=λσ H R=>tl σ H λx H1=>Pd x (λa=>∃xs,aH K H1 a xs) λa=>R (j5 K a) H1
def Q4 (K:aV)(tl:TE):TI:=λσ H R=>tl σ H λx H1=>Pd x (λa=>∃xs,aW K H1 a xs) λa=>R (qN K a) H1
def bq {l:Expr}{tl:TE}(hl:PE X l tl):PI X tg l (MV X.K tl):=by
 intro ah s σ H R I h;refine cD (hl ah s σ H _ I h) λv s1 a8=>?_;obtain⟨x,H1,I1,r1,q1⟩:=a8;obtain⟨a,e,⟨xs,hq⟩,q⟩:=q1;subst e;cases r1;obtain⟨aL,rv,p,hz⟩:=I1.list hq;refine kP p.isList ?_;refine⟨s1.heap.objs.size,[s1.heap.objs.size],_,_,H1,rfl,I1.kept (t':=s1.toks) λb o e=>bS _ e,As a _,⟨_,cV _ rfl,rfl,rfl⟩,λb hb=>?_,q⟩;have e:b=s1.heap.objs.size:=by simpa using hb
 subst e;exact I1.qk (aF _) (I1.bQ.fresh (aF _))
def gX {l:Expr}{tl:TE}(hl:PE X l tl):PI X tg l (Q4 X.K tl):=by
 intro ah s σ H R I h;refine cD (hl ah s σ H _ I h) λv s1 a8=>?_;obtain⟨x,H1,I1,r1,q1⟩:=a8;obtain⟨a,e,⟨xs,hq⟩,q⟩:=q1;subst e;cases r1;obtain⟨aL,rv,p,hz⟩:=I1.tuple hq;refine sN (show s1.heap.IsTuple a aL.toArray from p) ?_;refine⟨s1.heap.objs.size,[s1.heap.objs.size],_,_,H1,rfl,I1.kept (t':=s1.toks) λb o e=>bS _ e,xF a _,⟨_,cV _ rfl,rfl,rfl⟩,λb hb=>?_,q⟩;have e:b=s1.heap.objs.size:=by simpa using hb
 subst e;exact I1.qk (aF _) (I1.bQ.fresh (aF _))
def CM {ah:List (Addr×Obj)}{σ:St}{H:Hp}{s:Shared}{R:It->Hp->Prop}{E:Value->Shared->Prop}{lo hi:Int}{t u v:Tok}{tk:Nat}(I:Inv X ah σ H s)(h1:-(2 ^ 62)<=lo)(h2:lo < 2 ^ 62)(h3:-(2 ^ 62)<=hi)(h4:hi < 2 ^ 62)
  (q:R (G5 lo (hi - lo).toNat) H):wpAny (model X.prog X.w) X.A (pyIter (.ref s.heap.objs.size)) (Wv X ah σ tg R) E { s with heap:=s.heap.push { cls:=.type "range",data:=.fields #[.int lo t,.int hi u,.int 1 v] },toks:=tk }:=by
 refine wpAny_pyIter_range (IsRange.new ..) (small_one h1 h2 h3 h4) ?_;have I1:Inv X ah σ H { s with heap:=s.heap.push { cls:=.type "range",data:=.fields #[.int lo t,.int hi u,.int 1 v] },toks:=tk }:=I.kept λb o e=>bS _ e;refine⟨(s.heap.push { cls:=.type "range",data:=.fields #[.int lo t,.int hi u,.int 1 v] }).objs.size,[(s.heap.push { cls:=.type "range",data:=.fields #[.int lo t,.int hi u,.int 1 v] }).objs.size],_,_,H,rfl,
  I1.kept (t':=tk) λb o e=>bS _ e,xG _ lo (hi - lo).toNat,?_,λb hb=>?_,q⟩
 .have e1:lo+((0:Nat):Int) * 1=lo:=by simp
  have e2:(((hi - lo).toNat:Nat):Int) - ((0:Nat):Int)=Builtin.Range.rangeSize lo hi 1:=by rw [rangeSize_one];split <;> omega
  show IsRangeIter _ _ (lo+((0:Nat):Int) * 1) ((((hi - lo).toNat:Nat):Int) - ((0:Nat):Int)) 1;rw [e1,e2];exact cV _ rfl
 have e:b=(s.heap.push { cls:=.type "range",data:=.fields #[.int lo t,.int hi u,.int 1 v] }).objs.size:=by simpa using hb
 subst e;exact I1.qk (aF _) (I1.bQ.fresh (aF _))
def MU (ta:TA):TI:=λσ H R=>ta σ H λvs H1=>Wj vs λj=>R (G5 0 j.toNat) H1
def iz {a:Expr}{ta:TA}{p pos:Pos}(hg:Gl X "range")(hm:X.mg "range"=none)(ha:PA X [a] ta)(hs:starEach [a] X.env=[(false,eval a X.env)]:=by rfl):PI X tg (.Call (.Name "range" p) [a] [] pos) (MU ta):=by
 intro ah s σ H R I h;refine Call_ (ig I hg hm boot_range (zo (cD (ha pos ah s σ H _ I h) λus s1 a8=>?_) hs rfl));obtain⟨vs,H1,I1,r1,q1⟩:=a8;obtain⟨j,e,q1,q2,q⟩:=q1;subst e;cases r1 with
 | cons r rr =>
  cases rr;obtain⟨t,rfl⟩:=r;exact call_range_1 (CM I1 ∅ ∅ q1 q2 (by simpa using q))
def PQ (wi:TI)(g:TG)(tb:TS):TS:=λD σ H=>wi σ H λJ H1=>∃W:Nat->Nat->St->Hp->Prop,(∃m,W 0 m σ H1)/\∀i m σ H,W i m σ H ->
 (J.stop i H/\D.nx σ H)\/(J.go i H/\∃N:St->Hp->Prop,(∀σ' H',N σ' H'->∃m',m' < m/\W (i+1) m' σ' H')/\∀x H',J.mh i H x H'->g x σ H' λσ2 H2=>tb { D with nx:=N,ct:=N,bk:=D.nx } σ2 H2)
def mT (fp:List Addr)(h:Heap):List (Addr×Obj):=fp.filterMap λb=>(h.get? b).map λo=>(b,o)
def fX {fp:List Addr}{h:Heap}{b:Addr}{o:Obj}(hb:b∈fp)(e:h.get? b=some o):(b,o)∈mT fp h:=sS.mpr ⟨b,hb,by rw [e];rfl⟩
def AQ {fp:List Addr}{h:Heap}{p:Addr×Obj}(hp:p∈mT fp h):p.1∈fp/\h.get? p.1=some p.2:=by
 obtain⟨b,hb,e⟩:=sS.mp hp;cases q:h.get? b with
 | none=>rw [q] at e;cases e
 | some o =>
  rw [q] at e;have e':(b,o)=p:=f_ e;subst e';exact⟨hb,q⟩
def Inv.pinned {ah:List (Addr×Obj)}{σ:St}{H:Hp}{s:Shared}{fp:List Addr}(I:Inv X ah σ H s)(hf:∀b∈fp,u0 X ah H b)(ho:∀b∈fp,∃o,s.heap.get? b=some o/\∀v,o.data≠.cell v):Inv X (ah++mT fp s.heap) σ H s :=
 I.zV λp hp=>(bN.mp hp).elim (λz=>I.pin p (eX _ z)) λz=>by
  obtain⟨hb,e⟩:=AQ z;obtain⟨f0,f1,f2,_⟩:=hf p.1 hb;obtain⟨o,e',d⟩:=ho p.1 hb;rw [e] at e';cases e';exact⟨e,f0,f1,f2,d⟩
def Inv.jo {ah pl:List (Addr×Obj)}{σ:St}{H:Hp}{s:Shared}(I:Inv X (ah++pl) σ H s):Inv X ah σ H s:=I.zV λp hp=>I.pin p (eX _ (jh _ hp))
def b8 {iter:Expr}{body:List Stmt}{wi:TI}{g:TG}{tb:TS}{pos:Pos}(hp:PassesOwn (model X.prog X.w) X.A X.env X.xe)(hc:X.calm=true)(hi:PI X tg iter wi)(hg:PG X tg g)(hb:zg X body tb)
  (hs:∀x,foldedSetIterable iter X.env x=pure x:=by intro _;rfl):PS X (.For tg iter body [] pos) (PQ wi g tb):=by
 intro ah s σ H D I h;refine wpAny_For (cD (hi ah s σ H _ I h) λv s1 h1=>cD h1 λOO s2 h2=>?_) hs;obtain⟨it,fp,tn,J,H2,e,I2,T,EM,f2,W,⟨m0,w0⟩,turn⟩:=h2;subst e;have pI:∀{H':Hp},(∀b∈fp,H' b=none)->∀b∈fp,u0 X ah H' b:=λhn b hb=>⟨hn b hb,(f2 b hb).2⟩;refine codeAny_forLoop_any (λn s'=>∃i σ' H',Inv X ah σ' H' s'/\tn i s'.heap/\(∀b∈fp,H' b=none)/\W i n σ' H') ?_ m0 ⟨0,σ,H2,I2,EM,λb hb=>(f2 b hb).1,w0⟩;rintro n s3 ⟨i,σ3,H3,I3,LU,VC,w3⟩;rcases turn i n σ3 H3 w3 with ⟨stop,qn⟩ | ⟨go,N,hN,step⟩
 .refine ka hp (cD (T.done X rfl rfl rfl hc i ah s3 σ3 H3 X.xe I3 (pI VC) LU stop) λr s4 ⟨hr,I4⟩=>?_);subst hr;exact wpAny_execs_nil ⟨σ3,H3,I4,qn⟩
 refine ka hp (cD (T.item X rfl rfl rfl hc i ah s3 σ3 H3 X.xe I3 (pI VC) LU go) λr s4 ⟨u,hr,h4⟩=>?_);subst hr;refine ka hp (cD h4 λ_ s5 a8=>?_);obtain⟨x,H5,I5,r5,y5,Ax,NC⟩:=a8;have I5':=I5.pinned (pI NC) (T.obj _ _ Ax);refine ka hp (cD (hg _ s5 σ3 H5 x u _ I5' r5 (step x H5 y5)) λ_ s6 a8=>?_);obtain⟨σ6,H6,I6,q6⟩:=a8;refine ka hp (cD (hb _ s6 σ6 H6 _ I6 q6) λf s7 q7=>?_);have again:∀{σ7:St}{H7:Hp},Inv X (ah++mT fp s5.heap) σ7 H7 s7->N σ7 H7->∃m,m < n/\∃i σ' H',Inv X ah σ' H' s7/\tn i s7.heap/\(∀b∈fp,H' b=none)/\W i m σ' H':=λ{σ7 H7} I7 n7=>by
  obtain⟨m',hm,w7⟩:=hN σ7 H7 n7;refine⟨m',hm,i+1,σ7,H7,I7.jo,T.keep _ _ _ Ax λb hb o e=>(I7.pin (b,o) (eX _ (eX _ (fX hb e)))).1,λb hb=>?_,w7⟩;obtain⟨o,e,d⟩:=T.obj _ _ Ax b hb;exact(I7.pin (b,o) (eX _ (eX _ (fX hb e)))).2.1
 cases f with
 | next=>obtain⟨σ7,H7,I7,n7⟩:=q7;exact again I7 n7
 | cont=>obtain⟨σ7,H7,I7,n7⟩:=q7;exact again I7 n7
 | brk=>obtain⟨σ7,H7,I7,q7⟩:=q7;exact⟨σ7,H7,I7.jo,q7⟩
 | ret v=>obtain⟨x7,σ7,H7,I7,r7,q7⟩:=q7;exact⟨x7,σ7,H7,I7.jo,r7,q7⟩
end
def dW {K:aV}{a:Addr}{xs:List V}{g:TG}{tb:TS}{D:Ends}{σ:St}{H:Hp}(Pv:Nat->St->Hp->Prop)(h0:Pv 0 σ H)(hl:∀i σ H,i<=xs.length->Pv i σ H->aH K H a xs)
  (hs:∀i x σ H,xs[i]?=some x->Pv i σ H->g x σ H λσ2 H2=>tb { D with nx:=Pv (i+1),ct:=Pv (i+1),bk:=D.nx } σ2 H2)(hd:∀σ H,Pv xs.length σ H->D.nx σ H) :
  ∃W:Nat->Nat->St->Hp->Prop,(∃m,W 0 m σ H)/\∀i m σ H,W i m σ H ->
   ((j5 K a).stop i H/\D.nx σ H)\/((j5 K a).go i H/\∃N:St->Hp->Prop,(∀σ' H',N σ' H'->∃m',m' < m/\W (i+1) m' σ' H')/\∀x H',(j5 K a).mh i H x H'->g x σ H' λσ2 H2=>tb { D with nx:=N,ct:=N,bk:=D.nx } σ2 H2):=by
 refine⟨λi m σ H=>m=xs.length - i/\i<=xs.length/\Pv i σ H,⟨xs.length,by simp,cT _,h0⟩,?_⟩;rintro i m σ H ⟨rfl,hi,p⟩;have q:=hl i σ H hi p;by_cases gZ:i < xs.length
 .refine .inr ⟨⟨xs,xs[i],q,by simp [gZ]⟩,Pv (i+1),λσ' H' p'=>⟨xs.length - (i+1),∅,rfl,gZ,p'⟩,λx H' y=>?_⟩;obtain⟨e,y⟩:=y;subst e;exact hs i x σ _ (y xs q) p
 have e:i=xs.length:=by omega
 subst e;exact .inl ⟨⟨xs,q,aF _⟩,hd σ H p⟩
def oN {K:aV}{a:Addr}{xs:List V}{g:TG}{tb:TS}{D:Ends}{σ:St}{H:Hp}(Pv:Nat->St->Hp->Prop)(h0:Pv 0 σ H)(hl:∀i σ H,i<=xs.length->Pv i σ H->aW K H a xs)
  (hs:∀i x σ H,xs[i]?=some x->Pv i σ H->g x σ H λσ2 H2=>tb { D with nx:=Pv (i+1),ct:=Pv (i+1),bk:=D.nx } σ2 H2)(hd:∀σ H,Pv xs.length σ H->D.nx σ H) :
  ∃W:Nat->Nat->St->Hp->Prop,(∃m,W 0 m σ H)/\∀i m σ H,W i m σ H ->
   ((qN K a).stop i H/\D.nx σ H)\/((qN K a).go i H/\∃N:St->Hp->Prop,(∀σ' H',N σ' H'->∃m',m' < m/\W (i+1) m' σ' H')/\∀x H',(qN K a).mh i H x H'->g x σ H' λσ2 H2=>tb { D with nx:=N,ct:=N,bk:=D.nx } σ2 H2):=by
 refine⟨λi m σ H=>m=xs.length - i/\i<=xs.length/\Pv i σ H,⟨xs.length,by simp,cT _,h0⟩,?_⟩;rintro i m σ H ⟨rfl,hi,p⟩;have q:=hl i σ H hi p;by_cases gZ:i < xs.length
 .refine .inr ⟨⟨xs,xs[i],q,by simp [gZ]⟩,Pv (i+1),λσ' H' p'=>⟨xs.length - (i+1),∅,rfl,gZ,p'⟩,λx H' y=>?_⟩;obtain⟨e,y⟩:=y;subst e;exact hs i x σ _ (y xs q) p
 have e:i=xs.length:=by omega
 subst e;exact .inl ⟨⟨xs,q,aF _⟩,hd σ H p⟩
def jN {lo:Int}{n:Nat}{g:TG}{tb:TS}{D:Ends}{σ:St}{H:Hp}(Pv:Nat->St->Hp->Prop)(h0:Pv 0 σ H)
  (hs:∀i σ H,i < n->Pv i σ H->g (.int (lo+i)) σ H λσ2 H2=>tb { D with nx:=Pv (i+1),ct:=Pv (i+1),bk:=D.nx } σ2 H2)(hd:∀σ H,Pv n σ H->D.nx σ H) :
  ∃W:Nat->Nat->St->Hp->Prop,(∃m,W 0 m σ H)/\∀i m σ H,W i m σ H ->
   ((G5 lo n).stop i H/\D.nx σ H)\/((G5 lo n).go i H/\∃N:St->Hp->Prop,(∀σ' H',N σ' H'->∃m',m' < m/\W (i+1) m' σ' H')/\∀x H',(G5 lo n).mh i H x H'->g x σ H' λσ2 H2=>tb { D with nx:=N,ct:=N,bk:=D.nx } σ2 H2):=by
 refine⟨λi m σ H=>m=n - i/\i<=n/\Pv i σ H,⟨n,by simp,cT _,h0⟩,?_⟩;rintro i m σ H ⟨rfl,hi,p⟩;by_cases gZ:i < n
 .refine .inr ⟨gZ,Pv (i+1),λσ' H' p'=>⟨n - (i+1),∅,rfl,gZ,p'⟩,λx H' y=>?_⟩;obtain⟨e,y⟩:=y;subst e y;exact hs i σ _ gZ p
 have e:i=n:=by omega
 subst e;exact .inl ⟨aF _,hd σ H p⟩
abbrev R2:=V->V->Hp->VK->Prop
def md (X:Cx)(f:Value->Value->Sem Value)(r:R2):Prop :=
 ∀(ah:List (Addr×Obj))(s:Shared)(σ:St)(H:Hp)(x y:V)(v u:Value)(Q:VK),Inv X ah σ H s->RelV x v->RelV y u->r x y H Q ->
  wpAny (model X.prog X.w) X.A (f v u) (EP X ah σ Q) X.xe s
def Tt (X:Cx)(f:Value->Sem Value)(r:V->Hp->VK->Prop):Prop :=
 ∀(ah:List (Addr×Obj))(s:Shared)(σ:St)(H:Hp)(x:V)(v:Value)(Q:VK),Inv X ah σ H s->RelV x v->r x H Q ->
  wpAny (model X.prog X.w) X.A (f v) (EP X ah σ Q) X.xe s
def eZ (X:Cx)(f:Value)(r:List V->Hp->VK->Prop):Prop :=
 ∀(ah:List (Addr×Obj))(s:Shared)(σ:St)(H:Hp)(xs:List V)(us:List Value)(Q:VK),Inv X ah σ H s->aT xs us->r xs H Q ->
  wpAny (model X.prog X.w) X.A (call f us) (EP X ah σ Q) X.xe s
def Tu (X:Cx)(r:V->Hp->(Bool->Hp->Prop)->Prop):Prop :=
 ∀(ah:List (Addr×Obj))(s:Shared)(σ:St)(H:Hp)(x:V)(v:Value)(Q:Bool->Hp->Prop),Inv X ah σ H s->RelV x v->r x H Q ->
  wpAny (model X.prog X.w) X.A (truthy v) (TP X ah σ Q) X.xe s
def Ov (r:R2)(ta tb:TE):TE:=λσ H Q=>ta σ H λx H1=>tb σ H1 λy H2=>r x y H2 Q
def WD (r:V->Hp->VK->Prop)(ta:TE):TE:=λσ H Q=>ta σ H λx H1=>r x H1 Q
def rI (C:Int->Int->Prop)(g:Int->Int->V):R2:=λx y H Q=>Wl x y C λi j=>Q (g i j) H
def I8 (g:Int->Int->V):R2:=λx y H Q=>Wm x y λi j=>Q (g i j) H
def rU (g:Int->V):V->Hp->VK->Prop:=λx H Q=>Tq x λi=>Q (g i) H
section
variable {X:Cx}{a b c:Expr}{ta tb tc:TE}{pos:Pos}
def Kz (ha:PE X a ta)(hb:PE X b tb){ah:List (Addr×Obj)}{s:Shared}{σ:St}{H:Hp}{R:V->V->Hp->Prop}(I:Inv X ah σ H s)
  (h:ta σ H λx H1=>tb σ H1 λy H2=>R x y H2){Q:Value->Shared->Prop}{f:Value->Value->Sem Value}
  (hf:∀v u s2 x y H2,Inv X ah σ H2 s2->RelV x v->RelV y u->R x y H2->wpAny (model X.prog X.w) X.A (f v u) Q X.xe s2) :
  wpAny (model X.prog X.w) X.A (eval a X.env) (λv s₁=>wpAny (model X.prog X.w) X.A (eval b X.env) (λu s₂=>wpAny (model X.prog X.w) X.A (f v u) Q X.xe s₂) X.xe s₁) X.xe s:=by
 refine cD (ha ah s σ H _ I h) λv s1 a8=>?_;obtain⟨x,H1,I1,r1,q1⟩:=a8;refine cD (hb ah s1 σ H1 _ I1 q1) λu s2 a8=>?_;obtain⟨y,H2,I2,r2,q2⟩:=a8;exact hf v u s2 x y H2 I2 r1 r2 q2
def bh {op:Operator}{r:R2}(ho:md X (binaryOp op) r)(ha:PE X a ta)(hb:PE X b tb):PE X (.BinOp a op b pos) (Ov r ta tb):=by
 intro ah s σ H Q I h;exact wpAny_BinOp (Kz ha hb I h λv u s2 x y H2 I2 rx ry q=>ho ah s2 σ H2 x y v u Q I2 rx ry q)
def iA {op:UnaryOp}{r:V->Hp->VK->Prop}(ho:Tt X (unaryOp op) r)(ha:PE X a ta):PE X (.UnaryOp op a pos) (WD r ta):=by
 intro ah s σ H Q I h;refine UnaryOp_ (cD (ha ah s σ H _ I h) λv s1 a8=>?_);obtain⟨x,H1,I1,r1,q1⟩:=a8;exact ho ah s1 σ H1 x v Q I1 r1 q1
def Qn {f:Value->Value->Sem Value}{C:Int->Int->Prop}{g:Int->Int->Int}
  (rule:∀(i j:Int)(t u:Tok)(s:Shared)(Q:Value->Shared->Prop)(E:Value->Shared->Prop),C i j->Q (.int (g i j) s.toks) { s with toks:=s.toks+1 }->wpAny (model X.prog X.w) X.A (f (.int i t) (.int j u)) Q E s) :
  md X f (rI C λi j=>.int (g i j)):=by
 intro ah s σ H x y v u Q I rx ry h;obtain⟨i,j,rfl,rfl,hc,q⟩:=h;obtain⟨t,rfl⟩:=rx;obtain⟨t',rfl⟩:=ry;exact rule i j t t' s _ _ hc ⟨.int (g i j),H,I.tok _,⟨_,rfl⟩,q⟩
def Mj {f:Value->Value->Sem Value}{g:Int->Int->Int}
  (rule:∀(i j:Int)(t u:Tok)(s:Shared)(Q:Value->Shared->Prop)(E:Value->Shared->Prop),Q (.int (g i j) s.toks) { s with toks:=s.toks+1 }->wpAny (model X.prog X.w) X.A (f (.int i t) (.int j u)) Q E s) :
  md X f (I8 λi j=>.int (g i j)):=by
 intro ah s σ H x y v u Q I rx ry h;obtain⟨i,j,rfl,rfl,q⟩:=h;obtain⟨t,rfl⟩:=rx;obtain⟨t',rfl⟩:=ry;exact rule i j t t' s _ _ ⟨.int (g i j),H,I.tok _,⟨_,rfl⟩,q⟩
def Jf {f:Value->Value->Sem Value}{g:Int->Int->Bool}
  (rule:∀(i j:Int)(t u:Tok)(s:Shared)(Q:Value->Shared->Prop)(E:Value->Shared->Prop),Q (.bool (g i j)) s->wpAny (model X.prog X.w) X.A (f (.int i t) (.int j u)) Q E s) :
  md X f (I8 λi j=>.bl (g i j)):=by
 intro ah s σ H x y v u Q I rx ry h;obtain⟨i,j,rfl,rfl,q⟩:=h;obtain⟨t,rfl⟩:=rx;obtain⟨t',rfl⟩:=ry;exact rule i j t t' s _ _ ⟨.bl (g i j),H,I,rfl,q⟩
def TM (i j:Int):Prop:=0 < j/\j < 1073741824
def KR (i j:Int):Prop:=(-(2 ^ 64) < i/\i < 2 ^ 64)\/(-(2 ^ 64) < j/\j < 2 ^ 64)
def KR.ok {i j:Int}(h:KR i j):IntMulOk i j:=by
 rcases h with ⟨h1,h2⟩ | ⟨h1,h2⟩
 .exact .of_left (intBits_le_64 h1 h2)
 exact .of_right (intBits_le_64 h1 h2)
def dH:md X (binaryOp .Add) (I8 λi j=>.int (i+j)):=Mj λ_ _ _ _ _ _ _ q=>add_int q
def C8:md X (binaryOp .Sub) (I8 λi j=>.int (i - j)):=Mj λ_ _ _ _ _ _ _ q=>sub_int q
def yl:md X (binaryOp .Mult) (rI KR λi j=>.int (i * j)):=Qn λ_ _ _ _ _ _ _ hc q=>mul_int q hc.ok
def lK:md X (binaryOp .FloorDiv) (rI TM λi j=>.int (i / j)):=Qn λi j _ _ _ _ _ hc q=>by
 have h1:(0:Int) < j:=hc.1;have h2:j < 1073741824:=hc.2;exact floordiv_int ∅ (by rw [Int.fdiv_eq_ediv_of_nonneg i ∅];exact q) (.inl (PyProof.noPylong_small ∅))
def eU:md X (binaryOp .Mod) (rI (λ_ j=>0 < j) λi j=>.int (i % j)):=Qn λi j _ _ _ _ _ hc q=>by
 have h1:(0:Int) < j:=hc;exact mod_int' ∅ (by rw [Int.fmod_eq_emod_of_nonneg i ∅];exact q)
def WC {f:Value->Sem Value}{g:Int->Int}
  (rule:∀(i:Int)(t:Tok)(s:Shared)(Q:Value->Shared->Prop)(E:Value->Shared->Prop),Q (.int (g i) s.toks) { s with toks:=s.toks+1 }->wpAny (model X.prog X.w) X.A (f (.int i t)) Q E s) :
  Tt X f (rU λi=>.int (g i)):=by
 intro ah s σ H x v Q I rx h;obtain⟨i,rfl,q⟩:=h;obtain⟨t,rfl⟩:=rx;exact rule i t s _ _ ⟨.int (g i),H,I.tok _,⟨_,rfl⟩,q⟩
def fQ:Tt X (unaryOp .USub) (rU λi=>.int (-i)):=WC λ_ _ _ _ _ q=>neg_int q
end
def P0:V->V->Bool
 | .eJ,.eJ=>true | .eJ,.int _=>true | .int _,.eJ=>true | .eJ,.bl _=>true | .bl _,.eJ=>true | .eJ,.str _=>true | .str _,.eJ=>true
 | .int _,.int _=>true | .bl _,.bl _=>true | .str _,.str _=>true | .Bu _,.Bu _=>true
 | .int _,.str _=>true | .str _,.int _=>true | .bl _,.str _=>true | .str _,.bl _=>true
 | _,_=>false
def Xc:R2:=λx y H Q=>P0 x y=true/\Q (.bl (decide (x=y))) H
def Gz {i j:Int}:decide (V.int i=V.int j)=(i == j):=by
 rw [ij];simp
def Kt {i j:Bool}:decide (V.bl i=V.bl j)=(i == j):=by
 rw [ij];simp
def Gy {i j:Str}:decide (V.str i=V.str j)=(i == j):=by
 rw [ij];simp
def GB {i j:Array UInt8}:decide (V.Bu i=V.Bu j)=(i.toList == j.toList):=by
 rw [ij];cases i;cases j;simp
section
variable {X:Cx}{a b c:Expr}{ta tb tc:TE}{pos:Pos}
def eh {ah:List (Addr×Obj)}{σ:St}{H:Hp}{s:Shared}{Q:VK}{k k':Bool}(I:Inv X ah σ H s)(q:Q (.bl k) H)(e:k=k'):EP X ah σ Q (.bool k') s:=by
 subst e;exact⟨.bl k,H,I,rfl,q⟩
def n_:md X (compareOp .Eq) Xc:=by
 intro ah s σ H x y v u Q I rx ry h;obtain⟨hs,q⟩:=h;cases x with
 | eJ =>
  cases rx;cases y with
  | eJ=>cases ry;exact PySem.EqNone.eq_none_none (eh I q (by simp))
  | bl j=>cases ry;exact PySem.EqNone.eq_none_bool (eh I q (by simp))
  | int j=>obtain⟨t',rfl⟩:=ry;exact PySem.EqNone.eq_none_int (eh I q (by simp))
  | str j=>obtain⟨t',rfl⟩:=ry;exact PySem.EqNone.eq_none_str (eh I q (by simp))
  | _=>exact absurd (show false=true from hs) eG
 | bl i =>
  cases rx;cases y with
  | eJ=>cases ry;exact PySem.EqNone.eq_bool_none (eh I q (by simp))
  | bl j=>cases ry;exact eq_bool (eh I q Kt)
  | str j=>obtain⟨t',rfl⟩:=ry;exact PySem.EqMixed.eq_bool_str (eh I q (by simp))
  | _=>exact absurd (show false=true from hs) eG
 | int i =>
  obtain⟨t,rfl⟩:=rx;cases y with
  | eJ=>cases ry;exact PySem.EqNone.eq_int_none (eh I q (by simp))
  | int j=>obtain⟨t',rfl⟩:=ry;exact eq_int (eh I q Gz)
  | str j=>obtain⟨t',rfl⟩:=ry;exact PySem.EqMixed.eq_int_str (eh I q (by simp))
  | _=>exact absurd (show false=true from hs) eG
 | str i =>
  obtain⟨t,rfl⟩:=rx;cases y with
  | eJ=>cases ry;exact PySem.EqNone.eq_str_none (eh I q (by simp))
  | bl j=>cases ry;exact PySem.EqMixed.eq_str_bool (eh I q (by simp))
  | int j=>obtain⟨t',rfl⟩:=ry;exact PySem.EqMixed.eq_str_int (eh I q (by simp))
  | str j=>obtain⟨t',rfl⟩:=ry;exact eq_str (eh I q Gy)
  | _=>exact absurd (show false=true from hs) eG
 | Bu i =>
  obtain⟨t,rfl⟩:=rx;cases y with
  | Bu j=>obtain⟨t',rfl⟩:=ry;exact PySem.W.eq_bytes (eh I q GB)
  | _=>exact absurd (show false=true from hs) eG
 | _=>cases y <;> exact absurd (show false=true from hs) eG
def pX:md X (compareOp .Lt) (I8 λi j=>.bl (decide (i < j))):=Jf λ_ _ _ _ _ _ _ q=>lt_int q
def Mi:md X (compareOp .LtE) (I8 λi j=>.bl (decide (i<=j))):=Jf λ_ _ _ _ _ _ _ q=>le_int q
def pY:md X (compareOp .Gt) (I8 λi j=>.bl (decide (j < i))):=Jf λ_ _ _ _ _ _ _ q=>gt_int q
def AI:md X (compareOp .In) (λx y H Q=>∃i j,x=.str i/\y=.str j/\Q (.bl (!(Builtin.Str.occurrences j i 0 j.length 1).isEmpty)) H):=by
 intro ah s σ H x y v u Q I rx ry h;obtain⟨i,j,rfl,rfl,q⟩:=h;obtain⟨t,rfl⟩:=rx;obtain⟨t',rfl⟩:=ry;exact in_str (eh I q rfl)
def md.or {f:Value->Value->Sem Value}{r r':R2}(h:md X f r)(h':md X f r'):md X f (λx y H Q=>r x y H Q\/r' x y H Q):=by
 intro ah s σ H x y v u Q I rx ry q;rcases q with q | q
 .exact h ah s σ H x y v u Q I rx ry q
 exact h' ah s σ H x y v u Q I rx ry q
def bL (b:Expr){op:CmpOp}(h:op≠.In:=by decide)(h2:op≠.NotIn:=by decide):behindInMarks op b=false:=by
 have e1:(op == CmpOp.In)=false:=by cases op <;> first | rfl | exact absurd rfl h
 have e2:(op == CmpOp.NotIn)=false:=by cases op <;> first | rfl | exact absurd rfl h2
 cases b <;> simp [behindInMarks,e1,e2]
def hU {op:CmpOp}{r:R2}(ho:md X (compareOp op) r)(ha:PE X a ta)(hb:PE X b tb)(hm:behindInMarks op b=false):PE X (.Compare a [op] [b] pos) (Ov r ta tb):=by
 intro ah s σ H Q I h;exact wpAny_Compare1 (Kz ha hb I h λv u s2 x y H2 I2 rx ry q=>ho ah s2 σ H2 x y v u Q I2 rx ry q) hm
def Lz (t:TE):TT:=λσ H Q=>t σ H λx H'=>XB x λk=>Q k H'
def bU {op:CmpOp}{r:R2}(ho:md X (compareOp op) r)(ha:PE X a ta)(hb:PE X b tb)(hm:behindInMarks op b=false):PT X (.Compare a [op] [b] pos) (Lz (Ov r ta tb)):=by
 intro ah s σ H Q I h;refine wpAny_isTrue_Compare1 (cD (ha ah s σ H _ I h) λv s1 ⟨x,H1,I1,r1,q1⟩=>cD (hb ah s1 σ H1 _ I1 q1) λu s2 ⟨y,H2,I2,r2,q2⟩ =>
  cD (ho ah s2 σ H2 x y v u _ I2 r1 r2 q2) λc s3 ⟨z,H3,I3,r3,k,e,q3⟩=>?_) hm
 subst e;cases r3;exact oR ⟨H3,I3,q3⟩
def BE (K:aV)(x:V)(H:Hp)(k:Bool):Prop :=
 match x with
 | .eJ=>k=false
 | .bl b=>k=b
 | .int i=>k=(i != 0)
 | .str y=>y.length<=sizeLine/\k=((y.length:Int) != 0)
 | .Bu y=>y.size<=sizeLine/\k=((y.size:Int) != 0)
 | .ref p=>(∃xs,aH K H p xs/\k=!xs.isEmpty)\/(∃xs,aW K H p xs/\k=!xs.isEmpty)\/∃kvs,H p=some (.dK kvs)/\k=!kvs.isEmpty
 | _=>False
def yG {κ:Type}{kvs:List (κ×V)}{vs:List (κ×Value)}(r:KV kvs vs):(!vs.isEmpty)=!kvs.isEmpty:=by
 cases r <;> rfl
def qc {xs:List V}{aL:List Value}(r:aT xs aL):(!aL.toArray.isEmpty)=!xs.isEmpty:=by
 cases r <;> simp
def jw:(sizeLine:Nat) < 2 ^ 63:=by rw [sizeLine_eq];decide
def Iv:Tu X (λx H Q=>∃k,BE X.K x H k/\Q k H):=by
 intro ah s σ H x v Q I rx h;obtain⟨k,e,q⟩:=h;have hl:=jw;have hs:sizeLine=16777216:=sizeLine_eq;cases x with
 | eJ =>
  cases rx;have e':k=false:=e;subst e';exact truthy_none ⟨H,I,q⟩
 | bl b =>
  cases rx;have e':k=b:=e;subst e';exact oR ⟨H,I,q⟩
 | int i =>
  obtain⟨t,rfl⟩:=rx;have e':k=(i != 0):=e;subst e';exact PySem.P.truthy_int ⟨H,I,q⟩
 | str y =>
  obtain⟨t,rfl⟩:=rx;obtain⟨hy,e'⟩:y.length<=sizeLine/\k=((y.length:Int) != 0):=e;subst e';exact PySem.P.truthy_str ∅ ⟨H,I.tok _,q⟩
 | Bu y =>
  obtain⟨t,rfl⟩:=rx;obtain⟨hy,e'⟩:y.size<=sizeLine/\k=((y.size:Int) != 0):=e;subst e';exact PySem.W.truthy_bytes ∅ ⟨H,I.tok _,q⟩
 | ref p =>
  cases rx;have e':(∃xs,aH X.K H p xs/\k=!xs.isEmpty)\/(∃xs,aW X.K H p xs/\k=!xs.isEmpty)\/∃kvs,H p=some (.dK kvs)/\k=!kvs.isEmpty:=e;rcases e' with ⟨xs,hx,e'⟩ | ⟨xs,hx,e'⟩ | ⟨kvs,hx,e'⟩
  .subst e';obtain⟨aL,r,pl,hz⟩:=I.list hx;have bc:=r.length;exact wpAny_truthy_list pl.isList (by simp only [bO];omega) ⟨H,I.tok _,by rw [qc r];exact q⟩
  .subst e';obtain⟨aL,r,pl,hz⟩:=I.tuple hx;have bc:=r.length;exact truthy_tuple pl (by simp only [bO];omega) ⟨H,I.tok _,by rw [qc r];exact q⟩
  subst e';obtain⟨hz,hS,vs,r,m⟩:kvs.length<=sizeLine/\(p == sysModules)=false/\∃vs,KV kvs vs/\s.heap.DictOf (aU X.prog X.w) p vs:=I.bQ p _ hx;have bc:kvs.length=vs.length:=a9 r;exact wpAny_truthy_dict hS m ∅ ⟨H,I.tok _,by rw [yG r];exact q⟩
 | _=>exact(show False from e).elim
def gU (ha:PE X a ta)(he:∀whole,isTrue a X.env whole=(do let v <-whole;standAt a.pos;holding [v] (truthy v))) :
  PT X a (λσ H Q=>ta σ H λx H'=>∃k,BE X.K x H' k/\Q k H'):=by
 intro ah s σ H Q I h;refine isTrue_plain (cD (ha ah s σ H _ I h) λv s1 a8=>?_) (he _);obtain⟨x,H1,I1,r1,q1⟩:=a8;exact Iv ah s1 σ H1 x v Q I1 r1 q1
def fV:md X (binaryOp .Add) (λx y H Q=>∃i j,x=.str i/\y=.str j/\i.length+j.length<=sizeLine/\Q (.str (i++j)) H):=by
 intro ah s σ H x y v u Q I rx ry h;obtain⟨i,j,rfl,rfl,hz,q⟩:=h;obtain⟨t,rfl⟩:=rx;obtain⟨t',rfl⟩:=ry;exact add_str (λt' tk=>⟨.str (i++j),H,I.tok _,⟨_,rfl⟩,q⟩) hz
def vals1 {x:V}{us:List Value}(r:aT [x] us):∃u,us=[u]/\RelV x u:=by
 cases r with
 | cons r1 r2=>cases r2;exact⟨_,rfl,r1⟩
def vals2 {x y:V}{us:List Value}(r:aT [x,y] us):∃u w',us=[u,w']/\RelV x u/\RelV y w':=by
 cases r with
 | cons r1 r2 =>
  cases r2 with
  | cons r3 r4=>cases r4;exact⟨_,_,rfl,r1,r3⟩
def Bt (hc:X.calm=true):eZ X (.builtin "max") (λxs H Q=>∃i j,xs=[.int i,.int j]/\Q (.int (if j > i then j else i)) H):=by
 intro ah s σ H xs us Q I r h;obtain⟨i,j,rfl,q⟩:=h;obtain⟨u,w',rfl,⟨t,rfl⟩,⟨t',rfl⟩⟩:=vals2 r;refine max_two_ints (I.ok.hd hc) λh' tk k=>⟨_,H,I.kept k,?_,q⟩;by_cases hj:j > i
 .rw [av hj,av hj];exact⟨_,rfl⟩
 rw [ax hj,ax hj];exact⟨_,rfl⟩
end
structure zh (h:Heap)(x dx C:Addr)(mA:Str->Option Value):Prop where
 obj:h.get? x=some (PySem.W.instObj C dx)
 ns:h.Ns1 dx mA
 ne:dx≠x
def AZ {h:Heap}{dx:Addr}{mA:Str->Option Value}(n:h.Ns1 dx mA):∃od,h.get? dx=some od/\∀name,PySem.W.lookIn name od=some (mA name):=by
 obtain⟨o,es,ep,ho,hd,hk,_,hm⟩:=n;refine⟨o,ho,λname=>?_⟩;have e:=hm name;unfold nsFind findBy at e;rw [<-Array.find?_toList] at e;unfold PySem.W.lookIn;rw [hd];dsimp only
 split
 .rename_i y q
  rw [q] at e;exact congrArg some e
 rename_i q
 rw [q] at e;have a:es.toList.any (·.refKey)=false:=by
  rw [List.any_eq_false];intro y hy;obtain⟨z,t,RH⟩:=hk y (Array.mem_toList_iff.mp hy);simp [DictEntry.refKey,RH]
 have a':¬es.toList.any (·.refKey)=true:=by rw [a];exact eG
 rw [ax a'];exact congrArg some e
def zh.look {h:Heap}{x dx C:Addr}{mA:Str->Option Value}(I:zh h x dx C mA):∃od,PySem.W.InstAt h x (PySem.W.instObj C dx) C (some od)/\∀name,PySem.W.lookIn name od=some (mA name) :=
 let ⟨od,ho,hl⟩:=AZ I.ns
 ⟨od,⟨I.obj,rfl,rfl,ho⟩,hl⟩
section
variable {prog:Program}{w:World}{A:Around}{E:Value->Shared->Prop}{s:Shared}{K:aV}{x dx C f:Addr}{mA:Str->Option Value}{name:Str}{v:Value}
def get_map {expr:Bool}{Q:Value->Shared->Prop}(X:K.In s.heap)(I:zh s.heap x dx C mA)(hg:PySem.W.plainGet K C name=true)(hh:PySem.W.hasDictIn K C=true)
  (ha:PySem.W.findIn K (.ref C) name=some none)(hv:mA name=some v)(YH:PySem.W.handedIn v=true)(h:Q v { s with toks:=s.toks+1 }) :
  wpAny (model prog w) A (getAttr (.ref x) name expr) Q E s:=by
 obtain⟨od,J,hl⟩:=I.look;exact PySem.W.get_value X J (PySem.W.plainGet_of hg).1 (PySem.W.findObj_own hh ha rfl (by rw [hl,hv])) YH h
def DX {pl:Sem Bool}{Q:Value×List Value->Shared->Prop}(X:K.In s.heap)(I:zh s.heap x dx C mA)(hg:PySem.W.plainGet K C name=true)
  (hf:PySem.W.findIn K (.ref C) name=some (some (.ref f)))(ht:PySem.W.isFn K (.ref f)=true)(hv:mA name=none)(h:Q (.ref f,[.ref x]) s) :
  wpAny (model prog w) A (getMethod (.ref x) name pl) Q E s:=by
 obtain⟨od,J,hl⟩:=I.look;exact PySem.W.method_fn X J (PySem.W.plainGet_of hg).1 (PySem.W.plainGet_of hg).2 hf (beq_iff_eq.mp ht) (by show (PySem.W.lookIn name od).map (·.isSome)=some false;rw [hl,hv];rfl) h
def Fi {ns:List Str}{Q:Unit->Shared->Prop}(X:K.In s.heap)(I:zh s.heap x dx C mA)
  (hs:PySem.W.findIn K (.ref C) "__setattr__"=some (some (.builtin "object.__setattr__")))(hp:PySem.W.plainOver K C=true)(ht:PySem.W.takerIn K C name=some none)(hh:PySem.W.hasDictIn K C=true)
  (hw:PySem.Within mA ns)(hsz:ns.length<=sizeLine)
  (h:∀h',zh h' x dx C (λy=>if y=name then some v else mA y)->Heap.SameBut dx s.heap h'->Q () { s with heap:=h',toks:=s.toks+2 }) :
  wpAny (model prog w) A (setAttr (.ref x) name v) Q E s:=by
 obtain⟨od,J,hl⟩:=I.look;refine PySem.W.set_plain X J hs (PySem.W.osa_open (s:={ s with toks:=s.toks+1 }) (r:=none) X J hp ht λb=>?_);obtain⟨cd,hc,A_⟩:=PySem.W.any_some hh;have hx:s.heap.get? x=some ⟨.ref C,some dx,.plain,#[]⟩:=I.obj;refine aJ (aZ (aJ (aJ (wpAny_loadPart hx (aJ (PySem.W.Looks.here (s:={ s with toks:=s.toks+1 }) (PySem.W.looks_clsIn X hc) ?_))))));rw [A_];refine aZ (a:=some dx) (aJ (aZ (aJ ?_)));refine wpAny_nsSet1 (s:={ s with toks:=s.toks+1 }) I.ns λh' HJ M8=>?_;obtain⟨oD,esD,epD,Y1,Zw,ZD⟩:=HJ.count (PySem.Within.cons name v hw);refine aJ (wpAny_lookBehind Y1 (by rw [Zw];exact pastItsLine_dict (cO ZD (by rw [cX];omega))) ?_);exact aZ (h _ ⟨(M8.2 _ (fk I.ne)).trans I.obj,HJ,I.ne⟩ M8)
def Dx {R:Result->Shared->Prop}{vs:List Value}{kw:List (Str×Value)}(X:K.In s.heap)(hm:PySem.W.makesIn K C=true)
  (hi:PySem.W.findIn K (.ref C) "__init__"=some (some (.ref f)))(hf:PySem.W.typeIn K (.ref f)=some (.type "function"))
  (h:codeAny (model prog w) (A.under (.builtin "type.__call__" ⟨.ref C::vs,kw⟩)) (.call (.ref f) ⟨.ref (s.heap.objs.size+1)::vs,kw⟩) (PySem.W.InitBack (s.heap.objs.size+1) R)
   { s with heap:=(s.heap.push PySem.W.emptyDict).push (PySem.W.instObj C s.heap.objs.size) }) :
  codeAny (model prog w) A (.call (.ref C) ⟨vs,kw⟩) R s:=by
 obtain⟨hh,g,d,t,os⟩:=s;exact PySem.W.make_core (PySem.W.makes_of X hm) (PySem.W.looks_findIn X hi) (λself=>PySem.W.bind_fn X self hf) (.inl rfl) h
end
def c_ (f:Str)(v:V):List (Str×V)->List (Str×V)
 | []=>[(f,v)]
 | (g,x)::r=>if g=f then (g,v)::r else (g,x)::c_ f v r
theorem og (f g:Str)(v:V):∀fs:List (Str×V),(c_ f v fs).lookup g=if g=f then some v else fs.lookup g
 | []=>by
  show List.lookup g [(f,v)]=_;by_cases h:g=f
  .have hb:(g == f)=true:=beq_iff_eq.mpr h;simp only [List.lookup,hb,av h]
  have hb:(g == f)=false:=i3.mpr h;simp only [List.lookup,hb,ax h]
 | (k,x)::r=>by
  have ih:=og f g v r;rw [show c_ f v ((k,x)::r)=(if k=f then (k,v)::r else (k,x)::c_ f v r) from rfl];by_cases hk:k=f
  .rw [av hk];by_cases h:g=k
   .have hb:(g == k)=true:=beq_iff_eq.mpr h;simp only [List.lookup,hb,av (h.trans hk)]
   have hb:(g == k)=false:=i3.mpr h;simp only [List.lookup,hb,ax (λe:g=f=>h (e.trans hk.symm))]
  rw [ax hk];by_cases h:g=k
  .have hb:(g == k)=true:=beq_iff_eq.mpr h;simp only [List.lookup,hb,ax (λe:g=f=>hk (h.symm.trans e))]
  have hb:(g == k)=false:=i3.mpr h;simp only [List.lookup,hb];exact ih
theorem mY (f:Str)(v:V):∀fs:List (Str×V),f∈(c_ f v fs).map (·.1)/\∀g,g∈fs.map (·.1)->g∈(c_ f v fs).map (·.1)
 | []=>⟨by simp [c_],λg h=>by simp at h⟩
 | (k,x)::r=>by
  obtain⟨i1,i2⟩:=mY f v r;rw [show c_ f v ((k,x)::r)=(if k=f then (k,v)::r else (k,x)::c_ f v r) from rfl];by_cases hk:k=f
  .rw [av hk];subst hk;exact⟨by simp,λg h=>by simpa using h⟩
  rw [ax hk];refine⟨?_,λg h=>?_⟩
  .rw [bu];exact bC _ i1
  rw [bu] at h ⊢;rcases aQ.mp h with e | e
  .exact aQ.mpr (.inl e)
  exact bC _ (i2 g e)
theorem oh (f:Str)(v:V):∀fs:List (Str×V),(c_ f v fs).length<=fs.length+1
 | []=>by simp [c_]
 | (k,x)::r=>by
  have ih:=oh f v r;rw [show c_ f v ((k,x)::r)=(if k=f then (k,v)::r else (k,x)::c_ f v r) from rfl];by_cases hk:k=f
  .rw [av hk,cX,cX];omega
  rw [ax hk,cX,cX];omega
def iY.some_of {v:V}{o:Option Value}(r:iY (some v) o):∃u,o=some u/\RelV v u:=by
 cases o with
 | none=>exact(show False from r).elim
 | some u=>exact⟨u,rfl,r⟩
def iY.none_of {o:Option Value}(r:iY none o):o=none:=by
 cases o with
 | none=>rfl
 | some u=>exact(show False from r).elim
def Ba {v:V}{u:Value}(r:RelV v u):PySem.W.handedIn u=true:=by
 cases v with
 | eJ=>cases (show u=Value.none from r);rfl
 | bl b=>cases (show u=Value.bool b from r);rfl
 | int i=>obtain⟨t,e⟩:=(show ∃t,u=Value.int i t from r);cases e;rfl
 | str x=>obtain⟨t,e⟩:=(show ∃t,u=Value.str x t from r);cases e;rfl
 | Bu b=>obtain⟨t,e⟩:=(show ∃t,u=Value.bytes b t from r);cases e;rfl
 | Kg b=>obtain⟨t,e⟩:=(show ∃t,u=Value.float b t from r);cases e;rfl
 | ref a=>cases (show u=Value.ref a from r);rfl
 | ty n=>cases (show u=Value.type n from r);rfl
section
variable {P:Program}{w:World}{H H':Hp}{h h':Heap}{a C dx:Addr}{fs E2:List (Str×V)}
def uK (bQ:j6 P w H h)(e:H a=some (.ins C dx fs)):∃mA,zh h a dx C mA/\(∀f,iY (fs.lookup f) (mA f))/\PySem.Within mA (fs.map (·.1))/\fs.length<=1000/\H dx=some (.own a):=by
 obtain⟨d,z,ne,ob,mA,n,r,q⟩:=(show bY P w H h a (.ins C dx fs) from bQ a _ e);exact⟨mA,⟨ob,n,ne⟩,r,q,z,d⟩
end
structure BJ (K:aV)(C:Addr):Prop where
 pg:PySem.W.plainGet K C Str.empty=true
 hd:PySem.W.hasDictIn K C=true
 po:PySem.W.plainOver K C=true
 sa:PySem.W.findIn K (.ref C) "__setattr__"=some (some (.builtin "object.__setattr__"))
def BJ.get {K:aV}{C:Addr}(c:BJ K C)(f:Str):PySem.W.plainGet K C f=true:=c.pg
def dw (K:aV)(C:Addr)(f:Str):Prop:=PySem.W.findIn K (.ref C) f=some none
def dw.Lx {K:aV}{C:Addr}{f:Str}(n:dw K C f):PySem.W.takerIn K C f=some none:=by
 unfold PySem.W.takerIn;rw [show PySem.W.findIn K (.ref C) f=some none from n];rfl
structure Con (K:aV)(C:Addr)(f:Str)(v:V)(u:Value):Prop where
 at_:PySem.W.findIn K (.ref C) f=some (some u)
 rel:RelV v u
 get:PySem.W.specialIn K u "__get__"=some none
 cp:PySem.W.copiedNames.contains f=false
structure Meth (K:aV)(C:Addr)(m:Str)(f:Addr):Prop where
 at_:PySem.W.findIn K (.ref C) m=some (some (.ref f))
 fn:PySem.W.isFn K (.ref f)=true
 kp:PySem.W.keepIn K (.ref f)=true
section
variable {X:Cx}{ah:List (Addr×Obj)}{σ:St}{H:Hp}{s:Shared}{a C dx:Addr}{fs:List (Str×V)}{f:Str}{v:V}{A:Around}{E:Value->Shared->Prop}
def yN {b:Bool}{Q:Value->Shared->Prop}(I:Inv X ah σ H s)(e:H a=some (.ins C dx fs))(c:BJ X.K C)(n:dw X.K C f)(l:fs.lookup f=some v)
  (h:∀u s',Inv X ah σ H s'->RelV v u->Q u s'):wpAny (model X.prog X.w) A (getAttr (.ref a) f b) Q E s:=by
 obtain⟨mA,O,r,_,_,_⟩:=uK I.bQ e;obtain⟨u,hu,ru⟩:=iY.some_of (v:=v) (o:=mA f) (by rw [<-l];exact r f);exact get_map I.xb O (c.get f) c.hd n hu (Ba ru) (h u _ (I.tok _) ru)
def qj {m:Str}{g:Addr}{pl:Sem Bool}{Q:Value×List Value->Shared->Prop}(I:Inv X ah σ H s)(e:H a=some (.ins C dx fs))(c:BJ X.K C)(k:Meth X.K C m g)(l:fs.lookup m=none)
  (h:Q (.ref g,[.ref a]) s):wpAny (model X.prog X.w) A (getMethod (.ref a) m pl) Q E s:=by
 obtain⟨mA,O,r,_,_,_⟩:=uK I.bQ e;have hn:mA m=none:=iY.none_of (by rw [<-l];exact r m);exact DX I.xb O (c.get m) k.at_ k.fn hn h
def xP {y:V}{u:Value}{Q:Unit->Shared->Prop}(I:Inv X ah σ H s)(e:H a=some (.ins C dx fs))(c:BJ X.K C)(n:dw X.K C f)(hl:fs.length < 1000)(ry:RelV y u)
  (h:∀s',Inv X ah σ (upd H a (.ins C dx (c_ f y fs))) s'->Q () s'):wpAny (model X.prog X.w) A (setAttr (.ref a) f u) Q E s:=by
 obtain⟨mA,O,r,wi,_,ho⟩:=uK I.bQ e;have hz:(fs.map (·.1)).length<=sizeLine:=by rw [aB,sizeLine_eq];omega
 refine Fi I.xb O c.sa c.po n.Lx c.hd wi hz λh' O' sb=>h _ ?_;have hd:∃o,h'.get? dx=some o:=let ⟨o,_,_,e',_⟩:=O'.ns;⟨o,e'⟩;refine I.write (x:=a) (e:=dx) (by rw [e];exact True.intro) (.inr ho) (λb q hb z=>(sb.2 b hb).trans z) hd ?_;refine⟨by rw [ai O.ne];exact ho,?_,O.ne,O'.obj,_,O'.ns,λg=>?_,λg hg=>?_⟩
 .have:=oh f y fs;omega
 .show iY ((c_ f y fs).lookup g) (if g=f then some u else mA g);rw [og];by_cases q:g=f
  .rw [av q,av q];exact ry
  rw [ax q,ax q];exact r g
 by_cases q:g=f
 .rw [q];exact(mY f y fs).1
 refine(mY f y fs).2 g (wi g λz=>hg ?_);show (if g=f then some u else mA g)=none;rw [ax q];exact z
def Inv.made (I:Inv X ah σ H s):Inv X ah σ (upd (upd H s.heap.objs.size (.own (s.heap.objs.size+1))) (s.heap.objs.size+1) (.ins C s.heap.objs.size []))
  { s with heap:=(s.heap.push PySem.W.emptyDict).push (PySem.W.instObj C s.heap.objs.size) }:=by
 have e1:(s.heap.push PySem.W.emptyDict).get? s.heap.objs.size=some PySem.W.emptyDict:=cV s.heap rfl;have e2:((s.heap.push PySem.W.emptyDict).push (PySem.W.instObj C s.heap.objs.size)).get? (s.heap.objs.size+1)=some (PySem.W.instObj C s.heap.objs.size):=by
  have:=cV (s.heap.push PySem.W.emptyDict) (o:=PySem.W.instObj C s.heap.objs.size) rfl;rwa [jm] at this
 have e3:(s.heap.push PySem.W.emptyDict).Ns s.heap.objs.size (λ_=>none):=⟨PySem.W.emptyDict,#[],_,e1,rfl,(λe he=>absurd he (by simp)),λ_=>rfl⟩;have I1:=I.laid (a:=s.heap.objs.size) (o:=.own (s.heap.objs.size+1)) (h':=s.heap.push PySem.W.emptyDict) (t':=s.toks) (λb u q=>bS _ q) (aF _) ⟨_,e1⟩;refine I1.laid (a:=s.heap.objs.size+1) (o:=.ins C s.heap.objs.size []) (t':=s.toks) (λb u q=>bS _ q) (Nat.le_of_eq (jm _ _)) ?_;have ne:s.heap.objs.size≠s.heap.objs.size+1:=bM (kO _);refine⟨by rw [ai ne,ae],cT _,ne,e2,λ_=>none,(Heap.Ns1.of_empty e3).at λo q=>bS _ q,λ_=>True.intro,λy hy=>absurd rfl hy⟩
def GU {prog:Program}{w:World}{env:Env}{e:Expr}{f:Str}{pos:Pos}{s:Shared}{Q:Value->Shared->Prop}(hb:attributeBase e f env (eval e env)=eval e env)
  (h:wpAny (model prog w) A (eval e env) (λo s₁=>wpAny (model prog w) A (getAttr o f true) Q E s₁) E s):wpAny (model prog w) A (eval (.Attribute e f pos) env) Q E s :=
 Attribute_any_ h (by rw [arm_eval_Attribute,hb])
end
inductive N9 (K:aV)(H:Hp)(f:Str)(x:V)(R:V->Prop):Prop
|mk(a C dx:Addr)(fs:List (Str×V))(v:V)(e:x=.ref a)(h:H a=some (.ins C dx fs))(c:BJ K C)(n:dw K C f)(l:fs.lookup f=some v)(q:R v)
inductive Wi (K:aV)(H:Hp)(f:Str)(x:V)(R:Addr->Addr->Addr->List (Str×V)->Prop):Prop
|mk(a C dx:Addr)(fs:List (Str×V))(e:x=.ref a)(h:H a=some (.ins C dx fs))(c:BJ K C)(n:dw K C f)(l:fs.length < 1000)(q:R a C dx fs)
def PR (K:aV)(ta:TE)(f:Str):TE:=λσ H Q=>ta σ H λx H1=>N9 K H1 f x λv=>Q v H1
def P5 (K:aV)(ta tv:TE)(f:Str):TS:=λD σ H=>tv σ H λy H1=>ta σ H1 λx H2=>Wi K H2 f x λa C dx fs=>D.nx σ (upd H2 a (.ins C dx (c_ f y fs)))
section
variable {X:Cx}{o e value:Expr}{f:Str}{pos pos' mK:Pos}{ta tv:TE}
def df (he:PE X e ta)(hb:attributeBase e f X.env (eval e X.env)=eval e X.env):PE X (.Attribute e f pos) (PR X.K ta f):=by
 intro ah s σ H Q I h;refine GU hb (cD (he ah s σ H _ I h) λu s1 a8=>?_);obtain⟨x,H1,I1,rx,a,C,dx,fs,v,ex,ea,c,n,l,q⟩:=a8;subst ex;obtain rfl:u=Value.ref a:=rx;exact yN I1 ea c n l λu' s2 I2 ru=>⟨v,H1,I2,ru,q⟩
def fC (ha:PE X o ta)(hv:PE X value tv)(hs:swapsWith value (some (.Attribute o f pos')) pos.line X.env=pure false):PS X (.Assign [.Attribute o f pos'] value pos) (P5 X.K ta tv f):=by
 intro ah s σ H D I h;refine plainObj_wpAny_Assign_Attribute (cD (hv ah s σ H _ I h) λu s1 a8=>?_) hs;obtain⟨y,H1,I1,ry,q⟩:=a8;refine cD (ha ah s1 σ H1 _ I1 q) λov s2 a8=>?_;obtain⟨x,H2,I2,rx,a,C,dx,fs,ex,ea,c,n,l,q2⟩:=a8;subst ex;obtain rfl:ov=Value.ref a:=rx;exact xP I2 ea c n l ry λs3 I3=>⟨σ,_,I3,q2⟩
def Hv {pl:Sem Bool}{m:Str}{apos:Pos}{args:List Expr}{ah:List (Addr×Obj)}{s:Shared}{σ:St}{H:Hp}{Q:Value->Shared->Prop}{te:TE}(he:PE X e te)(I:Inv X ah σ H s)
  (h:te σ H λx H1=>∃a C dx fs g,x=.ref a/\H1 a=some (.ins C dx fs)/\BJ X.K C/\Meth X.K C m g/\fs.lookup m=none /\
   ∀s1,Inv X ah σ H1 s1->wpAny (model X.prog X.w) X.A (callWith pos (.ref g) [.ref a] (backTo pos (starEach args X.env)) (backToKw pos (keywordEach [] X.env))) Q X.xe s1)
  (ht:eval (.Call (.Attribute e m apos) args [] pos) X.env=(do
   let ov <-eval e X.env
   standAt apos.atName
   let (f,first) <-holding [ov] (getMethod ov m pl)
   callWith pos f first (backTo pos (starEach args X.env)) (backToKw pos (keywordEach [] X.env)))) :
  wpAny (model X.prog X.w) X.A (eval (.Call (.Attribute e m apos) args [] pos) X.env) Q X.xe s:=by
 refine PySem.W.methodCall_KW (pl:=pl) (cD (he ah s σ H _ I h) λu s1 a8=>?_) ht;obtain⟨x,H1,I1,rx,a,C,dx,fs,g,ex,ea,c,k,l,q⟩:=a8;subst ex;obtain rfl:u=Value.ref a:=rx;exact qj I1 ea c k l (q s1 I1)
end
section
variable {X:Cx}{ah:List (Addr×Obj)}{σ:St}{H:Hp}{s:Shared}{A:Around}{E:Value->Shared->Prop}{Q:Value->Shared->Prop}{c:Value}{b:Bool}
inductive qL (K:aV)(H:Hp):V->Value->Prop where
 | eJ:qL K H .eJ (.type "NoneType")
 | bl (x:Bool):qL K H (.bl x) (.type "bool")
 | int (i:Int):qL K H (.int i) (.type "int")
 | str (x:Str):qL K H (.str x) (.type "str")
 | Kg (x:UInt64):qL K H (.Kg x) (.type "float")
 | lst {a:Addr}{xs:List V}(e:H a=some (.lst xs)):qL K H (.ref a) (.type "list")
 | i_ {a:Addr}{o:Obj}{xs:List V}(e:H a=some (.i_ o (.lst xs))):qL K H (.ref a) (.type "list")
 | tup {a:Addr}{xs:List V}(e:H a=some (.tup xs)):qL K H (.ref a) (.type "tuple")
 | dK {a:Addr}{kvs:List (aI×V)}(e:H a=some (.dK kvs)):qL K H (.ref a) (.type "dict")
 | dT {a:Addr}{kvs:List (List aI×V)}(e:H a=some (.dT kvs)):qL K H (.ref a) (.type "dict")
 | ins {a C dx:Addr}{fs:List (Str×V)}(e:H a=some (.ins C dx fs))(cl:BJ K C)(ha:PySem.W.findIn K (.ref C) "__class__"=some (some (.builtin "object.__class__")))
   (hn:PySem.W.specialIn K (.builtin "object.__class__") "__get__"=some (some (.builtin "getset_descriptor.__get__")))(htk:PySem.W.takesIn K (.builtin "object.__class__")=some true)
   (hm:PySem.W.mroIn K C (.type "object")=some true):qL K H (.ref a) (.ref C)
end
structure dX (k:Nat)(A:Around):Prop where
 hd:A.handled=none
 dp:A.depth+3 * k+5 < recursionLimit
 un:A.units+16 * k+200 < cLine
def dX.mono {j k:Nat}{A:Around}(r:dX k A)(h:j<=k):dX j A:=⟨r.hd,by have:=r.dp;omega,by have:=r.un;omega⟩
theorem dX.deeper {k:Nat}{A:Around}(r:dX (k+1) A)(env:Env):dX k (A.deeper env) :=
 ⟨r.hd,by have:=r.dp;show A.depth+1+3 * k+5 < _;omega,by have:=r.un;show A.units+3+16 * k+200 < _;omega⟩
theorem dX.in1 {k:Nat}{A:Around}(r:dX (k+1) A):dX k A.in1 :=
 ⟨r.hd,by have:=r.dp;show A.depth+3 * k+5 < _;omega,by have:=r.un;show A.units+1+16 * k+200 < _;omega⟩
def yz {A:Around}{C:Addr}{us:List Value}{kw:List (Str×Value)}:(A.under (.builtin "type.__call__" ⟨.ref C::us,kw⟩)).depth=A.depth+1:=by
 first | rfl | simp [Around.under,Code.weight,Code.isCreation,Code.isGuard,Code.isCaller,Code.frames,Code.isFrame,guardIds]
def yy {A:Around}{C:Addr}{us:List Value}{kw:List (Str×Value)}:(A.under (.builtin "type.__call__" ⟨.ref C::us,kw⟩)).units=A.units+1:=by
 first | rfl | simp [Around.under,Code.cUnits,Code.frames,Code.isFrame]
def dX.make {k:Nat}{A:Around}(r:dX (k+1) A)(C:Addr)(us:List Value)(kw:List (Str×Value)):dX k (A.under (.builtin "type.__call__" ⟨.ref C::us,kw⟩)) :=
 ⟨r.hd,by have:=r.dp;rw [yz];omega,by have:=r.un;rw [yy];omega⟩
theorem dX.depth {k:Nat}{A:Around}(r:dX k A):A.depth < recursionLimit:=by have:=r.dp;omega
theorem dX.units {k:Nat}{A:Around}(r:dX k A):A.units+64 < cLine:=by have:=r.un;omega
def pF:TA:=λ_ H Q=>Q [] H
def fq (ta:TE)(tr:TA):TA:=λσ H Q=>ta σ H λx H1=>tr σ H1 λxs H2=>Q (x::xs) H2
section
variable {X:Cx}{e:Expr}{es:List Expr}{te:TE}{t:TA}{pos:Pos}
def aj:PA X [] pF:=λ_ _ _ _ H Q I h=>Calls.spliced_nil ⟨[],H,I,.nil,h⟩
def ab (ha:PE X e te)(hr:PA X es t)(hs:starEach (e::es) X.env=(false,eval e X.env)::starEach es X.env:=by rfl):PA X (e::es) (fq te t):=by
 intro pos ah s σ H Q I h;rw [hs];show wpAny _ _ (spliced ((false,eval e X.env)::backTo pos (starEach es X.env))) _ _ s;refine mD (cD (ha ah s σ H _ I h) λu s1 a8=>?_);obtain⟨x,H1,I1,r1,q1⟩:=a8;refine cD (hr pos ah s1 σ H1 _ I1 q1) λus s2 a8=>?_;obtain⟨xs,H2,I2,r2,q2⟩:=a8;exact⟨x::xs,H2,I2,.cons r1 r2,q2⟩
def qT (t:TA):TE:=λσ H Q=>t σ H λxs H1=>xs.length<=sizeLine/\∀p,H1 p=none->Q (.ref p) (upd H1 p (.tup xs))
def LJ (t:TA):TE:=λσ H Q=>t σ H λxs H1=>xs.length<=sizeLine/\∀p,H1 p=none->Q (.ref p) (upd H1 p (.lst xs))
def aP {x1}(h:PA X es t):PE X (.Tuple es x1 pos) (qT t):=by
 intro ah s σ H Q I hq;refine wpAny_Tuple_spliced (cD (h pos ah s σ H _ I hq) λus s1 a8=>?_);obtain⟨xs,H1,I1,r,z,q⟩:=a8;refine⟨by rw [<-r.length];exact z,?_⟩;have hf:H1 s1.heap.objs.size=none:=I1.bQ.fresh (aF _);refine⟨.ref s1.heap.objs.size,upd H1 s1.heap.objs.size (.tup xs),I1.laid (t':=s1.toks) (λb u e=>bS _ e) (aF _) ?_,rfl,q _ hf⟩;exact⟨z,us,r,⟨_,cV _ rfl,rfl,_,rfl⟩⟩
def bD (h:PA X es t):PE X (.List es pos) (LJ t):=by
 intro ah s σ H Q I hq;refine wpAny_List_spliced (cD (h pos ah s σ H _ I hq) λus s1 a8=>?_);obtain⟨xs,H1,I1,r,z,q⟩:=a8;refine⟨by rw [<-r.length];exact z,?_⟩;have hf:H1 s1.heap.objs.size=none:=I1.bQ.fresh (aF _);refine⟨.ref s1.heap.objs.size,upd H1 s1.heap.objs.size (.lst xs),I1.laid (t':=s1.toks) (λb u e=>bS _ e) (aF _) ?_,rfl,q _ hf⟩;exact⟨z,us,0,r,cV _ rfl⟩
end
abbrev Sp:=List V->Hp->VK->XK->Prop
abbrev xp:=List Env->Hp->Shared->XK->Value->Shared->Prop
structure oA (P:Program)(w:World)(K:aV)(mg:Str->Option Value)(base:Heap)(A:Around)(outer:List Env)(s:Shared)(H:Hp):Prop where
 frames:A.frames=some outer
 mod:Mod K mg base
 bs:∀b o,base.get? b=some o->s.heap.get? b=some o/\H b=none
 E6:base.objs.size<=s.heap.objs.size
 nq:s.heap.FunFrames base outer
 HQ:∀b∈Bd outer,H b=none
 bQ:j6 P w H s.heap
 bare:AllBare s.gens
def CE (outer:List Env)(P:Program)(w:World)(H:Hp)(s:Shared)(Q:VK)(u:Value)(s':Shared):Prop :=
 ∃v H',s'.os=s.os/\AllBare s'.gens/\Un (Bd outer) [] H H' s.heap s'.heap/\j6 P w H' s'.heap/\RelV v u/\Q v H'
def CR (CX:xp)(outer:List Env)(P:Program)(w:World)(H:Hp)(s:Shared)(Q:VK)(E:XK)(r:Result)(s':Shared):Prop :=
 match r with
 | .ok (.ret u)=>CE outer P w H s Q u s'
 | .ok _=>False
 | .error e=>CX outer H s E e s'
structure bI (P:Program)(w:World)(K:aV)(mg:Str->Option Value)(base:Heap)(CX:xp) (k:Nat)(f:Addr)(fd:FuncData) (ps:List Str)(sp:Sp):Prop where
 len:∀vs H Q E,sp vs H Q E->vs.length=ps.length
 run:∀(A:Around)(outer:List Env)(s:Shared)(H:Hp)(args:Args)(us:List Value)(vs:List V)(Q:VK)(E:XK),dX k A->oA P w K mg base A outer s H->BindsTo s fd args (ps.zip us)->aT vs us->sp vs H Q E ->
  codeAny (model P w) A (.call (.ref f) args) (CR CX outer P w H s Q E) s
theorem bI.mono {P:Program}{w:World}{K:aV}{mg:Str->Option Value}{base:Heap}{CX:xp}{j k:Nat}{f:Addr}{fd:FuncData}{ps:List Str}{sp:Sp}(F:bI P w K mg base CX j f fd ps sp)(h:j<=k) :
  bI P w K mg base CX k f fd ps sp:=⟨F.len,λA outer s H args us vs Q E hr=>F.run A outer s H args us vs Q E (hr.mono h)⟩
def bI.imp {P:Program}{w:World}{K:aV}{mg:Str->Option Value}{base:Heap}{CX:xp}{k:Nat}{f:Addr}{fd:FuncData}{ps:List Str}{sp T_:Sp}(F:bI P w K mg base CX k f fd ps sp)
  (h:∀vs H Q E,T_ vs H Q E->sp vs H Q E):bI P w K mg base CX k f fd ps T_ :=
 ⟨λvs H Q E q=>F.len vs H Q E (h _ _ _ _ q),λA outer s H args us vs Q E hr he hb hv hs=>F.run A outer s H args us vs Q E hr he hb hv (h _ _ _ _ hs)⟩
def oA.make {P:Program}{w:World}{K:aV}{mg:Str->Option Value}{base:Heap}{A:Around}{outer:List Env}{s:Shared}{H:Hp}(e:oA P w K mg base A outer s H)(C:Addr)(us:List Value)(kw:List (Str×Value)) :
  oA P w K mg base (A.under (.builtin "type.__call__" ⟨.ref C::us,kw⟩)) outer s H:=⟨by first | exact e.frames | (simpa [Around.under,Code.envs,Code.isFrame,pushEnvs] using e.frames),e.mod,e.bs,e.E6,e.nq,e.HQ,e.bQ,e.bare⟩
theorem oA.in1 {P:Program}{w:World}{K:aV}{mg:Str->Option Value}{base:Heap}{A:Around}{outer:List Env}{s:Shared}{H:Hp}(e:oA P w K mg base A outer s H) :
  oA P w K mg base A.in1 outer s H:=⟨e.frames,e.mod,e.bs,e.E6,e.nq,e.HQ,e.bQ,e.bare⟩
section
variable {X:Cx}{ah:List (Addr×Obj)}{σ:St}{H:Hp}{s s':Shared}
def Inv.Kl (I:Inv X ah σ H s):oA X.prog X.w X.K X.mg X.base X.A X.stack s H :=
 ⟨I.ok.frames,I.ok.mod,I.bs,cO I.ok.E6 I.sz,I.stack,I.zC,I.bQ,I.bare⟩
def Inv.after {Q:VK}{u:Value}(I:Inv X ah σ H s)(h:CE X.stack X.prog X.w H s Q u s'):EP X ah σ Q u s':=by
 obtain⟨v,H',os,bare,un,bQ,r,q⟩:=h;obtain⟨hh,g,d,t,Xj⟩:=s';obtain rfl:Xj=s.os:=os;exact⟨v,H',I.call (h':=hh) (g':=g) (d':=d) (t':=t) (ch:=[]) un bQ bare (λb z=>absurd z (by simp)),r,q⟩
end
def G_ (sp:Sp)(qS:List V)(E:XK)(t:TA):TE:=λσ H Q=>t σ H λvs H1=>sp (vs++qS) H1 Q E
def LH (C:Addr)(m:Str)(sp:Sp)(qS:List V)(E:XK)(ta:TE)(t:TA):TE:=λσ H Q=>ta σ H λx H1=>∃a dx fs,x=.ref a/\H1 a=some (.ins C dx fs)/\fs.lookup m=none /\
 t σ H1 λvs H2=>sp (x::(vs++qS)) H2 Q E
def LI (C:Addr)(sp:Sp)(qS:List V)(E:XK)(t:TA):TE:=λσ H Q=>t σ H λvs H1=>∀x dx,H1 x=none->H1 dx=none->dx≠x ->
 sp (.ref x::(vs++qS)) (upd (upd H1 dx (.own x)) x (.ins C dx [])) (λv H2=>v=.eJ/\Q (.ref x) H2) E
def Binds (K:aV)(fd:FuncData) (ps:List Str)(ds:List Value):Prop :=
 ∀(s:Shared)(us:List Value),K.In s.heap->(us++ds).length=ps.length->BindsTo s fd ⟨us,[]⟩ (ps.zip (us++ds))
def Binds.all {K:aV}{fd:FuncData}{ps:List Str}(h:∀us:List Value,us.length=ps.length->bindArgs fd ⟨us,[]⟩=pure (ps.zip us)):Binds K fd ps []:=λs us _ hl=>by
 rw [eF] at hl ⊢;exact .of_eq (h us hl)
def Passes (CX:xp)(X:Cx)(E:XK):Prop:=∀(ah:List (Addr×Obj))(σ:St)(H:Hp)(s:Shared)(e:Value)(s':Shared),Inv X ah σ H s->CX X.stack H s E e s'->X.xe e s'
section
variable {X:Cx}{CX:xp}{k:Nat}{f C:Addr}{fd:FuncData}{ps:List Str}{sp:Sp}{qS:List V}{ds:List Value}{E:XK}{x m:Str}{p pos apos:Pos}{e o:Expr}{es:List Expr}{ta:TE}{t:TA}
def CJ {ah:List (Addr×Obj)}{σ:St}{H:Hp}{s:Shared}{Q:VK}{us:List Value}{vs:List V}(F:bI X.prog X.w X.K X.mg X.base CX k f fd ps sp)(hr:dX k X.A)(hb:Binds X.K fd ps ds)(hd:aT qS ds)(hx:Passes CX X E)
  (I:Inv X ah σ H s)(r:aT vs us)(h:sp (vs++qS) H Q E):wpAny (model X.prog X.w) X.A (call (.ref f) us) (EP X ah σ Q) X.xe s:=by
 have r2:aT (vs++qS) (us++ds):=r.append hd;have hl:(us++ds).length=ps.length:=by rw [<-r2.length];exact F.len _ _ _ _ h
 refine ji (jj (F.run X.A X.stack s H ⟨us,[]⟩ (us++ds) (vs++qS) Q E hr I.Kl (hb s us I.xb hl) r2 h) λr s' hq=>?_);cases r with
 | error e=>exact hx ah σ H s e s' I hq
 | ok fl =>
  cases fl with
  | ret u=>exact I.after hq
  | next=>exact False.elim hq
  | brk=>exact False.elim hq
  | cont=>exact False.elim hq
def FR (F:bI X.prog X.w X.K X.mg X.base CX k f fd ps sp)(hr:dX k X.A)(hg:Gl X x)(hm:X.mg x=some (.ref f))(hk:PySem.W.keepIn X.K (.ref f)=true)(hb:Binds X.K fd ps ds)(hd:aT qS ds)(hx:Passes CX X E)
  (ha:PA X (e::es) t)(A9:(x == ("__debug__":Str))=false:=by decide)(he:starEach (e::es) X.env=(false,eval e X.env)::starEach es X.env:=by rfl)(va:(backTo pos (starEach es X.env)).any (·.1)=false:=by rfl) :
  PE X (.Call (.Name x p) (e::es) [] pos) (G_ sp qS E t):=by
 intro ah s σ H Q I h;refine nV (uI I hg hm ?_ A9);refine PySem.W.callWith_K (h₀:=X.base) I.ok.mod.MS hk (cD (ha pos ah s σ H _ I h) λus s1 a8=>?_) he va;obtain⟨vs,H1,I1,r,q⟩:=a8;refine⟨I1.xb,?_⟩;exact CJ F hr hb hd hx I1 r q
def zX {pl:Sem Bool}(he:PE X o ta)(c:BJ X.K C)(hm:Meth X.K C m f)(F:bI X.prog X.w X.K X.mg X.base CX k f fd ps sp)(hr:dX k X.A)(hb:Binds X.K fd ps ds)(hd:aT qS ds)(hx:Passes CX X E)(ha:PA X (e::es) t)
  (u_:starEach (e::es) X.env=(false,eval e X.env)::starEach es X.env:=by rfl)(va:(backTo pos (starEach es X.env)).any (·.1)=false:=by rfl)
  (ht:eval (.Call (.Attribute o m apos) (e::es) [] pos) X.env=(do
   let ov <-eval o X.env
   standAt apos.atName
   let (f,first) <-holding [ov] (getMethod ov m pl)
   callWith pos f first (backTo pos (starEach (e::es) X.env)) (backToKw pos (keywordEach [] X.env))):=by rfl) :
  PE X (.Call (.Attribute o m apos) (e::es) [] pos) (LH C m sp qS E ta t):=by
 intro ah s σ H Q I h;refine PySem.W.methodCall_KW (pl:=pl) (cD (he ah s σ H _ I h) λu s1 a8=>?_) ht;obtain⟨x,H1,I1,rx,a,dx,fs,ex,ea,l,q⟩:=a8;subst ex;obtain rfl:u=Value.ref a:=rx;refine qj I1 ea c hm l ?_;refine PySem.W.callWith_K (first:=[.ref a]) (h₀:=X.base) I.ok.mod.MS hm.kp (cD (ha pos ah s1 σ H1 _ I1 q) λus s2 a8=>?_) u_ va;obtain⟨vs,H2,I2,r,q2⟩:=a8;refine⟨I2.xb,?_⟩;exact CJ (us:=.ref a::us) (vs:=.ref a::vs) F hr hb hd hx I2 (.cons rfl r) q2
structure Mk (K:aV)(C f:Addr):Prop where
 makes:PySem.W.makesIn K C=true
 init:PySem.W.findIn K (.ref C) "__init__"=some (some (.ref f))
 fn:PySem.W.isFn K (.ref f)=true
 kp:PySem.W.keepIn K (.ref C)=true
def CI {ah:List (Addr×Obj)}{σ:St}{H:Hp}{s:Shared}{Q:VK}{us:List Value}{vs:List V}(M:Mk X.K C f)(F:bI X.prog X.w X.K X.mg X.base CX k f fd ps sp)(hr:dX (k+1) X.A)(hb:Binds X.K fd ps ds)(hd:aT qS ds)
  (hx:Passes CX X E)(I:Inv X ah σ H s)(r:aT vs us)
  (h:∀x dx,H x=none->H dx=none->dx≠x->sp (.ref x::(vs++qS)) (upd (upd H dx (.own x)) x (.ins C dx [])) (λv H2=>v=.eJ/\Q (.ref x) H2) E) :
  wpAny (model X.prog X.w) X.A (call (.ref C) us) (EP X ah σ Q) X.xe s:=by
 have hq:=h (s.heap.objs.size+1) s.heap.objs.size (I.bQ.fresh (ja _)) (I.bQ.fresh (aF _)) (bM (kO _));have I2:=Inv.made (C:=C) I;have r2:aT (V.ref (s.heap.objs.size+1)::(vs++qS)) (Value.ref (s.heap.objs.size+1)::(us++ds)):=.cons rfl (r.append hd);have hl:(Value.ref (s.heap.objs.size+1)::us++ds).length=ps.length:=by
  have e:=r2.length;rw [F.len _ _ _ _ hq] at e;exact e.symm
 refine ji (Dx (f:=f) I.xb M.makes M.init (beq_iff_eq.mp M.fn) (jj (F.run _ X.stack _ _ ⟨Value.ref (s.heap.objs.size+1)::us,[]⟩ (Value.ref (s.heap.objs.size+1)::(us++ds)) _ _ E (hr.make C us [])
  (I2.Kl.make C us []) (hb _ (Value.ref (s.heap.objs.size+1)::us) I2.xb hl) r2 hq) λr s' Nd=>?_))
 cases r with
 | error e=>exact hx ah σ _ _ e s' I2 Nd
 | ok fl =>
  cases fl with
  | ret u =>
   obtain⟨v,H',I3,rv,ev,q3⟩:=I2.after Nd;subst ev;exact⟨rv,⟨V.ref (s.heap.objs.size+1),H',I3,rfl,q3⟩⟩
  | next=>exact False.elim Nd
  | brk=>exact False.elim Nd
  | cont=>exact False.elim Nd
def uy (M:Mk X.K C f)(F:bI X.prog X.w X.K X.mg X.base CX k f fd ps sp)(hr:dX (k+1) X.A)(hg:Gl X x)(hm:X.mg x=some (.ref C))(hb:Binds X.K fd ps ds)(hd:aT qS ds)(hx:Passes CX X E)
  (ha:PA X (e::es) t)(A9:(x == ("__debug__":Str))=false:=by decide)(he:starEach (e::es) X.env=(false,eval e X.env)::starEach es X.env:=by rfl)(va:(backTo pos (starEach es X.env)).any (·.1)=false:=by rfl) :
  PE X (.Call (.Name x p) (e::es) [] pos) (LI C sp qS E t):=by
 intro ah s σ H Q I h;refine nV (uI I hg hm ?_ A9);refine PySem.W.callWith_K (h₀:=X.base) I.ok.mod.MS M.kp (cD (ha pos ah s σ H _ I h) λus s1 a8=>?_) he va;obtain⟨vs,H1,I1,r,q⟩:=a8;refine⟨I1.xb,?_⟩;exact CI M F hr hb hd hx I1 r q
end
section
variable {X:Cx}{CX:xp}{k:Nat}{f C:Addr}{fd:FuncData}{ps ks:List Str}{sp:Sp}{E:XK}{x m:Str}{p pos apos Ys:Pos}{e o:Expr}{es:List Expr}{kws:List Keyword}{te ta:TE}{t tk:TA}{nm:Option Str}
structure Tz (K:aV)(fd:FuncData) (ps ks:List Str)(g:List Value->List Value->List Value)(gV:List V->List V->List V):Prop where
 to:∀(s:Shared)(us ws:List Value),K.In s.heap->(g us ws).length=ps.length->BindsTo s fd ⟨us,ks.zip ws⟩ (ps.zip (g us ws))
 rel:∀{vs:List V}{us:List Value}{zs:List V}{ws:List Value},aT vs us->aT zs ws->aT (gV vs zs) (g us ws)
variable {g:List Value->List Value->List Value}{gV:List V->List V->List V}
end
structure aK (N P:List Str)(sc:Scope):Prop where
 kind:sc.kind=.function
 co:sc.isCoroutine=false
 gen:sc.isGenerator=false
 nd:N.Nodup
 pre:N.take P.length=P
 par:∀x∈P,sc.names.lookup x=some .local\/sc.names.lookup x=some .cell
 Jl:∀y∈sc.names,y.2≠.free
def iL {N P:List Str}{sc:Scope}(a:sc.kind=.function)(b:sc.isCoroutine=false)(c:sc.isGenerator=false)(d:N.take P.length=P)(e:N.Nodup/\(∀x∈P,sc.names.lookup x=some .local\/sc.names.lookup x=some .cell)/\∀y∈sc.names,y.2≠.free):aK N P sc:=⟨a,b,c,e.1,d,e.2.1,e.2.2⟩
theorem sC {kindOf:Str->Option NameKind}{x:Str}:∀{binds:List (Str×Value)}{m:Str->Option Value},(∀v,(x,v)∉binds)->bindL kindOf binds m x=m x
 | [],_,_=>rfl
 | (n,v)::r,m,h=>by
  unfold bindL;rw [sC λw hw=>h w (bC _ hw)]
  split
  .have:x≠n:=by rintro rfl;exact h v bp
   simp [this]
  rfl
theorem sE {kindOf:Str->Option NameKind}{x:Str}:∀{binds:List (Str×Value)}{m:Str->Option Value},(∀v,(x,v)∉binds)->bindC kindOf binds m x=m x
 | [],_,_=>rfl
 | (n,v)::r,m,h=>by
  unfold bindC;rw [sE λw hw=>h w (bC _ hw)]
  split
  .rfl
  have:x≠n:=by rintro rfl;exact h v bp
  simp [this]
theorem sD {kindOf:Str->Option NameKind}{x:Str}{v:Value}:∀{P:List Str}{vs:List Value}{i:Nat}{m:Str->Option Value},P.Nodup->P[i]?=some x->vs[i]?=some v->kindOf x=some .local ->
  bindL kindOf (P.zip vs) m x=some v
 | [],_,_,_,_,h,_,_=>by simp at h
 | _::_,[],_,_,_,_,h,_=>by simp at h
 | p::P,w::vs,0,m,nd,h1,h2,hk=>by
  simp at h1 h2;subst h1;subst h2;show bindL kindOf ((p,w)::P.zip vs) m p=_;unfold bindL;rw [sC λv hv=>(nQ.mp nd).1 (List.of_mem_zip hv).1,av hk];simp
 | p::P,w::vs,i+1,m,nd,h1,h2,hk=>by
  show bindL kindOf ((p,w)::P.zip vs) m x=_;unfold bindL;exact sD (i:=i) (nQ.mp nd).2 (by simpa using h1) (by simpa using h2) hk
theorem sF {kindOf:Str->Option NameKind}{x:Str}{v:Value}:∀{P:List Str}{vs:List Value}{i:Nat}{m:Str->Option Value},P.Nodup->P[i]?=some x->vs[i]?=some v->kindOf x≠some .local ->
  bindC kindOf (P.zip vs) m x=some v
 | [],_,_,_,_,h,_,_=>by simp at h
 | _::_,[],_,_,_,_,h,_=>by simp at h
 | p::P,w::vs,0,m,nd,h1,h2,hk=>by
  simp at h1 h2;subst h1;subst h2;show bindC kindOf ((p,w)::P.zip vs) m p=_;unfold bindC;rw [sE λv hv=>(nQ.mp nd).1 (List.of_mem_zip hv).1,ax hk];simp
 | p::P,w::vs,i+1,m,nd,h1,h2,hk=>by
  show bindC kindOf ((p,w)::P.zip vs) m x=_;unfold bindC;exact sF (i:=i) (nQ.mp nd).2 (by simpa using h1) (by simpa using h2) hk
def start (N:List Str)(vs:List V):St:=vs.map some++List.replicate (N.length - vs.length) none
def nE (CX:xp)(P:Program)(w:World)(K:aV)(mg:Str->Option Value)(base:Heap) (N:List Str)(qual:Str)(scope:Scope)(f:Addr)(cd:Value)(A:Around)(outer:List Env)(s:Shared)(H:Hp)(E:XK):Cx where
 prog:=P
 w:=w
 K:=K
 mg:=mg
 base:=base
 A:=A.deeper (envOfC qual scope s.heap.objs.size f cd)
 N:=N
 s₀:=s
 H₀:=H
 env:=envOfC qual scope s.heap.objs.size f cd
 outer:=outer
 stack:=envOfC qual scope s.heap.objs.size f cd::outer
 ex:=[]
 calm:=true
 fn:=λ_=>true
 pn:=[]
 xe:=λe s'=>wpAny (model P w) (A.deeper (envOfC qual scope s.heap.objs.size f cd)) (leaving (envOfC qual scope s.heap.objs.size f cd) e) (λ_ L_=>CX outer H s E e L_) (λe' L_=>CX outer H s E e' L_) s'
def wL {sc:Scope}{n:Nat}{x:Str}(h:sc.names.lookup x=some .cell):∃c,(cellsFrom n sc.names []).lookup x=some c:=by
 have q:=PySem.W.cellsFrom_some sc.names n [] (.inl h);exact kS.mp q
def rY {CX:xp}{P:Program}{w:World}{K:aV}{mg:Str->Option Value}{base:Heap}{N ps:List Str}{qual:Str}{scope:Scope}{f:Addr}{cd:Value}{A:Around}{outer:List Env}{s s1:Shared}{H:Hp}{E:XK}{us:List Value}{vs:List V}
  (S:aK N ps scope)(hd:A.handled=none)(e0:oA P w K mg base A outer s H)(hl:vs.length=ps.length)(r:aT vs us)
  (x:InCallC s s.heap.objs.size (bindL (envOfC qual scope s.heap.objs.size f cd).kindOf (ps.zip us) λ_=>none) (cellsFrom (s.heap.objs.size+1) scope.names []) (bindC (envOfC qual scope s.heap.objs.size f cd).kindOf (ps.zip us) λ_=>none) s1) :
  Inv (nE CX P w K mg base N qual scope f cd A outer s H E) [] (start N vs) H s1:=by
 have va:ps.length<=N.length:=by have:=congrArg List.length S.pre;rw [eV] at this;omega
 obtain⟨h1,tk,rfl,hk⟩:=x.done;have Mp:∀b:Addr,b∉(nE CX P w K mg base N qual scope f cd A outer s H E).ex:=λb z=>absurd (show b∈([]:List Addr) from z) (by simp);refine⟨⟨e0.mod,S.kind,rfl,rfl,aF _,λy z c h1 h2=>?_,λy hy=>?_,λy c _ h=>?_,λ_=>hd,Around.frames_deeper e0.frames,.inr ⟨rfl,rfl⟩,λb z=>absurd z (Mp b),e0.bs,e0.E6,λb _ _=>Mp b,λb z=>absurd z (Mp b),e0.nq,e0.HQ⟩,
  rfl,e0.bare,Un.kept hk,⟨_,x.toInCall.ns,λi y v h1 h2 h3=>?_⟩,λy c h=>⟨_,x.cell y c h⟩,e0.bQ.fresh (aF _),λy c h=>?_,λp hp=>absurd (show p∈([]:List (Addr×Obj)) from hp) (by simp),e0.bQ.kept hk,?_⟩
 .exact name_of_addr x.apart (px h1) (px h2)
 .have hy:scope.names.lookup y=some .cell\/scope.names.lookup y=some .free:=hy;rcases hy with hy | hy
  .exact wL hy
  exact absurd rfl (S.Jl _ (px hy))
 .exact jk (x.above y c (px h))
 .have hi:i < vs.length:=by
   unfold start at h2;by_cases hi:i < vs.length
   .exact hi
   rw [oW (by simpa using hi)] at h2;rw [List.getElem?_replicate] at h2
   split at h2 <;> cases h2
  have ha:vs[i]?=some v:=by
   unfold start at h2;rw [oV (by simpa using hi),bo] at h2;cases e:vs[i]? with
   | none=>rw [e] at h2;cases h2
   | some a=>rw [e] at h2;cases h2;rfl
  obtain⟨u,hu,rv⟩:=r.get ha;have hp:ps[i]?=some y:=by
   rw [<-S.pre,tJ ∅];exact h1
  have UB:ps.Nodup:=by rw [<-S.pre];exact S.nd.sublist (List.take_sublist _ _)
  refine⟨u,rv,?_⟩;rcases S.par y (bZ hp) with k | k
  .exact .inl ⟨k,sD UB hp hu k⟩
  obtain⟨c,e⟩:=wL (n:=s.heap.objs.size+1) k;refine .inr ⟨.inl k,c,e,?_⟩;have q:=x.cell y c e;rw [sF UB hp hu (by show scope.names.lookup y≠_;rw [k];decide)] at q;exact q
 .exact e0.bQ.fresh (jk (x.above y c (px h)))
 unfold start;show _=N.length;rw [cu,aB,List.length_replicate];omega
def Eb {CX:xp}{P:Program}{w:World}{K:aV}{mg:Str->Option Value}{base:Heap}{k:Nat}{f:Addr}{name qual:Str}{params:Arguments}{body:List Stmt}{scope:Scope}{dV kV doc pm dN ct oc:Value}{an od:Option Addr}
  {vL:Array (Option Value)}{N ps:List Str}{sp:Sp}(lk:K.lookup f=some ⟨oc,od,.func (PySem.W.fnOf name qual params body scope dV kV doc pm an dN ct),vL⟩)(uP:PySem.W.codeIn K dN qual=true)(S:aK N ps scope)
  (len:∀vs H Q E,sp vs H Q E->vs.length=ps.length)
  (iE:∀(A:Around)(outer:List Env)(s:Shared)(H:Hp)(vs:List V)(Q:VK)(E:XK),dX k (A.deeper (envOfC qual scope s.heap.objs.size f dN))->sp vs H Q E ->
   ∃t,zg (nE CX P w K mg base N qual scope f dN A outer s H E) body t/\t { nx:=λ_ H'=>Q .eJ H',rt:=Q } (start N vs) H) :
  bI P w K mg base CX (k+1) f (PySem.W.fnOf name qual params body scope dV kV doc pm an dN ct) ps sp:=by
 refine⟨len,λA outer s H args us vs Q E hr e0 hb r xf=>?_⟩;have hl:=len _ _ _ _ xf;have KX:K.In s.heap:=e0.mod.MS.keeps λb o e=>(e0.bs b o e).1;have lim:s.heap.NoLimit:=e0.mod.nolimit.keeps λb o e=>(e0.bs b o e).1;have iC:∀y∈ps.zip us,scope.names.lookup y.1=some .local\/(scope.names.lookup y.1=some .cell/\((cellsFrom (s.heap.objs.size+1) scope.names []).lookup y.1).isSome=true):=λ⟨n,v⟩ hy=>by
  rcases S.par n (List.of_mem_zip hy).1 with q | q
  .exact .inl q
  exact .inr ⟨q,PySem.W.cellsFrom_some _ _ _ (.inl q)⟩
 refine codeAny_call_function hr.depth (KX _ _ lk) rfl S.co S.gen rfl (PySem.W.codeRec_of KX uP) (hb _ _ _ _ ?_);refine wpAny_newFunctionEnv_cells S.kind iC λenv he s1 x=>?_;subst he;refine⟨lim.keeps x.toInCall.keep,codeAny_func ?_⟩;obtain⟨t,ht,hq⟩:=iE A outer s H vs Q E (hr.deeper _) xf;have I:Inv (nE CX P w K mg base N qual scope f dN A outer s H E) [] (start N vs) H s1:=rY S hr.hd e0 hl r x;refine cJ (ht [] s1 (start N vs) H _ I hq) (λfl s' hs=>?_) λe s' hs=>hs;have fin:∀{σ':St}{H':Hp}{v:V}{u:Value},Inv (nE CX P w K mg base N qual scope f dN A outer s H E) [] σ' H' s'->RelV v u->Q v H'->CE outer P w H s Q u s' :=
  λ{σ' H' v u} J rv q=>⟨v,H',J.os,J.bare,J.base,J.bQ,rv,q⟩
 cases fl with
 | ret u =>
  obtain⟨v,σ',H',J,rv,q⟩:=hs;exact fin J rv q
 | next =>
  obtain⟨σ',H',J,q⟩:=hs;exact fin (v:=V.eJ) (u:=Value.none) J rfl q
 | brk =>
  obtain⟨_,_,_,q⟩:=hs;exact False.elim q
 | cont =>
  obtain⟨_,_,_,q⟩:=hs;exact False.elim q
section
variable {X:Cx}{x:Str}{p pos:Pos}{e:Expr}{es:List Expr}{t:TA}{id T:String}{r:List V->Hp->VK->Prop}
def T5 (r:List V->Hp->VK->Prop)(t:TA):TE:=λσ H Q=>t σ H λvs H1=>r vs H1 Q
def bR (hc:eZ X (.builtin id) r)(hg:Gl X x)(hm:X.mg x=none)(hv:bootBuiltins x=some (.builtin id))(ha:PA X (e::es) t)(hn:x ≠ "__name__" := by decide)(A9:(x == ("__debug__":Str))=false:=by decide)
  (he:starEach (e::es) X.env=(false,eval e X.env)::starEach es X.env:=by rfl)(va:(backTo pos (starEach es X.env)).any (·.1)=false:=by rfl):PE X (.Call (.Name x p) (e::es) [] pos) (T5 r t):=by
 intro ah s σ H Q I h;refine nV (ig I hg hm hv ?_ hn A9);refine PyProof.Rows.callWith_builtin1 (cD (ha pos ah s σ H _ I h) λus s1 a8=>?_) he va;obtain⟨vs,H1,I1,r1,q1⟩:=a8;exact hc ah s1 σ H1 vs us Q I1 r1 q1
def a7 (hc:eZ X (.type T) r)(hg:Gl X x)(hm:X.mg x=none)(hv:bootBuiltins x=some (.type T))(ha:PA X (e::es) t)(hn:x ≠ "__name__" := by decide)(A9:(x == ("__debug__":Str))=false:=by decide)
  (he:starEach (e::es) X.env=(false,eval e X.env)::starEach es X.env:=by rfl)(va:(backTo pos (starEach es X.env)).any (·.1)=false:=by rfl):PE X (.Call (.Name x p) (e::es) [] pos) (T5 r t):=by
 intro ah s σ H Q I h;refine nV (ig I hg hm hv ?_ hn A9);refine zo (cD (ha pos ah s σ H _ I h) λus s1 a8=>?_) he va;obtain⟨vs,H1,I1,r1,q1⟩:=a8;exact hc ah s1 σ H1 vs us Q I1 r1 q1
end
end L2
namespace HT
open PySem PyProof.Rows
section
open PySem.SeqAt
open PySem.AutoSeq1 (wpAny_loadPart')
open PySem.MeetsSeq PySem.MeetsSeq2 PySem.MeetsSeq3
end
section
variable {prog:Program}{w:World}{A:Around}{E:Value->Shared->Prop}{s:Shared}
def jU (n d:Nat):Option Int->Nat
 | none=>d
 | some v=>if v < 0 then (v+(n:Int)).toNat else min v.toNat n
def CD (n d:Nat):jU n d none=d:=rfl
def uf (n d k:Nat):jU n d (some (k:Int))=min k n:=by
 show (if (k:Int) < 0 then ((k:Int)+(n:Int)).toNat else min (k:Int).toNat n)=min k n;rw [ax ∅,nU]
def GO (v:Int) (n d:Nat):(if v < 0 then max (v+(n:Int)) 0 else min v (n:Int))=((jU n d (some v):Nat):Int):=by
 show (if v < 0 then max (v+(n:Int)) 0 else min v (n:Int))=(((if v < 0 then (v+(n:Int)).toNat else min v.toNat n):Nat):Int);by_cases hv:v < 0
 .simp only [av hv];omega
 simp only [ax hv];omega
end
end HT
namespace L2
open PySem PySem.Spec PyProof.Rows
abbrev TO:=St->Hp->(Option Int->Hp->Prop)->Prop
def PO (X:Cx)(e:Option Expr)(t:TO):Prop :=
 ∀(ah:List (Addr×Obj))(s:Shared)(σ:St)(H:Hp)(Q:Option Int->Hp->Prop),Inv X ah σ H s->t σ H Q ->
  wpAny (model X.prog X.w) X.A (evalPart e X.env) (λu s'=>∃o H',Inv X ah σ H' s'/\IsPart u o/\Q o H') X.xe s
def Ff:TO:=λ_ H Q=>Q none H
def LA (t:TE):TO:=λσ H Q=>t σ H λx H1=>Tq x λi=>Q (some i) H1
def intsAre_of {ns:List Int}:∀{us:List Value},aT (ns.map V.int) us->IntsAre us ns:=by
 induction ns with
 | nil=>intro us r;rw [jb] at r;cases r;exact .nil
 | cons n ns ih =>
  intro us r;rw [bu] at r;cases r with
  | cons r1 r2 =>
   obtain⟨t,e⟩:=r1;subst e;exact .cons n t (ih r2)
section
variable {X:Cx}{e:Expr}{te:TE}{lo hi:Option Expr}{tl th:TO}{pos p2:Pos}
def gK:PO X none Ff:=by
 intro ah s σ H Q I h;rw [evalPart_none];exact aZ ⟨none,H,I,.none,h⟩
def cY (h:PE X e te):PO X (some e) (LA te):=by
 intro ah s σ H Q I hw;rw [evalPart_some];refine cD (h ah s σ H _ I hw) λu s1 a8=>?_;obtain⟨x,H1,I1,r1,q1⟩:=a8;obtain⟨i,rfl,q⟩:=q1;obtain⟨t,rfl⟩:=r1;exact⟨some i,H1,I1,.int i t,q⟩
def KJ (X:Cx)(r:V->Option Int->Option Int->Hp->VK->Prop):Prop :=
 ∀(ah:List (Addr×Obj))(s:Shared)(σ:St)(H:Hp)(x:V)(v vl vu:Value)(lo hi:Option Int)(sl:Addr)(Q:VK),Inv X ah σ H s->RelV x v->s.heap.IsSliceOf sl vl vu .none->IsPart vl lo->IsPart vu hi->r x lo hi H Q ->
  ∃T id,typeLookup (.type T) "__getitem__"=pure (some (.builtin id))/\s.TypeIs v T/\wpAny (model X.prog X.w) X.A (getItem v (.ref sl)) (EP X ah σ Q) X.xe s
def KJ.or {r r':V->Option Int->Option Int->Hp->VK->Prop}(h:KJ X r)(h':KJ X r'):KJ X (λx lo hi H Q=>r x lo hi H Q\/r' x lo hi H Q):=by
 intro ah s σ H x v vl vu lo hi sl Q I rx hs pl pu q;rcases q with q | q
 .exact h ah s σ H x v vl vu lo hi sl Q I rx hs pl pu q
 exact h' ah s σ H x v vl vu lo hi sl Q I rx hs pl pu q
def WE (r:V->Option Int->Option Int->Hp->VK->Prop)(te:TE)(tl th:TO):TE:=λσ H Q=>te σ H λx H1=>tl σ H1 λl H2=>th σ H2 λu H3=>r x l u H3 Q
def de {r:V->Option Int->Option Int->Hp->VK->Prop}(hr:KJ X r)(he:PE X e te)(hl:PO X lo tl)(hu:PO X hi th):PE X (.Subscript e (.Slice lo hi none p2) pos) (WE r te tl th):=by
 intro ah s σ H Q I h;refine Subscript_ (cD (he ah s σ H _ I h) λv s1 a8=>?_);obtain⟨x,H1,I1,r1,q1⟩:=a8;refine wpAny_Slice (cD (hl ah s1 σ H1 _ I1 q1) λvl s2 a8=>?_);obtain⟨l,H2,I2,pl,q2⟩:=a8;refine cD (hu ah s2 σ H2 _ I2 q2) λvu s3 a8=>?_;obtain⟨u,H3,I3,pu,q3⟩:=a8;rw [evalPart_none];refine aZ ?_;have I4:Inv X ah σ H3 { s3 with heap:=s3.heap.push { cls:=.type "slice",data:=.fields #[vl,vu,.none] } }:=I3.kept (t':=s3.toks) λb ob q=>bS _ q;obtain⟨T,id,hT,ht,hg⟩:=hr ah { s3 with heap:=s3.heap.push { cls:=.type "slice",data:=.fields #[vl,vu,.none] } } σ H3 x v vl vu l u s3.heap.objs.size Q I4 r1 (Heap.IsSliceOf.new ..) pl pu q3;show wpAny (model X.prog X.w) X.A (subscriptTail e (.Slice lo hi none p2) v (.ref s3.heap.objs.size)) (EP X ah σ Q) X.xe { s3 with heap:=s3.heap.push { cls:=.type "slice",data:=.fields #[vl,vu,.none] } };exact tail_any (ops:=[.ref s3.heap.objs.size,v]) ht hT hg (by with_unfolding_all rfl)
def ff (xs:List V)(lo hi:Option Int):List V:=(xs.drop (HT.jU xs.length 0 lo)).take (HT.jU xs.length xs.length hi - HT.jU xs.length 0 lo)
def wA (xs:List V)(lo hi:Option Int):(ff xs lo hi).length<=xs.length:=by
 unfold ff;rw [eV,mC];omega
end
def DI (n:Nat) (i:Int):Option Nat:=if 0<=i then (if i < n then some i.toNat else none) else if -(n:Int)<=i then some (i+n).toNat else none
def jD {α:Type}(xs:List α) (i:Int):Option α:=(DI xs.length i).bind λj=>xs[j]?
def z7 {n:Nat}{i:Int}{j:Nat}(h:DI n i=some j):seqIndex? i n=some j/\j < n/\-(n:Int)<=i/\i < n:=by
 unfold DI at h;by_cases h0:0<=i
 .rw [av h0] at h;by_cases h1:i < n
  .rw [av h1] at h;have e:i.toNat=j:=f_ h;exact⟨by rw [seqIndex_of h0 h1,e],∅,∅,h1⟩
  rw [ax h1] at h;cases h
 rw [ax h0] at h;by_cases h1:-(n:Int)<=i
 .rw [av h1] at h;have e:(i+n).toNat=j:=f_ h;exact⟨by rw [seqIndex_neg ∅ h1,e],∅,h1,∅⟩
 rw [ax h1] at h;cases h
def uW {α:Type}{xs:List α}{i:Int}{v:α}(h:jD xs i=some v):∃j,seqIndex? i xs.length=some j/\xs[j]?=some v/\j < xs.length/\-(xs.length:Int)<=i/\i < xs.length:=by
 unfold jD at h;cases e:DI xs.length i with
 | none=>rw [e] at h;cases h
 | some j =>
  rw [e] at h;obtain⟨h1,h2,h3,h4⟩:=z7 e;exact⟨j,h1,h,h2,h3,h4⟩
def cw {α:Type}{xs:List α}{j:Nat}{v:α}(h:xs[j]?=some v):jD xs (j:Int)=some v:=by
 have hj:j < xs.length:=(bA.mp h).1;have e:DI xs.length (j:Int)=some j:=by
  unfold DI;rw [av ∅,av ∅];simp
 unfold jD;rw [e];exact h
def iI {α:Type}(xs:List α)(v:α):jD (xs++[v]) (-1)=some v:=by
 have hl:(xs++[v]).length=xs.length+1:=by simp
 have e:DI (xs++[v]).length (-1)=some xs.length:=by
  unfold DI;rw [hl,ax nofun,av ∅]
  congr 1
  omega
 unfold jD;rw [e];show (xs++[v])[xs.length]?=some v;simp
def G0 (b:Expr):Prop:=∀o i,subscripted b false o i=operate [o,i] (getItem o i)
def G4 (X:Cx)(r:R2):Prop :=
 ∀(value slice:Expr)(ah:List (Addr×Obj))(s:Shared)(σ:St)(H:Hp)(x y:V)(v u:Value)(Q:VK),Inv X ah σ H s->RelV x v->RelV y u->r x y H Q ->
  subscripted slice false v u=operate [v,u] (getItem v u)->wpAny (model X.prog X.w) X.A (subscriptTail value slice v u) (EP X ah σ Q) X.xe s
def Lp (X:Cx)(id:String)(r:V->List V->Hp->VK->Prop):Prop :=
 ∀(ah:List (Addr×Obj))(s:Shared)(σ:St)(H:Hp)(x:V)(xs:List V)(v:Value)(us:List Value)(Q:VK),Inv X ah σ H s->RelV x v->aT xs us->r x xs H Q ->
  wpAny (model X.prog X.w) X.A (call (.builtin id) (v::us)) (EP X ah σ Q) X.xe s
section
variable {X:Cx}{a b:Expr}{ta tb:TE}{pos:Pos}
def G4.or {r r':R2}(h:G4 X r)(h':G4 X r'):G4 X (λx y H Q=>r x y H Q\/r' x y H Q):=by
 intro value slice ah s σ H x y v u Q I rx ry q hs;rcases q with q | q
 .exact h value slice ah s σ H x y v u Q I rx ry q hs
 exact h' value slice ah s σ H x y v u Q I rx ry q hs
def Lp.or {id:String}{r r':V->List V->Hp->VK->Prop}(h:Lp X id r)(h':Lp X id r'):Lp X id (λx xs H Q=>r x xs H Q\/r' x xs H Q):=by
 intro ah s σ H x xs v us Q I rx rs q;rcases q with q | q
 .exact h ah s σ H x xs v us Q I rx rs q
 exact h' ah s σ H x xs v us Q I rx rs q
def aO {r:R2}(hr:G4 X r)(ha:PE X a ta)(hb:PE X b tb)(hs:G0 b):PE X (.Subscript a b pos) (Ov r ta tb):=by
 intro ah s σ H Q I h;exact Subscript_ (Kz ha hb I h λv u s2 x y H2 I2 rx ry q=>hr a b ah s2 σ H2 x y v u Q I2 rx ry q (hs _ _))
inductive Tp (S:Addr->List V->Prop)(x y:V)(R:V->Prop):Prop
|mk(p:Addr)(xs:List V) (i:Int)(v:V)(e:x=.ref p)(e2:y=.int i)(s:S p xs)(a:jD xs i=some v)(q:R v)
def Md (K:aV):R2:=λx y H Q=>Tp (aH K H) x y λv=>Q v H
def Qi (K:aV):R2:=λx y H Q=>Tp (aW K H) x y λv=>Q v H
def Qj:R2:=λx y H Q=>∃z i c,x=.str z/\y=.int i/\z.length<=sizeLine/\jD z.cps.toList i=some c/\Q (.str ⟨#[c]⟩) H
def aS:G4 X (Md X.K):=by
 intro value slice ah s σ H x y v u Q I rx ry h hs;obtain⟨p,xs,i,z,rfl,rfl,hq,he,q⟩:=h;cases rx;obtain⟨t,rfl⟩:=ry;obtain⟨aL,r,pl,hz⟩:=I.list hq;obtain⟨j,h1,h2,h3,h4,h5⟩:=uW he;obtain⟨w,ew,ye⟩:=r.get h2;have hl:=r.length;have hn:=jw;have fin:EP X ah σ Q w s:=⟨z,H,I,ye,q⟩;by_cases h0:0<=i
 .have hj:i.toNat=j:=by
   rw [seqIndex_of h0 h5] at h1;exact f_ h1
  exact item_listR pl.isList h0 ∅ (by rw [hj];simpa using ew) fin hs
 have hj:(i+(aL.toArray.size:Int)).toNat=j:=by
  rw [seqIndex_neg ∅ h4] at h1;rw [bO,<-hl];exact f_ h1
 exact subscriptTail_builtinR (x:=w) pl.isList.typeIs slot_list_getitem.lookup
  (wpAny_getItem_list_neg (Q:=λr s'=>r=w/\EP X ah σ Q r s') pl.isList ∅ (by rw [bO] <;> omega) ∅ (by rw [hj];simpa using ew) ⟨rfl,fin⟩) hs
def cH:G4 X (Qi X.K):=by
 intro value slice ah s σ H x y v u Q I rx ry h hs;obtain⟨p,xs,i,z,rfl,rfl,hq,he,q⟩:=h;cases rx;obtain⟨t,rfl⟩:=ry;obtain⟨aL,r,pl,hz⟩:=I.tuple hq;obtain⟨j,h1,h2,h3,h4,h5⟩:=uW he;obtain⟨w,ew,ye⟩:=r.get h2;have hl:=r.length;have hn:=jw;have fin:EP X ah σ Q w s:=⟨z,H,I,ye,q⟩;exact subscriptTail_builtinR (x:=w) pl.typeIs slot_tuple_getitem.lookup
  (getItem_tuple (j:=j) (Q:=λr s'=>r=w/\EP X ah σ Q r s') pl ∅ ∅ (by rw [bO,<-hl];exact h1) (by simpa using ew) ⟨rfl,fin⟩) hs
def jz:G4 X Qj:=by
 intro value slice ah s σ H x y v u Q I rx ry h hs;obtain⟨z,i,c,rfl,rfl,hz,he,q⟩:=h;obtain⟨t,rfl⟩:=rx;obtain⟨t',rfl⟩:=ry;obtain⟨j,h1,h2,h3,h4,h5⟩:=uW he;have hl:z.cps.toList.length=z.length:=by simp [Str.length]
 rw [hl] at h1 h4 h5;have hn:=jw;exact tail_any (typeIs_str s z t) slot_str_getitem.lookup (getItem_str (c:=c) (by
  have e1:decide (i < -(2 ^ 63:Int))=false:=fN ∅;have e2:decide (i≥2 ^ 63)=false:=fN ∅;rw [e1,e2,Bool.or_false]) (by rw [h1];simpa using h2) ⟨.str ⟨#[c]⟩,H,I.tok _,⟨_,rfl⟩,q⟩) hs
def yx (aL:List Value) (n j:Nat)(u:Value):Obj.mapSeq (·.setIfInBounds j u) { cls:=.type "list",data:=.seq aL.toArray n }={ cls:=.type "list",data:=.seq (aL.set j u).toArray n }:=by
 simp [Obj.mapSeq]
theorem Inv.lst {ah:List (Addr×Obj)}{σ:St}{H:Hp}{s:Shared}{p:Addr}{xs:List V}(I:Inv X ah σ H s)(h:H p=some (.lst xs)) :
  ∃(aL:List Value) (n:Nat),aT xs aL/\s.heap.get? p=some { cls:=.type "list",data:=.seq aL.toArray n }/\xs.length<=sizeLine:=by
 obtain⟨z,aL,n,r,e⟩:=I.bQ p _ h;exact⟨aL,n,r,e,z⟩
def Inv.Jt {ah:List (Addr×Obj)}{σ:St}{H:Hp}{s:Shared}{p:Addr}{xs ys:List V}{aL lR:List Value}{n n':Nat}{f:Obj->Obj}(I:Inv X ah σ H s)(h:H p=some (.lst xs))
  (ho:s.heap.get? p=some { cls:=.type "list",data:=.seq aL.toArray n })(hf:f { cls:=.type "list",data:=.seq aL.toArray n }={ cls:=.type "list",data:=.seq lR.toArray n' })(r:aT ys lR)(hz:ys.length<=sizeLine) (t:Nat) :
  Inv X ah σ (upd H p (.lst ys)) { s with heap:=s.heap.update p f,toks:=t }:=by
 have e:(s.heap.update p f).get? p=some { cls:=.type "list",data:=.seq lR.toArray n' }:=by
  rw [Heap.get?_update_self f ho (by rw [hf] <;> rfl),hf]
 refine I.write (x:=p) (e:=p) (by rw [h];trivial) (.inl rfl) (λb u hb q=>(Heap.get?_update_other _ _ (fk hb)).trans q) ⟨_,e⟩ ?_;exact⟨hz,lR,n',r,e⟩
def Mc:V->V->V->Hp->(Hp->Prop)->Prop:=λo i v H Q=>∃p xs k j,o=.ref p/\i=.int k/\H p=some (.lst xs)/\DI xs.length k=some j/\Q (upd H p (.lst (xs.set j v)))
def set_list:Ob X Mc:=by
 intro ah s σ H o i v ov iv u Q I ro ri rv h;obtain⟨p,xs,k,j,rfl,rfl,hp,hj,q⟩:=h;cases ro;obtain⟨t,rfl⟩:=ri;obtain⟨aL,n,r,ho,hz⟩:=I.lst hp;obtain⟨h1,h2,h3,h4⟩:=z7 hj;have hl:=r.length;have hn:=jw;have I':Inv X ah σ (upd H p (.lst (xs.set j v))) { s with heap:=s.heap.update p (Obj.mapSeq (·.setIfInBounds j u)) } :=
  I.Jt hp ho (yx aL n j u) (r.set rv j) (by rw [o5];exact hz) s.toks
 by_cases h0:0<=k
 .have hk:k.toNat=j:=by
   rw [seqIndex_of h0 h4] at h1;exact f_ h1
  exact PySem.W.ki_setAt ho h0 ∅ (by rw [bO,<-hl];exact h4) (by rw [hk];exact⟨_,I',q⟩)
 have hk:(k+(aL.toArray.size:Int)).toNat=j:=by
  rw [seqIndex_neg ∅ h3] at h1;rw [bO,<-hl];exact f_ h1
 exact PySem.W.ki_setBack ho ∅ (by rw [bO,<-hl];exact h3) ∅ (by rw [hk];exact⟨_,I',q⟩)
def tX (lo hi:Option Int) (n:Nat):(sliceBounds lo hi none n).1=((HT.jU n 0 lo:Nat):Int)/\(sliceBounds lo hi none n).2.1=((HT.jU n n hi:Nat):Int)/\(sliceBounds lo hi none n).2.2=1:=by
 refine⟨?_,?_,rfl⟩
 .cases lo with
  | none=>simp [sliceBounds,HT.jU]
  | some i =>
   simp only [sliceBounds,HT.jU,Option.getD_none,show (1:Int) > 0 by decide,if_true];by_cases h:i < 0
   .simp only [h,if_true] <;> omega
   simp only [h,if_false] <;> omega
 cases hi with
 | none=>simp [sliceBounds,HT.jU]
 | some i =>
  simp only [sliceBounds,HT.jU,Option.getD_none,show (1:Int) > 0 by decide,if_true];by_cases h:i < 0
  .simp only [h,if_true] <;> omega
  simp only [h,if_false] <;> omega
def qV (aL:List Value)(lo hi:Option Int):slicePick aL.toArray lo hi none=((aL.drop (HT.jU aL.length 0 lo)).take (HT.jU aL.length aL.length hi - HT.jU aL.length 0 lo)).toArray:=by
 obtain⟨h1,h2,h3⟩:=tX lo hi aL.toArray.size;unfold slicePick;rw [h1,h2,h3];simp only [sliceRange_one,pick_run,bO] <;> rfl
def Qg (K:aV):V->Option Int->Option Int->Hp->VK->Prop:=λx lo hi H Q=>Wh x (aH K H) λxs=>∀p,H p=none->Q (.ref p) (upd H p (.lst (ff xs lo hi)))
def gH:KJ X (Qg X.K):=by
 intro ah s σ H x v vl vu lo hi sl Q I rx hs pl pu h;obtain⟨a,xs,rfl,hx,q⟩:=h;cases rx;obtain⟨aL,r,ht,hz⟩:=I.list hx;have bc:=r.length;refine⟨"list",_,slot_list_getitem.lookup,ht.isList.typeIs,?_⟩;refine wpAny_getItem_list_slice ht.isList hs pl pu .none (by simp) ?_ (by rw [bO] <;> omega)
 rw [qV,<-bc];refine⟨.ref s.heap.objs.size,_,I.laid (t':=s.toks) (o:=.lst (ff xs lo hi)) (λb ob q=>bS _ q) (aF _) ?_,rfl,q _ (I.bQ.fresh (aF _))⟩;exact⟨cO (wA xs lo hi) hz,_,0,(r.drop (HT.jU xs.length 0 lo)).take (HT.jU xs.length xs.length hi - HT.jU xs.length 0 lo),cV _ rfl⟩
def gY:V->Bool
 | .eJ=>true
 | .bl _=>true
 | .int _=>true
 | .str _=>true
 | _=>false
def wk:V->V->Bool
 | .eJ,.eJ=>true
 | .bl a,.bl b=>a == b
 | .bl a,.int b=>(if a then 1 else 0) == b
 | .int a,.bl b=>a == (if b then 1 else 0)
 | .int a,.int b=>a == b
 | .str a,.str b=>a == b
 | _,_=>false
def yT {A:Around}{s:Shared}{y x:V}{u v:Value}(ry:RelV y u)(rx:RelV x v)(fy:gY y=true)(fx:gY x=true):SeqAt.EqAt A s u v (wk y x):=by
 cases y with
 | eJ =>
  cases ry;cases x with
  | eJ=>cases rx;exact SeqAt.EqAt.same _
  | bl b=>cases rx;exact SeqAt.EqAt.none_bool b
  | int b=>obtain⟨t,rfl⟩:=rx;exact SeqAt.EqAt.none_int b t
  | str b=>obtain⟨t,rfl⟩:=rx;exact SeqAt.EqAt.none_str b t
  | _=>exact absurd (show false=true from fx) eG
 | bl a =>
  cases ry;cases x with
  | eJ=>cases rx;exact SeqAt.EqAt.bool_none a
  | bl b=>cases rx;exact SeqAt.EqAt.bool_bool a b
  | int b=>obtain⟨t,rfl⟩:=rx;exact SeqAt.EqAt.bool_int a b t
  | str b=>obtain⟨t,rfl⟩:=rx;exact SeqAt.EqAt.bool_str a b t
  | _=>exact absurd (show false=true from fx) eG
 | int a =>
  obtain⟨t',rfl⟩:=ry;cases x with
  | eJ=>cases rx;exact SeqAt.EqAt.int_none a t'
  | bl b=>cases rx;exact SeqAt.EqAt.int_bool a t' b
  | int b=>obtain⟨t,rfl⟩:=rx;exact SeqAt.EqAt.int_int a t' b t
  | str b=>obtain⟨t,rfl⟩:=rx;exact SeqAt.EqAt.int_str a t' b t
  | _=>exact absurd (show false=true from fx) eG
 | str a =>
  obtain⟨t',rfl⟩:=ry;cases x with
  | eJ=>cases rx;exact SeqAt.EqAt.str_none a t'
  | bl b=>cases rx;exact SeqAt.EqAt.str_bool a t' b
  | int b=>obtain⟨t,rfl⟩:=rx;exact SeqAt.EqAt.str_int a t' b t
  | str b=>obtain⟨t,rfl⟩:=rx;exact SeqAt.EqAt.str_str a t' b t
  | _=>exact absurd (show false=true from fx) eG
 | _=>exact absurd (show false=true from fy) eG
def yS (x:V)(u:Value):Bool:=match u with
 | .none=>wk .eJ x
 | .bool b=>wk (.bl b) x
 | .int i _=>wk (.int i) x
 | .str z _=>wk (.str z) x
 | _=>false
def Eg {x y:V}{u:Value}(r:RelV y u)(f:gY y=true):yS x u=wk y x:=by
 cases y with
 | eJ=>cases r;rfl
 | bl b=>cases r;rfl
 | int i=>obtain⟨t,rfl⟩:=r;rfl
 | str z=>obtain⟨t,rfl⟩:=r;rfl
 | _=>exact absurd (show false=true from f) eG
theorem l_ {x:V}:∀{xs:List V}{us:List Value},aT xs us->xs.all gY=true->us.any (yS x)=xs.any λy=>wk y x
 | _,_,.nil,_=>rfl
 | y::xs,u::us,.cons r t,f=>by
  rw [List.all_cons,jf] at f;rw [oY,oY,Eg r f.1,l_ t f.2]
theorem ju {A:Around}{s:Shared}{x:V}{v:Value}(rx:RelV x v)(fx:gY x=true):∀{xs:List V}{us:List Value},aT xs us->xs.all gY=true->∀u∈us,SeqAt.EqAt A s u v (yS x u)
 | _,_,.nil,_=>λu hu=>by cases hu
 | y::xs,u::us,.cons r t,f=>λu' hu=>by
  rw [List.all_cons,jf] at f;rcases aQ.mp hu with rfl | hu
  .rw [Eg r f.1];exact yT r rx f.1 fx
  exact ju rx fx t f.2 u' hu
def BP (x:V)(xs:List V):Bool:=xs.any λy=>wk y x
inductive Wk (S:Addr->List V->Prop)(x y:V)(R:List V->Prop):Prop
|mk(p:Addr)(xs:List V)(e:y=.ref p)(s:S p xs)(f:gY x=true)(g:xs.all gY=true)(q:R xs)
def Up (K:aV)(neg:Bool):R2:=λx y H Q=>Wk (λp xs=>aH K H p xs\/aW K H p xs) x y λxs=>Q (.bl (if neg then !BP x xs else BP x xs)) H
def rS:md X (compareOp .In) (Up X.K false):=by
 intro ah s σ H x y v u Q I rx ry h;obtain⟨p,xs,rfl,hq,fx,fs,q⟩:=h;cases ry;rcases hq with hq | hq
 .obtain⟨aL,r,pl,hz⟩:=I.list hq;refine SeqAt.in_listAt (yS x) pl.isList (λw hw=>ju rx fx r fs w (by simpa using hw)) ⟨.bl _,H,I,rfl,?_⟩;rw [show aL.toArray.any (yS x)=aL.any (yS x) by simp,l_ r fs];exact q
 obtain⟨aL,r,pl,hz⟩:=I.tuple hq;refine SeqAt.in_tupleAt (yS x) pl (λw hw=>ju rx fx r fs w (by simpa using hw)) ⟨.bl _,H,I,rfl,?_⟩;rw [show aL.toArray.any (yS x)=aL.any (yS x) by simp,l_ r fs];exact q
def lJ:md X (compareOp .NotIn) (Up X.K true):=by
 intro ah s σ H x y v u Q I rx ry h;obtain⟨p,xs,rfl,hq,fx,fs,q⟩:=h;cases ry;rcases hq with hq | hq
 .obtain⟨aL,r,pl,hz⟩:=I.list hq;refine SeqAt.notIn_listAt (yS x) pl.isList (λw hw=>ju rx fx r fs w (by simpa using hw)) ⟨.bl _,H,I,rfl,?_⟩;rw [show aL.toArray.any (yS x)=aL.any (yS x) by simp,l_ r fs];exact q
 obtain⟨aL,r,pl,hz⟩:=I.tuple hq;refine SeqAt.notIn_tupleAt (yS x) pl (λw hw=>ju rx fx r fs w (by simpa using hw)) ⟨.bl _,H,I,rfl,?_⟩;rw [show aL.toArray.any (yS x)=aL.any (yS x) by simp,l_ r fs];exact q
def cI:eZ X (.builtin "len") (λxs H Q=>KD xs (λp ys=>aH X.K H p ys\/aW X.K H p ys) λys=>Q (.int ys.length) H):=by
 intro ah s σ H xs us Q I r h;obtain⟨p,ys,rfl,hq,q⟩:=h;obtain⟨u,rfl,rx⟩:=vals1 r;cases rx;have hn:=jw;rcases hq with hq | hq
 .obtain⟨aL,r',pl,hz⟩:=I.list hq;have bc:=r'.length;exact Calls.call_len_list pl.isList (by simp only [bO] <;> omega) ⟨.int ys.length,H,I.tok _,⟨s.toks+1,by rw [bO,bc]⟩,q⟩
 obtain⟨aL,r',pl,hz⟩:=I.tuple hq;have bc:=r'.length;exact len_tuple pl (by simp only [bO] <;> omega) ⟨.int ys.length,H,I.tok _,⟨s.toks+1,by rw [bO,bc]⟩,q⟩
def iX:eZ X (.builtin "len") (λxs H Q=>∃z,xs=[.str z]/\z.length<=sizeLine/\Q (.int z.length) H):=by
 intro ah s σ H xs us Q I r h;obtain⟨z,rfl,hz,q⟩:=h;obtain⟨u,rfl,t,rfl⟩:=vals1 r;have hn:=jw;exact len_str ∅ ⟨.int z.length,H,I.tok _,⟨_,rfl⟩,q⟩
def eZ.or {f:Value}{r r':List V->Hp->VK->Prop}(h:eZ X f r)(h':eZ X f r'):eZ X f (λxs H Q=>r xs H Q\/r' xs H Q):=by
 intro ah s σ H xs us Q I rs q;rcases q with q | q
 .exact h ah s σ H xs us Q I rs q
 exact h' ah s σ H xs us Q I rs q
def fJ:eZ X (.type "list") (λxs H Q=>KD xs (λp ys=>aH X.K H p ys\/aW X.K H p ys) λys=>∀l,H l=none->Q (.ref l) (upd H l (.lst ys))):=by
 intro ah s σ H xs us Q I r h;obtain⟨p,ys,rfl,hq,q⟩:=h;obtain⟨u,rfl,rx⟩:=vals1 r;cases rx;have fin:∀(aL:List Value),aT ys aL->ys.length<=sizeLine->∀(h':Heap) (c':Nat),(∀b o',s.heap.get? b=some o'->h'.get? b=some o') ->
   h'.get? s.heap.objs.size=some { cls:=.type "list",dict:=none,data:=.seq aL.toArray c',slots:=#[] }->EP X ah σ Q (.ref s.heap.objs.size) { s with heap:=h' }:=λaL r' hz h' c' kp e =>
  ⟨.ref s.heap.objs.size,_,I.laid (t':=s.toks) kp (aF _) (show bY X.prog X.w _ h' _ (.lst ys) from ⟨hz,aL,c',r',e⟩),rfl,q _ (I.bQ.fresh (aF _))⟩
 rcases hq with hq | hq
 .obtain⟨aL,r',pl,hz⟩:=I.list hq;have bc:=r'.length;obtain⟨o,ho,hc,n,hd⟩:=pl.isList;exact call_list_seq p (.inl rfl) ho hc hd (λh' c' kp e=>fin aL r' hz h' c' kp e) (by simp only [bO] <;> omega)
 obtain⟨aL,r',pl,hz⟩:=I.tuple hq;have bc:=r'.length;obtain⟨o,ho,hc,n,hd⟩:=pl;exact call_list_seq p (.inr rfl) ho hc hd (λh' c' kp e=>fin aL r' hz h' c' kp e) (by simp only [bO] <;> omega)
def eM:eZ X (.type "tuple") (λxs H Q=>∃p ys,xs=[.ref p]/\((aH X.K H p ys/\∀l,H l=none->Q (.ref l) (upd H l (.tup ys)))\/(aW X.K H p ys/\Q (.ref p) H))):=by
 intro ah s σ H xs us Q I r h;obtain⟨p,ys,rfl,h⟩:=h;obtain⟨u,rfl,rx⟩:=vals1 r;cases rx;rcases h with ⟨hq,q⟩ | ⟨hq,q⟩
 .obtain⟨aL,r',pl,hz⟩:=I.list hq;have bc:=r'.length;refine call_tuple_list pl.isList (λh' kp=>?_) (by simp only [bO] <;> omega)
  have I1:Inv X ah σ H { s with heap:=h' }:=I.kept (t':=s.toks) kp;have I2:Inv X ah σ (upd H h'.objs.size (.tup ys)) { s with heap:=h'.push { cls:=.type "tuple",data:=.seq aL.toArray } } :=
   I1.laid (t':=s.toks) (λb o e=>bS _ e) (aF _) (show bY X.prog X.w _ _ _ (.tup ys) from ⟨hz,aL,r',IsTup.new _ _⟩)
  exact⟨.ref h'.objs.size,_,I2,rfl,q _ (I1.bQ.fresh (aF _))⟩
 obtain⟨aL,r',pl,hz⟩:=I.tuple hq;exact call_tuple_same pl ⟨.ref p,H,I,rfl,q⟩
def TV (K:aV)(T:String)(x:V)(H:Hp):Prop:=match x with
 | .str _=>T = "str"
 | .int _=>T = "int"
 | .ref p=>(T = "list" /\ ∃xs,aH K H p xs)\/(T = "tuple" /\ ∃o,K.lookup p=some o/\o.cls=.type "tuple" /\ o.dict=none) \/
   (T = "dict" /\ ((∃kvs,H p=some (.dK kvs))\/∃kvs,H p=some (.dT kvs)))\/(T = "set" /\ ∃S n,H p=some (.set S n))
 | _=>False
def Iu {ah:List (Addr×Obj)}{σ:St}{H:Hp}{s:Shared}{T:String}{x:V}{v:Value}(I:Inv X ah σ H s)(r:RelV x v)(ty:TV X.K T x H) :
  s.TypeIs v T/\∀a,v=.ref a->∃ob,s.heap.get? a=some ob/\ob.dict=none:=by
 cases x with
 | str z =>
  obtain⟨t,rfl⟩:=r;cases (show T = "str" from ty);exact⟨typeIs_str s z t,λ_ e=>nomatch e⟩
 | int i =>
  obtain⟨t,rfl⟩:=r;cases (show T = "int" from ty);exact⟨typeIs_int s i t,λ_ e=>nomatch e⟩
 | ref p =>
  cases r;rcases ty with ⟨rfl,xs,hq⟩ | ⟨rfl,o,hk,hc,hd⟩ | ⟨rfl,hk⟩ | ⟨rfl,S,n,hk⟩
  .obtain⟨aL,_,pl,_⟩:=I.list hq;refine⟨pl.isList.typeIs,λa e=>?_⟩;cases e;obtain⟨o,n,e,c,hd,_⟩:=pl;exact⟨o,e,hd⟩
  .refine⟨⟨o,I.xb p o hk,hc⟩,λa e=>?_⟩;cases e;exact⟨o,I.xb _ o hk,hd⟩
  .have z:∃o,s.heap.get? p=some o/\o.ExactDict:=by
    rcases hk with ⟨kvs,hk⟩ | ⟨kvs,hk⟩
    .obtain⟨_,_,_,_,o,_,_,e,ex,_⟩:=I.bQ p _ hk;exact⟨o,e,ex⟩
    obtain⟨_,_,_,_,o,_,_,e,ex,_⟩:=I.bQ p _ hk;exact⟨o,e,ex⟩
   obtain⟨o,e,ex⟩:=z;refine⟨⟨o,e,ex.1⟩,λa e2=>?_⟩;cases e2;exact⟨o,e,ex.2.1⟩
  obtain⟨o,_,_,_,e,ex,_⟩:=I.bQ p _ hk;refine⟨⟨o,e,ex.1⟩,λa e2=>?_⟩;cases e2;exact⟨o,e,ex.2.1⟩
 | _=>exact False.elim ty
def T6 (K:aV)(T:String)(r:V->List V->Hp->VK->Prop)(to:TE)(t:TA):TE:=λσ H Q=>to σ H λx H1=>TV K T x H1/\t σ H1 λxs H2=>r x xs H2 Q
variable {o e:Expr}{es:List Expr}{to:TE}{t:TA}{name:Str}{apos eK:Pos}{T id:String}{r:V->List V->Hp->VK->Prop}
def dJ (pa:PlainAttrs T)(slot:Slot T name id)(Rc:typeOf (.builtin id)=pure (.type "method_descriptor"))(hm:Lp X id r)(ho:PE X o to)(ha:PA X (e::es) t)
  (DU:attributeBase o name X.env (eval o X.env)=eval o X.env:=by rfl)
  (JT:((backTo eK (starEach (e::es) X.env)).all (λx=>!x.1) && (backToKw eK (keywordEach [] X.env)).all (λx=>x.1.isSome)
   && decide ((e::es).length+([]:List Keyword).length+(if ([]:List Keyword).isEmpty then 0 else 1) < 30))=true:=by rfl)
  (DO:(apos.endLine == eK.line)=true:=by rfl)(hs:starEach (e::es) X.env=(false,eval e X.env)::starEach es X.env:=by rfl)(qe:(backTo eK (starEach es X.env)).any (·.1)=false:=by rfl) :
  PE X (.Call (.Attribute o name apos) (e::es) [] eK) (T6 X.K T r to t):=by
 intro ah s σ H Q I h;refine wpAny_Call_method_late DU JT DO rfl (cD (ho ah s σ H _ I h) λv s1 a8=>?_);obtain⟨x,H1,I1,r1,ty,q1⟩:=a8;obtain⟨h1,h2⟩:=Iu I1 r1 ty;refine⟨T,id,pa,slot,Rc,h1,h2,?_⟩;have hA:=ha eK ah s1 σ H1 _ I1 q1;rw [hs] at hA ⊢;refine sY (by show (false || (backTo eK (starEach es X.env)).any (·.1))=false;rw [qe] <;> rfl) (sR ?_)
 refine cD hA λus s2 a8=>?_;obtain⟨vs,H2,I2,r2,q2⟩:=a8;exact hm ah s2 σ H2 x vs v us Q I2 r1 r2 q2
end
def Ih (X:Cx)(id:String)(r:V->List V->Hp->VK->Prop):Prop :=
 ∀(ah:List (Addr×Obj))(s:Shared)(σ:St)(H:Hp)(x:V)(xs:List V)(v:Value)(us:List Value)(Q:VK),Inv X ah σ H s->RelV x v->aT xs us->r x xs H Q ->
  wpAny (model X.prog X.w) X.A (call (.builtin id) (v::us)) (EP X ah σ Q) X.xe s
def aT.one:∀{x:V}{us:List Value},aT [x] us->∃u,us=[u]/\RelV x u
 | _,_,.cons r .nil=>⟨_,rfl,r⟩
def aT.two:∀{x y:V}{us:List Value},aT [x,y] us->∃u v,us=[u,v]/\RelV x u/\RelV y v
 | _,_,_,.cons r (.cons q .nil)=>⟨_,_,rfl,r,q⟩
def aT.zero:∀{us:List Value},aT [] us->us=[]
 | _,.nil=>rfl
theorem aT.dropLast {xs:List V}{us:List Value}(h:aT xs us):aT xs.dropLast us.dropLast:=by
 induction h with
 | nil=>exact .nil
 | cons r t ih =>
  cases t with
  | nil=>exact .nil
  | cons q t'=>exact .cons r ih
theorem aT.reverse {xs:List V}{us:List Value}(h:aT xs us):aT xs.reverse us.reverse:=by
 induction h with
 | nil=>exact .nil
 | cons r t ih=>rw [List.reverse_cons,List.reverse_cons];exact aT.append ih (.cons r .nil)
section
variable {X:Cx}{ah:List (Addr×Obj)}{σ:St}{H:Hp}{s:Shared}{l b:Addr}{xs ys zs:List V}
def Inv.MH {aL lR:List Value}{n:Nat}{f:Array Value->Array Value}{t':Nat}(I:Inv X ah σ H s)(hH:H l=some (.lst xs))
  (e:s.heap.get? l=some { cls:=.type "list",data:=.seq aL.toArray n })(hf:f aL.toArray=lR.toArray)(hv:aT ys lR)(hz:ys.length<=sizeLine) :
  Inv X ah σ (upd H l (.lst ys)) { s with heap:=s.heap.update l (Obj.mapSeq f),toks:=t' }:=by
 have q:=PySem.IsL.update e f;rw [hf] at q;refine I.write (x:=l) (e:=l) (by rw [hH];exact trivial) (.inl rfl) (λb' u hb hu=>(Heap.get?_update_other s.heap (Obj.mapSeq f) (fk hb)).trans hu) ⟨_,q⟩ ?_;exact⟨hz,lR,_,hv,q⟩
def Inv.QO {aL:List Value}{t':Nat}(I:Inv X ah σ H s)(hv:aT ys aL)(hz:ys.length<=sizeLine) :
  Inv X ah σ (upd H s.heap.objs.size (.lst ys)) { s with heap:=s.heap.push { cls:=.type "list",data:=.seq aL.toArray },toks:=t' } :=
 I.laid (λ_ _ q=>bS _ q) (aF _) ⟨hz,aL,0,hv,cV _ rfl⟩
theorem Inv.fresh (I:Inv X ah σ H s):H s.heap.objs.size=none:=I.bQ.fresh (aF _)
def Inv.Dy (I:Inv X ah σ H s)(hH:H l=some (.lst xs)):xs.length<=sizeLine/\∃(aL:List Value) (n:Nat),aT xs aL/\xs.length=aL.length/\s.heap.get? l=some { cls:=.type "list",data:=.seq aL.toArray n }:=by
 obtain⟨z,aL,n,r,e⟩:=I.bQ l _ hH;exact⟨z,aL,n,r,r.length,e⟩
def Dr {n:Nat}(h:n<=sizeLine):Builtin.List.listTooLong n=false:=by
 unfold Builtin.List.listTooLong;exact fN ∅
end
section
variable {X:Cx}
inductive N_ (H:Hp)(x:V)(vs:List V)(R:Addr->List V->V->Prop):Prop
|mk(l:Addr)(xs:List V)(y:V)(e:x=.ref l)(e2:vs=[y])(h:H l=some (.lst xs))(z:xs.length < sizeLine)(q:R l xs y)
def FC:V->List V->Hp->VK->Prop:=λx vs H Q=>N_ H x vs λl xs y=>Q .eJ (upd H l (.lst (xs++[y])))
def cq:Ih X "list.append" FC:=by
 intro ah s σ H x vs v us Q I rx rv h;obtain⟨l,xs,y,rfl,rfl,hH,hz,q⟩:=h;cases rx;obtain⟨u,rfl,ru⟩:=rv.one;obtain⟨z,aL,n,r,hl,e⟩:=I.Dy hH;refine call_meets F.slot_list_append ⟨_,e,rfl⟩ F.entry_list_append (F.args_list_append_2 _ _) (PySem.list_append l aL.toArray n u (by rw [bO];omega)) ⟨e,?_⟩;refine⟨.eJ,_,I.MH (lR:=aL++[u]) hH e (by simp) (r.append (.cons ru .nil)) ?_,rfl,q⟩;rw [cu,pA];omega
def FA:V->List V->Hp->VK->Prop:=λx vs H Q=>∃l b xs zs,x=.ref l/\vs=[.ref b]/\H l=some (.lst xs)/\H b=some (.lst zs)/\xs.length+zs.length<=sizeLine/\Q .eJ (upd H l (.lst (xs++zs)))
def mV:Ih X "list.extend" FA:=by
 intro ah s σ H x vs v us Q I rx rv h;obtain⟨l,b,xs,zs,rfl,rfl,hH,hB,hz,q⟩:=h;cases rx;obtain⟨u,rfl,ru⟩:=rv.one;cases ru;obtain⟨z,aL,n,r,hl,e⟩:=I.Dy hH;obtain⟨z2,d_,n2,r2,qf,e2⟩:=I.Dy hB;have hsz:aL.toArray.size+d_.toArray.size<=sizeLine:=by rw [bO,bO];omega
 have Nk:¬(!aL.toArray.isEmpty && Builtin.List.listTooLong (aL.toArray.size+d_.toArray.size))=true:=by
  rw [Dr hsz,Bool.and_false];exact eG
 refine call_meets F.slot_list_extend ⟨_,e,rfl⟩ F.entry_list_extend (F.args_list_extend_2 _ _)
  (AutoSeq1.list_extend_list_list_0 l aL.toArray n b d_.toArray n2 Nk (by rw [bO];omega) ∅) ⟨e,e2,?_⟩
 refine⟨.eJ,_,I.MH (lR:=aL++d_) hH e (by simp) (r.append r2) ?_,rfl,q⟩;rw [cu];omega
def Qk:R2:=λx y H Q=>Wr (λl xs=>H l=some (.lst xs)) x y λxs zs=>∀p,H p=none->Q (.ref p) (upd H p (.lst (xs++zs)))
def ym:md X (binaryOp .Add) Qk:=by
 intro ah s σ H x y v u Q I rx ry h;obtain⟨l,b,xs,zs,rfl,rfl,hH,hB,hz,q⟩:=h;cases rx;cases ry;obtain⟨z,aL,n,r,hl,e⟩:=I.Dy hH;obtain⟨z2,d_,n2,r2,qf,e2⟩:=I.Dy hB;refine PySem.P.add_list e e2 ?_ (by rw [bO,bO];omega);have ea:aL.toArray++d_.toArray=(aL++d_).toArray:=by simp
 rw [ea];exact⟨.ref _,_,I.QO (t':=s.toks) (r.append r2) (by rw [cu];omega),rfl,q _ I.fresh⟩
end
section
variable {prog:Program}{w:World}{A:Around}{E:Value->Shared->Prop}{s:Shared}
set_option maxRecDepth 100000 in
end
section
variable {X:Cx}
end
end L2
namespace Fb
open PySem PySem.W PySem.Calls PyProof.Rows
def ou {P:Params}{h:Heap}:∀(ns:List Int)(vs:List Value),WellAll P h vs (ns.map WData.int)->IntsAre vs ns:=by
 intro ns
 induction ns with
 | nil =>
  intro vs w;rw [jb] at w;cases w;exact .nil
 | cons n ns ih =>
  intro vs w;rw [bu] at w;cases w with
  | cons a b =>
   cases a;exact .cons _ _ (ih _ b)
def Ay {l:OpenLaw}{n:Nat}(hn:l.most=some n){P:Params}{h:Heap}{args:List WData}{vals:List Value}
  (Gd:l.row.toRowW.claim.pre args=true)(JI:WellAll P h vals args) :
  ∃a vs ns,vals=[Value.ref a]/\args=[WData.list (ns.map WData.int)]/\h.get? a=some { cls:=.type "list",data:=.seq vs.toArray }/\IntsAre vs ns/\ns.length<=n:=by
 have YV:WShape.hasAll [] args [.list .int]=true:=(pre_splitW Gd).1;have hc:l.pre.holds [] { args:=args }=true:=(pre_splitW Gd).2;obtain⟨d,r,rfl,h1,h2⟩:=hasAllW_cons YV;obtain rfl:=hasAllW_nil h2;obtain⟨xs,rfl,h3⟩:=hasW_list h1;obtain⟨ns,rfl⟩:=items_int h3;have bc:ns.length<=n:=by
  unfold OpenLaw.pre at hc;have h4:(WTm.not (.lt (.lit (.int (n:Int))) (.len (.arg 0)))).holds [] { args:=[.list (ns.map .int)] }=true:=by
   have h4:=(holds_andW hc).1;rw [hn] at h4;exact h4
  have h5:=condW_of h4 (w_not (w_lt w_lit (w_len_list (w_arg rfl))));rw [aB] at h5;refine Nat.le_of_not_lt λq=>?_;have q':(n:Int) < ((ns.length:Nat):Int):=by omega
  first
   | (rw [dI q'] at h5;exact absurd h5 nofun)
   | (simp at h5;omega)
 cases JI with
 | cons w1 w2 =>
  cases w2;cases w1 with
  | list ho ox=>exact⟨_,_,ns,rfl,rfl,ho,ou ns _ ox,bc⟩
def AD (l:OpenLaw)(args:List WData):l.row.toRowW.claim.post args (.bool true) args=true :=
 postW_of (r:=l.row.toRowW) (X:=(true == true))
  (show WShape.has [] (.bool true) .bool=true by first | rfl | decide | simp [WShape.has,WShape.arms,WShape.armsAll])
  (show (WTm.eq .res (.lit (.bool true))).value [] { args:=args,res:=some (.bool true),after:=args }=some (.bool (true == true)) from w_eq_bool (w_res rfl) w_lit) rfl
def om {l:OpenLaw}{n:Nat}{q:Program}{loose:List Str}{XP:(Str->Option Value)->Heap->Prop}{YP:World->Heap->Prop}{d:DefRec}
  (hn:l.most=some n)(JV:d.params.defaults=[])
  (call:∀(w:World)(s₀ s₁:Shared)(mg mb:Str->Option Value)(fa:Addr)(o:Obj)(pm cd doc:Value)(a:Addr)(vs:List Value)(ns:List Int),
   Ground q loose [] XP w s₀ mg mb s₁.heap->YP w s₁.heap ->
   s₁.heap.get? fa=some o->o.data=.func (docDef d.name d.params d.body d.scope pm cd doc)->s₁.heap.CodeRec cd d.name->mg d.name=some (.ref fa) ->
   s₁.heap.get? a=some { cls:=.type "list",data:=.seq vs.toArray }->IntsAre vs ns->ns.length<=n->s₁.gens=#[] ->
   codeAny (model l.prog w) callerA (.call (.ref fa) ⟨[.ref a],[]⟩) (λr s'=>r=.ok (.ret (.bool true))/\OldK s₁.heap s'.heap/\s'.os=s₁.os/\AllBare s'.gens) s₁) :
  WalkO q loose XP YP l.row.toRowW d [] (λf vs=>PySem.call f vs):=by
 intro w s₀ s₁ mg mb G Y fa o pm cd doc dV kV ho hd uP hD JO hg args vals as Gd Y_ hrd JI hlo;obtain rfl:dV=.none:=Dflts.none hD JV;obtain rfl:kV=.none:=Dflts.noKw hD;obtain⟨a,vs,ns,rfl,rfl,DM,hints,bc⟩:=Ay hn Gd JI;refine enter_call (jj (call w s₀ s₁ mg mb fa o pm cd doc a vs ns G Y ho (fd_plain hd) uP JO DM hints bc hg) λr s' hq=>?_);obtain⟨rfl,h2,h3,h4⟩:=hq;exact⟨.inl ⟨.bool true,.bool true,[],rfl,λ_=>rfl,.bool true,AD l _,λ_=>⟨List.Pairwise.nil,λ_ hm=>(nomatch hm)⟩⟩,h2,h3,h4⟩
section
variable {prog:Program}{w:World}{A:Around}{E:Value->Shared->Prop}{s:Shared}{K:Frag}
def pZ (h:Heap):Heap:={ h with objs:=#[] }
def kn (h:Heap)(b:Addr):(pZ h).get? b=none:=by
 cases e:(pZ h).get? b with
 | none=>rfl
 | some o=>exact absurd (ba e) (Nat.not_lt_zero _)
def ledger (h:Heap)(L d:Addr):List (Addr×Obj):=(List.range h.objs.size).filterMap λa=>if a=L\/a=d then none else (h.get? a).map λo=>(a,o)
def iU {h:Heap}{L d a:Addr}{o:Obj}:(a,o)∈ledger h L d↔a≠L/\a≠d/\h.get? a=some o:=by
 unfold ledger;rw [sS];constructor
 .rintro⟨b,_,e⟩
  split at e
  .cases e
  rename_i hb
  obtain⟨o',ho,e'⟩:=cg.mp e;cases e';exact⟨λq=>hb (.inl q),λq=>hb (.inr q),ho⟩
 rintro⟨n1,n2,ho⟩;refine⟨a,j_.mpr (ba ho),?_⟩;rw [ax (show ¬(a=L\/a=d) from λq=>q.elim n1 n2),ho] <;> rfl
def vR {h:Heap}{L d:Addr}{od:Obj}(qY:d≠L)(ho:h.get? d=some od):News (pZ h) L h ([]++(d,od)::ledger h L d):=by
 rintro⟨a,o⟩ hp;rcases aQ.mp hp with e | hp
 .cases e;exact⟨ho,qY,kn _ _⟩
 obtain⟨n1,n2,e⟩:=iU.mp hp;exact⟨e,n1,kn _ _⟩
def Kc {h:Heap}{L:Addr}{m:Str->Option Value}(n:h.Ns L m):Fr (pZ h) L h m :=
 ⟨n,λb o e=>(by rw [kn] at e;cases e),cT _⟩
end
end Fb
namespace L2
open PySem PySem.Spec PyProof.Rows
theorem mI:∀{vs:List Value}{ns:List Int},IntsAre vs ns->aT (ns.map V.int) vs
 | _,_,.nil=>.nil
 | _,_,.cons n t h=>.cons ⟨t,rfl⟩ (mI h)
def KN (H:Hp):Prop:=∀b,H b=none\/∃o xs,H b=some (.i_ o (.lst xs))
def DC {P:Program}{w:World}{K:aV}{mg mb:Str->Option Value}{CX:xp}{k:Nat}{fa a:Addr}{fd:FuncData}{x:Str}{sp:Sp}{s₁:Shared}{vs:List Value}{ns:List Int}
  (KX:K.In s₁.heap)(r_:s₁.heap.Ns mainGlobals mg)(hb:s₁.heap.Ns builtinsNs mb)(JZ:∀x:Str,x ≠ "__name__" -> mb x=bootBuiltins x)(JP:s₁.heap.NoLimit)(hg:s₁.gens=#[])
  (ha:s₁.heap.get? a=some { cls:=.type "list",data:=.seq vs.toArray })(hi:IntsAre vs ns)(hl:ns.length<=sizeLine)(hr:dX k callerA)
  (F:∀base:Heap,K.In base->base.Ns mainGlobals mg->bI P w K mg base CX k fa fd [x] sp)(lV:∀(s:Shared)(u:Value),BindsTo s fd ⟨[u],[]⟩ [(x,u)])
  (xf:∀H:Hp,KN H->aH K H a (ns.map V.int)->sp [.ref a] H (λv _=>v=.bl true) λ_ _ _=>False)
  (J3:∀H e s',CX [] H s₁ (λ_ _ _=>False) e s'->False) :
  codeAny (model P w) callerA (.call (.ref fa) ⟨[.ref a],[]⟩) (λr s'=>r=.ok (.ret (.bool true))/\OldK s₁.heap s'.heap/\s'.os=s₁.os/\AllBare s'.gens) s₁:=by
 have rv:=mI hi;have Jy:=hi.length;have core:∀H:Hp,KN H->aH K H a (ns.map V.int)->j6 P w H s₁.heap->(∀b,H b≠none->b=a)->(H a≠none->K.lookup a=none) ->
   codeAny (model P w) callerA (.call (.ref fa) ⟨[.ref a],[]⟩) (λr s'=>r=.ok (.ret (.bool true))/\OldK s₁.heap s'.heap/\s'.os=s₁.os/\AllBare s'.gens) s₁:=by
  intro H hO hS bQ hA hK;have jP:∀{b:Addr}{o:Obj},s₁.heap.get? b=some o->H b=none->(kI s₁.heap H).get? b=some o:=λe n=>v_ e n;have Mp:∀{b:Addr}{o:Obj}{es:Array DictEntry}{ep:Nat},s₁.heap.get? b=some o->o.data=.dict es ep->H b=none:=λ{b o es ep} e d=>by
   cases q:H b with
   | none=>rfl
   | some u =>
    have e':b=a:=hA b (by rw [q];simp);subst e';rw [ha] at e;cases e;have d':Data.seq vs.toArray _=Data.dict es ep:=d;cases d'
  have F2:∀{b:Addr}{m:Str->Option Value},s₁.heap.Ns b m->(kI s₁.heap H).Ns b m:=λ{b m} ⟨o,es,ep,e,d,r⟩=>⟨o,es,ep,jP e (Mp e d),d,r⟩;have Nz:K.In (kI s₁.heap H):=λb o e=>jP (KX b o e) (by
   cases q:H b with
   | none=>rfl
   | some u =>
    have e':b=a:=hA b (by rw [q];simp);subst e';rw [hK (by rw [q];simp)] at e;cases e)
  have hM:Mod K mg (kI s₁.heap H):=⟨Nz,F2 r_,⟨mb,F2 hb,JZ⟩,let ⟨mc,h1,h2⟩:=JP;⟨mc,F2 h1,h2⟩⟩;have e0:oA P w K mg (kI s₁.heap H) callerA [] s₁ H:=⟨rfl,hM,λb o e=>zZ e,Nat.le_of_eq (sf _ _),trivial,λb hb=>absurd (show b∈([]:List Addr) from hb) (by simp),bQ,.of_eq hg⟩;refine jj ((F _ Nz (F2 r_)).run callerA [] s₁ H ⟨[.ref a],[]⟩ [.ref a] [.ref a] _ _ hr e0 (lV s₁ (.ref a)) (.cons rfl .nil) (xf H hO hS)) λr s' h=>?_;cases r with
  | error e=>exact(J3 H e s' h).elim
  | ok fl =>
   cases fl with
   | next=>exact False.elim h
   | brk=>exact False.elim h
   | cont=>exact False.elim h
   | ret u =>
    obtain⟨v,H',os,bare,un,Ge,r',q⟩:=h;have q':v=.bl true:=q;subst q';obtain rfl:u=Value.bool true:=r';refine⟨rfl,OldK.of_keep λb o e=>?_,os,bare⟩;cases q:H b with
    | none=>exact un.keep b o e q (by intro z;exact absurd (show b∈([]:List Addr) from z) (by simp)) (by simp)
    | some u =>
     rcases hO b with z | ⟨ob,xs,z⟩
     .rw [q] at z;cases z
     have z2:=un.kJ b ob _ z;obtain⟨e1,_⟩:=bQ b _ z;obtain⟨e2,_⟩:=Ge b _ z2;rw [e] at e1;cases e1;exact e2
 cases hk:K.lookup a with
 | some o =>
  have e:=KX a o hk;rw [ha] at e;cases e;refine core (λ_=>none) (λ_=>.inl rfl) (.inr ⟨_,vs.toArray,_,hk,rfl,rfl,rfl,by rw [bO,Jy];exact hl,by simpa using rv⟩) (λb u z=>by have z':(none:Option HO)=some u:=z;cases z') (λb z=>absurd rfl z) λz=>absurd rfl z
 | none =>
  refine core (λb=>if b=a then some (.i_ { cls:=.type "list",data:=.seq vs.toArray } (.lst (ns.map V.int))) else none) (λb=>?_) (.inl (.inr ⟨{ cls:=.type "list",data:=.seq vs.toArray },av rfl⟩)) (λb u z=>?_) (λb z=>?_) λ_=>hk
  .by_cases hb:b=a
   .exact .inr ⟨_,_,av hb⟩
   exact .inl (ax hb)
  .by_cases hb:b=a
   .have z':=(av hb).symm.trans z;cases z';subst hb;exact⟨ha,by rw [aB];exact hl,vs,_,rv,ha⟩
   have z':=(ax hb).symm.trans z;cases z'
  by_cases hb:b=a
  .exact hb
  exact absurd (ax hb) z
abbrev KOf {K:aV}{h:Heap}(_:K.In h):aV:=K
def Ou {l:PySem.W.OpenLaw}{n k:Nat}{q:Program}{loose:List Str}{XP:(Str->Option Value)->Heap->Prop}{YP:World->Heap->Prop}{d:DefRec}{K:Params->aV}{CX:World->xp}{sp:World->Sp}{x:Str}
  (hn:l.most=some n)(HJ:n<=sizeLine)(JV:d.params.defaults=[])(hr:dX k callerA)
  (hY:∀(w:World)(h:Heap),YP w h->(K w.params).In h)
  (F:∀(w:World)(mg:Str->Option Value)(fa:Addr)(h:Heap),(K w.params).In h->h.Ns mainGlobals mg->mg d.name=some (.ref fa) ->
   ∃fd:FuncData,(∀(s:Shared)(u:Value),BindsTo s fd ⟨[u],[]⟩ [(x,u)]) /\
    ∀base:Heap,(K w.params).In base->base.Ns mainGlobals mg->bI l.prog w (K w.params) mg base (CX w) k fa fd [x] (sp w))
  (xf:∀(w:World)(H:Hp)(a:Addr)(ns:List Int),ns.length<=n->KN H->aH (K w.params) H a (ns.map V.int)->sp w [.ref a] H (λv _=>v=.bl true) λ_ _ _=>False)
  (J3:∀(w:World)(H:Hp)(s:Shared)(e:Value)(s':Shared),CX w [] H s (λ_ _ _=>False) e s'->False) :
  PySem.W.WalkO q loose XP YP l.row.toRowW d [] (λf vs=>PySem.call f vs):=by
 refine Fb.om hn JV λw s₀ s₁ mg mb fa o pm cd doc a vs ns G Y ho hd uP JO DM hints bc hg=>?_;have KX:=hY w _ Y;obtain⟨fd,hb,hF⟩:=F w mg fa _ KX G.T.g JO;exact DC KX G.T.g G.T.b G.T.builtins G.T.nolimit hg DM hints (cO bc HJ) hr hF hb (λH hO hS=>xf w H a ns bc hO hS) λH e s'=>J3 w H s₁ e s'
def cS (s:Stmt):Arguments:=match s with
 | .FunctionDef _ a _ _ _ _ _ _ _ _=>a
 | _=>{ posonlyargs:=[],args:=[],vararg:=none,kwonlyargs:=[],kw_defaults:=[],kwarg:=none,defaults:=[] }
def bV (s:Stmt):List Stmt:=match s with
 | .FunctionDef _ _ b _ _ _ _ _ _ _=>b
 | _=>[]
def az (s:Stmt):Scope:=match s with
 | .FunctionDef _ _ _ _ _ _ sc _ _ _=>sc
 | _=>{ kind:=.function,names:=[],isGenerator:=false,isCoroutine:=false }
abbrev e_:xp:=λ_ _ _ _ _ _=>False
abbrev E0:XK:=λ_ _ _=>False
def rO {X:Cx}:Passes e_ X E0:=λ_ _ _ _ _ _ _ h=>h.elim
structure hZ (K:aV)(x qual:Str)(st:Stmt)(f:Addr)(fd:FuncData):Prop where
 ex:∃(oc:Value)(od:Option Addr)(kV doc pm:Value)(an:Option Addr)(dN ct:Value)(vL:Array (Option Value)),
  fd=PySem.W.fnOf x qual (cS st) (bV st) (az st) .none kV doc pm an dN ct/\K.lookup f=some ⟨oc,od,.func fd,vL⟩/\PySem.W.codeIn K dN qual=true
 kp:PySem.W.keepIn K (.ref f)=true
section
variable {P:Program}{w:World}{K:aV}{mg:Str->Option Value}{base:Heap}
def hZ.ok {x qual:Str}{st:Stmt}{f:Addr}{fd:FuncData}{N ps:List Str}{k:Nat}{sp:Sp}(F:hZ K x qual st f fd)(S:aK N ps (az st))(len:∀vs H Q E,sp vs H Q E->vs.length=ps.length)
  (iE:∀(dN:Value)(A:Around)(outer:List Env)(s:Shared)(H:Hp)(vs:List V)(Q:VK)(E:XK),dX k (A.deeper (envOfC qual (az st) s.heap.objs.size f dN))->sp vs H Q E ->
   ∃t,zg (nE e_ P w K mg base N qual (az st) f dN A outer s H E).AS (bV st) t/\t { nx:=λ_ H'=>Q .eJ H',rt:=Q } (start N vs) H):bI P w K mg base e_ (k+1) f fd ps sp:=by
 obtain⟨oc,od,kV,doc,pm,an,dN,ct,vL,rfl,lk,uP⟩:=F.ex;refine Eb lk uP S len λA outer s H vs Q E hr xf=>?_;obtain⟨t,h,q⟩:=iE dN A outer s H vs Q E hr xf;exact⟨t,h.AS,q⟩
def hZ.binds {x qual:Str}{st:Stmt}{f:Addr}{fd:FuncData}{ps:List Str}(F:hZ K x qual st f fd)
  (h:∀(kV doc pm:Value)(an:Option Addr)(dN ct:Value)(us:List Value),us.length=ps.length->bindArgs (PySem.W.fnOf x qual (cS st) (bV st) (az st) .none kV doc pm an dN ct) ⟨us,[]⟩=pure (ps.zip us)):Binds K fd ps []:=by
 obtain⟨oc,od,kV,doc,pm,an,dN,ct,vL,rfl,lk,uP⟩:=F.ex;exact .all (h kV doc pm an dN ct)
def DZ {x qual:Str}{st:Stmt}{f:Addr}{oc:Value}{od an:Option Addr}{vL:Array (Option Value)}{kV doc pm dN ct:Value}(l:K.lookup f=some ⟨oc,od,.func (PySem.W.fnOf x qual (cS st) (bV st) (az st) .none kV doc pm an dN ct),vL⟩)
  (c:PySem.W.codeIn K dN qual=true)(k:PySem.W.keepIn K (.ref f)=true):hZ K x qual st f (PySem.W.fnOf x qual (cS st) (bV st) (az st) .none kV doc pm an dN ct):=⟨⟨oc,od,kV,doc,pm,an,dN,ct,vL,rfl,l,c⟩,k⟩
end
def gu {A:Around}{k:Nat}(hr:dX k A):A.units+1 < cLine:=nW (Nat.add_le_add_left (by decide:1<=64) _) hr.units
section
variable {X:Cx}
def pv (i:Nat){x:Str}{pos:Pos}(hN:X.N[i]?=some x:=by rfl)(hv:Pf X.env.scope x:=by first | exact Or.inl rfl | exact Or.inr (bJ rfl) | exact Or.inr (Or.inr rfl))(hd:(x == ("__debug__":Str))=false:=by decide)
  (uP:(x == ("__classdict__":Str))=false:=by decide):PE X (.Name x pos) (fR i):=Ja hN hv hd uP
end
def iW {A B:Prop}(h:B):if false=true then A else B:=by
 rw [ax eG];exact h
def kC {A B:Prop}(h:A):if true=true then A else B:=by
 rw [av rfl];exact h
def dj {c A B:Prop} [Decidable c] (h1:c->A)(h2:¬c->B):if c then A else B:=by
 by_cases h:c
 .rw [av h];exact h1 h
 rw [ax h];exact h2 h
def aC (H H':Hp):Prop:=∀b o,H b=some o->H' b=some o
def aC.refl (H:Hp):aC H H:=λ_ _ h=>h
def aC.trans {H H1 H2:Hp}(a:aC H H1)(b:aC H1 H2):aC H H2:=λc o h=>b c o (a c o h)
def aC.free {H H':Hp}(e:aC H H'){l:Addr}(h:H' l=Option.none):H l=Option.none:=by
 cases q:H l with
 | none=>rfl
 | some o =>
  rw [e l o q] at h;cases h
def aC.seq {K:aV}{H H':Hp}{a:Addr}{xs:List V}(e:aC H H')(h:aH K H a xs):aH K H' a xs:=by
 rcases h with (h | ⟨o,h⟩) | h
 .exact .inl (.inl (e _ _ h))
 .exact .inl (.inr ⟨o,e _ _ h⟩)
 exact .inr h
end L2
namespace HD
open PySem PySem.W
def CK (st:SharedT->Thread->Option (SharedT×Thread))(ok:Thread->Bool):Nat->SharedT->Thread->Option SharedT
 | 0,_,_=>none
 | n+1,s,t=>match through t with
  | true=>some s
  | false=>match ok t with
   | false=>none
   | true=>match st s t with
    | some (s',t')=>CK st ok n s' t'
    | none=>none
theorem zQ {tb:String->Option Builtin}{p:Program}{w:World}{n₀:Nat}{ann:Option Value}:∀{n:Nat}{s s':SharedT}{t:Thread},CK (stepT (denote tb) p w) (stepOk n₀ ann) n s t=some s'->topRun tb p w n₀ ann n s.abs t=some s'.abs
 | 0,_,_,_,h=>by cases h
 | n+1,s,s',t,h=>by
  unfold CK at h;unfold topRun;cases he:through t with
  | true=>rw [he] at h;cases h;rfl
  | false =>
   rw [he] at h;cases hk:stepOk n₀ ann t with
   | false=>rw [hk] at h;cases h
   | true =>
    rw [hk] at h;cases hs:stepT (denote tb) p w s t with
    | none=>rw [hs] at h;cases h
    | some r=>obtain⟨s₂,t₂⟩:=r;rw [hs] at h;rw [stepT_spec hs];exact zQ h
def Ur:List Obj->Nat->BT->BT
 | [],_,t=>t
 | o::r,i,t=>Ur r (i+1) (t.ins i o)
noncomputable def Ae (P:Params):BT:=Ur (boot_heap P).objs.toList 0 .nil
def Bv (P:Params):absHeap (Ae P) 11 {}=boot_heap P:=by kernel_rfl
def Ke {β:Type}:Obj->(Obj->β)->β
 | ⟨c,d,t,s⟩,k=>k ⟨c,d,t,s⟩
def oM {β:Type}:List Obj->(List Obj->β)->β
 | [],k=>k []
 | x::r,k=>Ke x λy=>oM r λys=>k (y::ys)
theorem ql {β:Type}:∀(l:List Obj)(k:List Obj->β),oM l k=k l
 | [],_=>rfl
 | ⟨c,d,t,s⟩::r,k=>by
  show oM r (λys=>k (⟨c,d,t,s⟩::ys))=_;rw [ql r]
def Dz (p q:Program) (loose:List Str)(Xt:Shared->Bool){α:Type}(Yf:Shared->α)(g0:Bool)(h₀:Heap)(s:Shared) :=
 ((staticsOk (importedModules p.main.body) h₀ s.heap && namesBound p s.heap && gensDone s && laidKept h₀ s.heap),openSeen q loose (importedModules p.main.body) Xt g0 s,Yf s)
def Cy {β:Type}(f:Shared->β)(s:SharedT):β:=oM (s.tree.list s.n) λl=>f ⟨⟨l.toArray,s.life⟩,s.gens,s.drawn,s.toks,s.os⟩
def Cw {β:Type}(f:Shared->β)(s:SharedT):Cy f s=f s.abs:=ql _ _
def MJ {p q:Program}{loose:List Str}{Xt:Shared->Bool}{α:Type}{Yf:Shared->α}{Ya:World->α}{N:Nat}{g0:Bool}{ann:Option Value}{M:Nat}
  (C7:∀w:World,(fencedOpening treeTable p w N).map (λs=>(s.heap,s.gens,s.drawn,s.toks))=some (boot_heap w.params,Array.mk [],boot_drawn,boot_toks))
  (size:∀w:World,((boot_heap w.params).isNs mainGlobals && (Array.mk []:Array GenState).size == 0,(boot_heap w.params).objs.size,(boot_heap w.params).nsMap mainGlobals "__annotations__")=(true,11,ann))
  (run:∀(w:World)(os:OsState),(CK (stepT (denote treeTable) p w) (stepOk 11 ann) M ⟨Ae w.params,11,{},Array.mk [],boot_drawn,boot_toks,os⟩ (topStub p)).map (Cy (Dz p q loose Xt Yf g0 (boot_heap w.params)))=some (true,openGood q loose,Ya w))
  (le:Nat.ble M N=true):LeftO p q loose Xt Yf Ya N g0:=λw=>by
 obtain⟨⟨h,gs,d,k,os⟩,e,e'⟩:=cg.mp (C7 w);obtain⟨rfl,rfl,rfl,rfl⟩:h=boot_heap w.params/\gs=Array.mk []/\d=boot_drawn/\k=boot_toks:=by simpa using e'
 obtain⟨z1,z2,z3⟩:_/\_/\_:=by simpa only [oZ] using size w
 obtain⟨s',r0,l0⟩:=cg.mp (run w os);rw [Cw] at l0;obtain⟨l1,l2,l3⟩:_/\_/\_:=by simpa only [Dz,oZ] using l0
 have r:=zQ r0;have ea:SharedT.abs ⟨Ae w.params,11,{},Array.mk [],boot_drawn,boot_toks,os⟩=⟨boot_heap w.params,Array.mk [],boot_drawn,boot_toks,os⟩:=by
  unfold SharedT.abs;rw [Bv]
 rw [ea] at r;have r:=topRun_mono (N - M) _ _ _ _ r;rw [show M+(N - M)=N by have:=Nat.le_of_ble_eq_true le;omega] at r;have t:topFrom treeTable p w N ⟨boot_heap w.params,Array.mk [],boot_drawn,boot_toks,os⟩=some s'.abs:=by
  unfold topFrom;dsimp only;rw [z1,z2,z3,r];show (match staticsOk (importedModules p.main.body) (boot_heap w.params) s'.abs.heap && namesBound p s'.abs.heap && gensDone s'.abs && laidKept (boot_heap w.params) s'.abs.heap with | true=>_ | false=>_)=_
  rw [l1]
 unfold openEnds;rw [e];show (topFrom treeTable p w N _).map _=_;rw [t];exact congrArg some (Prod.ext l2 l3)
end HD
set_option maxHeartbeats 0
namespace HD
open PySem PySem.W L2 PySem.Challenge
def dE (P:Params)(x:Str)(t:Tok)(v:Value):DictEntry:=⟨PyData.keyHash P x,.str x t,v⟩
def top (p:Program) (i:Nat):Stmt:=p.main.body.getD i (.Pass ⟨0,0,0,0⟩)
def ie (p:Program) (i j:Nat):Stmt:=match top p i with
 | .ClassDef _ _ _ body _ _ _ _ _ _ _=>body.getD j (.Pass ⟨0,0,0,0⟩)
 | _=>.Pass ⟨0,0,0,0⟩
def posOf (s:Stmt):Pos:=match s with
 | .FunctionDef _ _ _ _ _ _ _ _ _ p=>p
 | _=>⟨0,0,0,0⟩
def cF (a:Addr)(n q:Str)(i:Nat)(l m:Int)(x y:Addr)(u v s t:Value)(z:Int)(w:Nat):Addr×Obj:=(a,⟨.type "code",none,.fields #[.str n i,.str q (i+1),.str "/claim/cut.py" (i+2),.int l 0,.int m 0,.int 0 0,.int 0 0,.int 3 0,.ref x,.bool true,.int 181 0,.ref y,u,v,s,t,.int z 0,.int l 0,.str "/claim/cut.py" w],#[]⟩)
def fF (a:Addr)(n q:Str)(s:Stmt)(m:Value):Addr×Obj:=(a,⟨.type "function",none,.func (fnOf n q (cS s) (bV s) (az s) .none .none .none m none (.ref (a-1)) .none),#[]⟩)
def dR (P:Params)(x:Str)(t:Tok)(a:Addr):DictEntry:=dE P x t (.ref a)
def m0:Value:=.str "__main__" 164
def m1:Value:=.str "wright.errors" 194
def m2:Value:=.str "wright.rules" 380
def m3:Value:=.str "wright.begin_tables" 412
def m4:Value:=.str "wright.loops" 506
def m5:Value:=.str "wright.tree_sizes" 536
def m6:Value:=.str "wright.grammar_faults" 557
def m7:Value:=.str "wright.least_trees" 584
def m8:Value:=.str "wright.grammars" 670
def m9:Value:=.str "wright.grammar_texts" 713
def w6:Value:=.str "law_wright_k16_parts_that_come_again" 776
noncomputable def K' (p:Program)(P:Params):Frag:=[
 (2,⟨.none,none,.dict #[] 0,#[]⟩),
 (3,⟨.type "dict",none,.dict #[dE P "__name__" 165 (.str "law_wright_k16_parts_that_come_again" 776),dE P "__doc__" 166 (.none),dE P "__package__" 167 (.none),dE P "__loader__" 168 (.builtin "__main__.__loader__#opaque"),dE P "__spec__" 169 (.none),dR P "__annotations__" 170 6,dR P "__builtins__" 171 4,dE P "__file__" 173 (.str "/claim/cut.py" 172),dE P "__cached__" 174 (.none),dR P "_wall" 193 21,dR P "WrightError" 213 31,dR P "NoRow" 238 51,dR P "NoRules" 254 63,dR P "Twice" 279 82,dR P "Endless" 304 101,dR P "Unmet" 329 120,dR P "Loop" 354 139,dR P "Vast" 379 158,dR P "heads_of" 387 165,dR P "words_in" 393 170,dR P "numbers_by_name" 399 175,dR P "standings_by_part" 411 182,dR P "found_empties" 419 187,dR P "first_places" 430 194,dR P "BeginTable" 505 244,dR P "find_loop" 513 253,dR P "steps_with_like_rows" 519 258,dR P "way_back" 535 265,dR P "least_sizes" 543 270,dR P "greatest_empty_sizes" 550 277,dR P "settled_sizes" 556 282,dE P "MOST_RULES" 560 (.int (60) 559),dR P "refuse_faults" 566 287,dR P "refuse_twice" 577 294,dR P "names_met" 583 299,dR P "least_by_part" 591 304,dR P "rule_size" 597 309,dR P "empty_by_name" 603 314,dR P "LeastTrees" 669 357,dR P "Grammar" 712 386,dR P "WAYS" 718 391,dR P "MARKS" 722 392,dE P "MOST_SIGNS" 724 (.int (14) 723),dR P "read_grammar" 730 397,dR P "read_row" 736 402,dR P "read_rules" 742 407,dR P "is_part" 749 414,dR P "comes_again" 756 421,dR P "with_added_rules" 767 428,dR P "rules_again" 775 435,dR P "_law_cell_at" 785 442,dR P "_law_stream" 796 449,dR P "_law_pool" 802 454,dR P "_law_part" 811 461,dR P "_law_rule" 817 466,dR P "_law_again" 825 473,dR P "_law_due" 838 480,dR P "law" 844 485] 58,#[]⟩),
 (cF 20 "_wall" "_wall" 187 1 1 15 16 .none (.ref 17) (.ref 18) (.ref 19) 191 192),
 (fF 21 "_wall" "_wall" (top p 0) m0),
 (30,⟨.type "dict",none,.dict #[dE P "__module__" 203 (.str "wright.errors" 194),dE P "__firstlineno__" 207 (.int (5) 206),dR P "__static_attributes__" 208 29,dR P "__weakref__" 210 32,dE P "__doc__" 211 (.none)] 3,#[]⟩),
 (31,⟨.type "type",none,.cls ⟨"WrightError",[.type "ValueError"],[.ref 31,.type "ValueError",.type "Exception",.type "BaseException",.type "object"],30,"WrightError",true,[],[.ref 51,.ref 63,.ref 82,.ref 101,.ref 120,.ref 139,.ref 158],false,none,false⟩,#[some (.ref 22),none,some (.str "WrightError" 196),some (.str "WrightError" 204),some (.builtin "ValueError.__new__"),some (.bool true)]⟩),
 (32,⟨.type "getset_descriptor",none,.fields #[.str "__weakref__" 209,.ref 31,.builtin "ExceptionGroup.__weakref__",.none],#[]⟩),
 (cF 47 "__init__" "NoRow.__init__" 226 9 2 42 43 .none (.ref 44) (.ref 45) (.ref 46) 231 232),
 (fF 48 "__init__" "NoRow.__init__" (ie p 3 0) m1),
 (50,⟨.type "dict",none,.dict #[dE P "__module__" 221 (.str "wright.errors" 194),dE P "__firstlineno__" 225 (.int (7) 224),dR P "__init__" 233 48,dR P "__static_attributes__" 235 49,dE P "__doc__" 236 (.none)] 2,#[]⟩),
 (51,⟨.type "type",none,.cls ⟨"NoRow",[.ref 31],[.ref 51,.ref 31,.type "ValueError",.type "Exception",.type "BaseException",.type "object"],50,"NoRow",true,[],[],false,none,false⟩,#[some (.ref 35),none,some (.str "NoRow" 214),some (.str "NoRow" 222),some (.builtin "ValueError.__new__"),some (.bool true)]⟩),
 (62,⟨.type "dict",none,.dict #[dE P "__module__" 246 (.str "wright.errors" 194),dE P "__firstlineno__" 250 (.int (12) 249),dR P "__static_attributes__" 251 61,dE P "__doc__" 252 (.none)] 2,#[]⟩),
 (63,⟨.type "type",none,.cls ⟨"NoRules",[.ref 31],[.ref 63,.ref 31,.type "ValueError",.type "Exception",.type "BaseException",.type "object"],62,"NoRules",true,[],[],false,none,false⟩,#[some (.ref 54),none,some (.str "NoRules" 239),some (.str "NoRules" 247),some (.builtin "ValueError.__new__"),some (.bool true)]⟩),
 (cF 78 "__init__" "Twice.__init__" 267 16 2 73 74 .none (.ref 75) (.ref 76) (.ref 77) 272 273),
 (fF 79 "__init__" "Twice.__init__" (ie p 5 0) m1),
 (81,⟨.type "dict",none,.dict #[dE P "__module__" 262 (.str "wright.errors" 194),dE P "__firstlineno__" 266 (.int (14) 265),dR P "__init__" 274 79,dR P "__static_attributes__" 276 80,dE P "__doc__" 277 (.none)] 2,#[]⟩),
 (82,⟨.type "type",none,.cls ⟨"Twice",[.ref 31],[.ref 82,.ref 31,.type "ValueError",.type "Exception",.type "BaseException",.type "object"],81,"Twice",true,[],[],false,none,false⟩,#[some (.ref 66),none,some (.str "Twice" 255),some (.str "Twice" 263),some (.builtin "ValueError.__new__"),some (.bool true)]⟩),
 (cF 97 "__init__" "Endless.__init__" 292 21 2 92 93 .none (.ref 94) (.ref 95) (.ref 96) 297 298),
 (fF 98 "__init__" "Endless.__init__" (ie p 6 0) m1),
 (100,⟨.type "dict",none,.dict #[dE P "__module__" 287 (.str "wright.errors" 194),dE P "__firstlineno__" 291 (.int (19) 290),dR P "__init__" 299 98,dR P "__static_attributes__" 301 99,dE P "__doc__" 302 (.none)] 2,#[]⟩),
 (101,⟨.type "type",none,.cls ⟨"Endless",[.ref 31],[.ref 101,.ref 31,.type "ValueError",.type "Exception",.type "BaseException",.type "object"],100,"Endless",true,[],[],false,none,false⟩,#[some (.ref 85),none,some (.str "Endless" 280),some (.str "Endless" 288),some (.builtin "ValueError.__new__"),some (.bool true)]⟩),
 (cF 116 "__init__" "Unmet.__init__" 317 26 2 111 112 .none (.ref 113) (.ref 114) (.ref 115) 322 323),
 (fF 117 "__init__" "Unmet.__init__" (ie p 7 0) m1),
 (119,⟨.type "dict",none,.dict #[dE P "__module__" 312 (.str "wright.errors" 194),dE P "__firstlineno__" 316 (.int (24) 315),dR P "__init__" 324 117,dR P "__static_attributes__" 326 118,dE P "__doc__" 327 (.none)] 2,#[]⟩),
 (120,⟨.type "type",none,.cls ⟨"Unmet",[.ref 31],[.ref 120,.ref 31,.type "ValueError",.type "Exception",.type "BaseException",.type "object"],119,"Unmet",true,[],[],false,none,false⟩,#[some (.ref 104),none,some (.str "Unmet" 305),some (.str "Unmet" 313),some (.builtin "ValueError.__new__"),some (.bool true)]⟩),
 (cF 135 "__init__" "Loop.__init__" 342 31 2 130 131 .none (.ref 132) (.ref 133) (.ref 134) 347 348),
 (fF 136 "__init__" "Loop.__init__" (ie p 8 0) m1),
 (138,⟨.type "dict",none,.dict #[dE P "__module__" 337 (.str "wright.errors" 194),dE P "__firstlineno__" 341 (.int (29) 340),dR P "__init__" 349 136,dR P "__static_attributes__" 351 137,dE P "__doc__" 352 (.none)] 2,#[]⟩),
 (139,⟨.type "type",none,.cls ⟨"Loop",[.ref 31],[.ref 139,.ref 31,.type "ValueError",.type "Exception",.type "BaseException",.type "object"],138,"Loop",true,[],[],false,none,false⟩,#[some (.ref 123),none,some (.str "Loop" 330),some (.str "Loop" 338),some (.builtin "ValueError.__new__"),some (.bool true)]⟩),
 (cF 154 "__init__" "Vast.__init__" 367 36 2 149 150 .none (.ref 151) (.ref 152) (.ref 153) 372 373),
 (fF 155 "__init__" "Vast.__init__" (ie p 9 0) m1),
 (157,⟨.type "dict",none,.dict #[dE P "__module__" 362 (.str "wright.errors" 194),dE P "__firstlineno__" 366 (.int (34) 365),dR P "__init__" 374 155,dR P "__static_attributes__" 376 156,dE P "__doc__" 377 (.none)] 2,#[]⟩),
 (158,⟨.type "type",none,.cls ⟨"Vast",[.ref 31],[.ref 158,.ref 31,.type "ValueError",.type "Exception",.type "BaseException",.type "object"],157,"Vast",true,[],[],false,none,false⟩,#[some (.ref 142),none,some (.str "Vast" 355),some (.str "Vast" 363),some (.builtin "ValueError.__new__"),some (.bool true)]⟩),
 (cF 164 "heads_of" "heads_of" 382 40 1 161 162 .none .none .none (.ref 163) 385 386),
 (fF 165 "heads_of" "heads_of" (top p 11) m2),
 (cF 169 "words_in" "words_in" 388 42 1 166 167 .none .none .none (.ref 168) 391 392),
 (fF 170 "words_in" "words_in" (top p 12) m2),
 (cF 174 "numbers_by_name" "numbers_by_name" 394 50 1 171 172 .none .none .none (.ref 173) 397 398),
 (fF 175 "numbers_by_name" "numbers_by_name" (top p 13) m2),
 (cF 181 "standings_by_part" "standings_by_part" 400 55 1 176 177 .none (.ref 178) (.ref 179) (.ref 180) 409 410),
 (fF 182 "standings_by_part" "standings_by_part" (top p 14) m2),
 (cF 186 "found_empties" "found_empties" 414 62 1 183 184 .none .none .none (.ref 185) 417 418),
 (fF 187 "found_empties" "found_empties" (top p 16) m3),
 (cF 193 "first_places" "first_places" 420 73 2 188 189 .none (.ref 190) (.ref 191) (.ref 192) 428 429),
 (fF 194 "first_places" "first_places" (top p 17) m3),
 (cF 205 "__init__" "BeginTable.__init__" 443 82 2 202 203 .none .none .none (.ref 204) 446 447),
 (fF 206 "__init__" "BeginTable.__init__" (ie p 18 0) m3),
 (cF 212 "find_begins" "BeginTable.find_begins" 449 93 3 207 208 .none (.ref 209) (.ref 210) (.ref 211) 458 459),
 (fF 213 "find_begins" "BeginTable.find_begins" (ie p 18 1) m3),
 (cF 219 "words_of_part" "BeginTable.words_of_part" 461 101 2 214 215 .none (.ref 216) (.ref 217) (.ref 218) 466 467),
 (fF 220 "words_of_part" "BeginTable.words_of_part" (ie p 18 2) m3),
 (cF 226 "first_words" "BeginTable.first_words" 469 104 2 221 222 .none (.ref 223) (.ref 224) (.ref 225) 474 475),
 (fF 227 "first_words" "BeginTable.first_words" (ie p 18 3) m3),
 (cF 233 "all_empty" "BeginTable.all_empty" 477 107 2 228 229 .none (.ref 230) (.ref 231) (.ref 232) 482 483),
 (fF 234 "all_empty" "BeginTable.all_empty" (ie p 18 4) m3),
 (cF 240 "words_of_parts" "BeginTable.words_of_parts" 485 110 3 235 236 .none (.ref 237) (.ref 238) (.ref 239) 491 492),
 (fF 241 "words_of_parts" "BeginTable.words_of_parts" (ie p 18 5) m3),
 (243,⟨.type "dict",none,.dict #[dE P "__module__" 438 (.str "wright.begin_tables" 412),dE P "__firstlineno__" 442 (.int (80) 441),dR P "__init__" 448 206,dR P "find_begins" 460 213,dR P "words_of_part" 468 220,dR P "first_words" 476 227,dR P "all_empty" 484 234,dR P "words_of_parts" 493 241,dR P "__static_attributes__" 498 242,dR P "__dict__" 500 245,dR P "__weakref__" 502 246,dE P "__doc__" 503 (.none)] 4,#[]⟩),
 (244,⟨.type "type",none,.cls ⟨"BeginTable",[.type "object"],[.ref 244,.type "object"],243,"BeginTable",true,[],[],false,none,false⟩,#[none,none,some (.str "BeginTable" 431),some (.str "BeginTable" 439),some (.builtin "object.__new__"),some (.bool true)]⟩),
 (245,⟨.type "getset_descriptor",none,.fields #[.str "__dict__" 499,.ref 244,.builtin "function.__dict__",.builtin "function.__dict__#set"],#[]⟩),
 (246,⟨.type "getset_descriptor",none,.fields #[.str "__weakref__" 501,.ref 244,.builtin "ExceptionGroup.__weakref__",.none],#[]⟩),
 (cF 252 "find_loop" "find_loop" 508 113 1 249 250 .none .none .none (.ref 251) 511 512),
 (fF 253 "find_loop" "find_loop" (top p 20) m4),
 (cF 257 "steps_with_like_rows" "steps_with_like_rows" 514 117 1 254 255 .none .none .none (.ref 256) 517 518),
 (fF 258 "steps_with_like_rows" "steps_with_like_rows" (top p 21) m4),
 (cF 264 "way_back" "way_back" 520 126 3 259 260 .none (.ref 261) (.ref 262) (.ref 263) 533 534),
 (fF 265 "way_back" "way_back" (top p 22) m4),
 (cF 269 "least_sizes" "least_sizes" 538 142 1 266 267 .none .none .none (.ref 268) 541 542),
 (fF 270 "least_sizes" "least_sizes" (top p 24) m5),
 (cF 276 "greatest_empty_sizes" "greatest_empty_sizes" 544 144 1 271 272 .none (.ref 273) (.ref 274) (.ref 275) 548 549),
 (fF 277 "greatest_empty_sizes" "greatest_empty_sizes" (top p 25) m5),
 (cF 281 "settled_sizes" "settled_sizes" 551 146 3 278 279 .none .none .none (.ref 280) 554 555),
 (fF 282 "settled_sizes" "settled_sizes" (top p 26) m5),
 (cF 286 "refuse_faults" "refuse_faults" 561 159 2 283 284 .none .none .none (.ref 285) 564 565),
 (fF 287 "refuse_faults" "refuse_faults" (top p 29) m6),
 (cF 293 "refuse_twice" "refuse_twice" 567 178 1 288 289 .none (.ref 290) (.ref 291) (.ref 292) 575 576),
 (fF 294 "refuse_twice" "refuse_twice" (top p 30) m6),
 (cF 298 "names_met" "names_met" 578 185 1 295 296 .none .none .none (.ref 297) 581 582),
 (fF 299 "names_met" "names_met" (top p 31) m6),
 (cF 303 "least_by_part" "least_by_part" 586 195 1 300 301 .none .none .none (.ref 302) 589 590),
 (fF 304 "least_by_part" "least_by_part" (top p 33) m7),
 (cF 308 "rule_size" "rule_size" 592 203 2 305 306 .none .none .none (.ref 307) 595 596),
 (fF 309 "rule_size" "rule_size" (top p 34) m7),
 (cF 313 "empty_by_name" "empty_by_name" 598 205 2 310 311 .none .none .none (.ref 312) 601 602),
 (fF 314 "empty_by_name" "empty_by_name" (top p 35) m7),
 (cF 325 "__init__" "LeastTrees.__init__" 616 212 3 322 323 .none .none .none (.ref 324) 619 620),
 (fF 326 "__init__" "LeastTrees.__init__" (ie p 36 0) m7),
 (cF 332 "least_of" "LeastTrees.least_of" 622 219 2 327 328 .none (.ref 329) (.ref 330) (.ref 331) 627 628),
 (fF 333 "least_of" "LeastTrees.least_of" (ie p 36 1) m7),
 (cF 339 "hollow_of" "LeastTrees.hollow_of" 630 222 2 334 335 .none (.ref 336) (.ref 337) (.ref 338) 635 636),
 (fF 340 "hollow_of" "LeastTrees.hollow_of" (ie p 36 2) m7),
 (cF 346 "begun_place" "LeastTrees.begun_place" 638 225 3 341 342 .none (.ref 343) (.ref 344) (.ref 345) 644 645),
 (fF 347 "begun_place" "LeastTrees.begun_place" (ie p 36 3) m7),
 (cF 353 "begun_of" "LeastTrees.begun_of" 647 228 4 348 349 .none (.ref 350) (.ref 351) (.ref 352) 654 655),
 (fF 354 "begun_of" "LeastTrees.begun_of" (ie p 36 4) m7),
 (356,⟨.type "dict",none,.dict #[dE P "__module__" 611 (.str "wright.least_trees" 584),dE P "__firstlineno__" 615 (.int (210) 614),dR P "__init__" 621 326,dR P "least_of" 629 333,dR P "hollow_of" 637 340,dR P "begun_place" 646 347,dR P "begun_of" 656 354,dR P "__static_attributes__" 662 355,dR P "__dict__" 664 358,dR P "__weakref__" 666 359,dE P "__doc__" 667 (.none)] 4,#[]⟩),
 (357,⟨.type "type",none,.cls ⟨"LeastTrees",[.type "object"],[.ref 357,.type "object"],356,"LeastTrees",true,[],[],false,none,false⟩,#[none,none,some (.str "LeastTrees" 604),some (.str "LeastTrees" 612),some (.builtin "object.__new__"),some (.bool true)]⟩),
 (358,⟨.type "getset_descriptor",none,.fields #[.str "__dict__" 663,.ref 357,.builtin "function.__dict__",.builtin "function.__dict__#set"],#[]⟩),
 (359,⟨.type "getset_descriptor",none,.fields #[.str "__weakref__" 665,.ref 357,.builtin "ExceptionGroup.__weakref__",.none],#[]⟩),
 (369,⟨.type "tuple",none,.seq #[.none] 0,#[]⟩),
 (cF 375 "__init__" "Grammar.__init__" 684 233 3 370 371 .none (.ref 372) (.ref 373) (.ref 374) 690 691),
 (376,⟨.type "function",none,.func (fnOf "__init__" "Grammar.__init__" (cS (ie p 38 0)) (bV (ie p 38 0)) (az (ie p 38 0)) (.ref 369) (.none) (.none) (.str "wright.grammars" 670) (none) (.ref 375) (.none)),#[]⟩),
 (cF 382 "start" "Grammar.start" 693 241 1 377 378 .none (.ref 379) (.ref 380) (.ref 381) 697 698),
 (fF 383 "start" "Grammar.start" (ie p 38 1) m8),
 (385,⟨.type "dict",none,.dict #[dE P "__module__" 679 (.str "wright.grammars" 670),dE P "__firstlineno__" 683 (.int (231) 682),dR P "__init__" 692 376,dR P "start" 699 383,dR P "__static_attributes__" 705 384,dR P "__dict__" 707 387,dR P "__weakref__" 709 388,dE P "__doc__" 710 (.none)] 4,#[]⟩),
 (386,⟨.type "type",none,.cls ⟨"Grammar",[.type "object"],[.ref 386,.type "object"],385,"Grammar",true,[],[],false,none,false⟩,#[none,none,some (.str "Grammar" 672),some (.str "Grammar" 680),some (.builtin "object.__new__"),some (.bool true)]⟩),
 (387,⟨.type "getset_descriptor",none,.fields #[.str "__dict__" 706,.ref 386,.builtin "function.__dict__",.builtin "function.__dict__#set"],#[]⟩),
 (388,⟨.type "getset_descriptor",none,.fields #[.str "__weakref__" 708,.ref 386,.builtin "ExceptionGroup.__weakref__",.none],#[]⟩),
 (391,⟨.type "tuple",none,.seq #[.str "left" 715,.str "right" 716,.str "none" 717] 0,#[]⟩),
 (392,⟨.type "tuple",none,.seq #[.str "*" 719,.str "+" 720,.str "?" 721] 0,#[]⟩),
 (cF 396 "read_grammar" "read_grammar" 725 247 1 393 394 .none .none .none (.ref 395) 728 729),
 (fF 397 "read_grammar" "read_grammar" (top p 43) m9),
 (cF 401 "read_row" "read_row" 731 255 3 398 399 .none .none .none (.ref 400) 734 735),
 (fF 402 "read_row" "read_row" (top p 44) m9),
 (cF 406 "read_rules" "read_rules" 737 264 3 403 404 .none .none .none (.ref 405) 740 741),
 (fF 407 "read_rules" "read_rules" (top p 45) m9),
 (cF 413 "is_part" "is_part" 743 275 1 408 409 .none (.ref 410) (.ref 411) (.ref 412) 747 748),
 (fF 414 "is_part" "is_part" (top p 46) m9),
 (cF 420 "comes_again" "comes_again" 750 277 1 415 416 .none (.ref 417) (.ref 418) (.ref 419) 754 755),
 (fF 421 "comes_again" "comes_again" (top p 47) m9),
 (cF 427 "with_added_rules" "with_added_rules" 757 279 1 422 423 .none (.ref 424) (.ref 425) (.ref 426) 765 766),
 (fF 428 "with_added_rules" "with_added_rules" (top p 48) m9),
 (cF 434 "rules_again" "rules_again" 768 290 1 429 430 .none (.ref 431) (.ref 432) (.ref 433) 773 774),
 (fF 435 "rules_again" "rules_again" (top p 49) m9),
 (cF 441 "_law_cell_at" "_law_cell_at" 778 298 2 436 437 .none (.ref 438) (.ref 439) (.ref 440) 783 784),
 (fF 442 "_law_cell_at" "_law_cell_at" (top p 51) w6),
 (cF 448 "_law_stream" "_law_stream" 786 302 2 443 444 .none (.ref 445) (.ref 446) (.ref 447) 794 795),
 (fF 449 "_law_stream" "_law_stream" (top p 52) w6),
 (cF 453 "_law_pool" "_law_pool" 797 309 2 450 451 .none .none .none (.ref 452) 800 801),
 (fF 454 "_law_pool" "_law_pool" (top p 53) w6),
 (cF 460 "_law_part" "_law_part" 803 321 3 455 456 .none (.ref 457) (.ref 458) (.ref 459) 809 810),
 (fF 461 "_law_part" "_law_part" (top p 54) w6),
 (cF 465 "_law_rule" "_law_rule" 812 323 2 462 463 .none .none .none (.ref 464) 815 816),
 (fF 466 "_law_rule" "_law_rule" (top p 55) w6),
 (cF 472 "_law_again" "_law_again" 818 332 1 467 468 .none (.ref 469) (.ref 470) (.ref 471) 823 824),
 (fF 473 "_law_again" "_law_again" (top p 56) w6),
 (cF 479 "_law_due" "_law_due" 826 339 1 474 475 .none (.ref 476) (.ref 477) (.ref 478) 836 837),
 (fF 480 "_law_due" "_law_due" (top p 57) w6),
 (cF 484 "law" "law" 839 349 1 481 482 .none .none .none (.ref 483) 842 843),
 (fF 485 "law" "law" (top p 58) w6)]
def as:List Addr:=[2,3,20,21,30,31,32,47,48,50,51,62,63,78,79,81,82,97,98,100,101,116,117,119,120,135,136,138,139,154,155,157,158,164,165,169,170,174,175,181,182,186,187,193,194,205,206,212,213,219,220,226,227,233,234,240,241,243,244,245,246,252,253,257,258,264,265,269,270,276,277,281,282,286,287,293,294,298,299,303,304,308,309,313,314,325,326,332,333,339,340,346,347,353,354,356,357,358,359,369,375,376,382,383,385,386,387,388,391,392,396,397,401,402,406,407,413,414,420,421,427,428,434,435,441,442,448,449,453,454,460,461,465,466,472,473,479,480,484,485]
def q' (p:Program):Program:=view p [0,2,3,4,5,6,7,8,9,11,12,13,14,16,17,18,20,21,22,24,25,26,28,29,30,31,33,34,35,36,38,40,41,42,43,44,45,46,47,48,49,51,52,53,54,55,56,57,58]
abbrev loose:List Str:=[]
abbrev steps:Nat:=3994
abbrev bound:Nat:=8968
abbrev A3:OpenLaw:=rw_wright_k16_parts_that_come_again
noncomputable abbrev K (P:Params):Frag:=K' pw_wright_k16_parts_that_come_again P
theorem N5 (P:Params):as=(K P).map (·.1):=by kernel_rfl
noncomputable abbrev hook:Hook:=kmHook K as N5 [301,272,267]
def pre (h:A3.row.wellSaid=true->A3.row.Holds):A3.Holds:=by
 o_law
 exact h (by assumption)
abbrev Xt:Shared->Bool:=λs=>xlAt (q' pw_wright_k16_parts_that_come_again) [] s && recOk (RowW.records (OpenRow.toRowW (OpenLaw.row rw_wright_k16_parts_that_come_again))) s
def run (w:World)(os:OsState):(CK (stepT (denote treeTable) pw_wright_k16_parts_that_come_again w) (stepOk 11 (some (.ref 6))) steps ⟨Ae w.params,11,{},Array.mk [],boot_drawn,boot_toks,os⟩ (topStub pw_wright_k16_parts_that_come_again)).map
  (Cy (Dz pw_wright_k16_parts_that_come_again (q' pw_wright_k16_parts_that_come_again) loose Xt (Hook.obs hook) true (boot_heap w.params)))=some (true,openGood (q' pw_wright_k16_parts_that_come_again) loose,Hook.val hook w):=by
 rw [PySem.W.Fast.te10156331382660048174,PySem.W.Fast.te11892475500146522536,PySem.W.Fast.te14364793385576792824,PySem.W.Fast.te6613529449190102663,PySem.W.Fast.te581291696614931013]
 kernel_rfl
theorem size (w:World):((boot_heap w.params).isNs mainGlobals && (Array.mk []:Array GenState).size == 0,(boot_heap w.params).objs.size,(boot_heap w.params).nsMap mainGlobals "__annotations__")=(true,11,some (.ref 6)):=by kernel_rfl
def C7:∀w:World,(fencedOpening treeTable pw_wright_k16_parts_that_come_again w bound).map (λs=>(s.heap,s.gens,s.drawn,s.toks))=some (boot_heap w.params,Array.mk [],boot_drawn,boot_toks) :=
 boot_open (nofun) nofun (λs=>by kernel_rfl)
def left:LeftO (OpenRow.toRowW A3.row).prog (q' pw_wright_k16_parts_that_come_again) loose Xt (Hook.obs hook) (Hook.val hook) bound:=MJ C7 size run nofun
def jx:DefRec:={ name := "law",params:=cS (top pw_wright_k16_parts_that_come_again 58),body:=bV (top pw_wright_k16_parts_that_come_again 58),scope:=az (top pw_wright_k16_parts_that_come_again 58),pos:=posOf (top pw_wright_k16_parts_that_come_again 58) }
def Xo:defOf (q' pw_wright_k16_parts_that_come_again) A3.row.name=some (jx,[]):=by kernel_rfl
def Xn:A3.row.prog.theDef A3.row.name=some (jx.params,jx.body,jx.scope):=by kernel_rfl
def Xm:kwWritten? jx.params.kwonlyargs jx.params.kw_defaults=some []:=by kernel_rfl
def Xl:(chainsOk (q' pw_wright_k16_parts_that_come_again) && opensWell A3.row.prog && (frees A3.row.toRowW && A3.row.within.isEmpty))=true:=by kernel_rfl
def Xk:jx.params.defaults=[]:=by kernel_rfl
def hold (h:WalkO (q' pw_wright_k16_parts_that_come_again) loose (XL (q' pw_wright_k16_parts_that_come_again) []) (Hook.says hook) A3.row.toRowW jx [] λf vs=>PySem.call f vs)(hw:A3.row.toRowW.promised):A3.Holds :=
 pre λP2=>holds_open (q:=q' pw_wright_k16_parts_that_come_again) (loose:=loose) (Xt:=Xt) (XP:=XL (q' pw_wright_k16_parts_that_come_again) []) (Yf:=Hook.obs hook) (Ya:=Hook.val hook) (YP:=Hook.says hook) (N:=bound) left (Hook.of hook) (Hook.keeps hook) (λs e=>xl_of s (rp.mp e).1) XL.keeps Xo Xn Xm (λs e=>recFacts_of (rp.mp e).2) rfl P2 Xl ⟨rfl,rfl,rfl,rfl,rfl,nofun⟩ hw h
end HD
set_option maxHeartbeats 4000000
namespace L2
open PySem PySem.Spec PyProof.Rows
abbrev zj:=Nat->St->Hp->Prop
def qx {CX:xp}{P:Program}{w:World}{K:aV}{mg:Str->Option Value}{base:Heap}{N:List Str}{qual:Str}{scope:Scope}{f:Addr}{cd:Value}{A:Around}{outer:List Env}{s:Shared}{H:Hp}{E:XK}:(nE CX P w K mg base N qual scope f cd A outer s H E).AS.K=K:=rfl
def QS {t:TS}{D:Ends}{σ:St}{H:Hp}(h:let E:=D;t E σ H):t D σ H:=h
def QQ {t u:TS}{D:Ends}{σ:St}{H:Hp}(h:let E:={ D with nx:=u D };t E σ H):Iz t u D σ H:=h
def MI {t u:TS}{D:Ends}{σ:St}{H:Hp}(h:let E:=D;let F:={ E with nx:=u E };t F σ H):Iz t u D σ H:=h
def QR {g:TG}{x:V}{σ:St}{H:Hp}{t:TS}{D:Ends}(h:let E:=D;g x σ H λσ2 H2=>t E σ2 H2):g x σ H λσ2 H2=>t D σ2 H2:=h
end L2
local macro_rules | `(tactic| nofun) => `(tactic| (dsimp only [L2.qx];refine L2.QQ ?_;intro _))
local macro_rules | `(tactic| ac_rfl) => `(tactic| (refine L2.MI ?_;intro _ _))
local macro_rules | `(tactic| ac_nf0) => `(tactic| (refine L2.QR ?_;intro _))
local macro_rules | `(tactic| ac_nf) => `(tactic| (refine L2.QS ?_;intro _))
set_option maxHeartbeats 0
namespace L2
open PySem PySem.Spec PyProof.Rows
section
variable {κ:Type} [DecidableEq κ]
def aY (kvs:List (κ×V))(k:κ):Option V:=(kvs.find? λkv=>decide (kv.1=k)).map (·.2)
def bj (kvs:List (κ×V))(k:κ)(v:V):List (κ×V) :=
 if (kvs.any λkv=>decide (kv.1=k))=true then kvs.map (λkv=>if kv.1=k then (kv.1,v) else kv) else kvs++[(k,v)]
def HV (kvs:List (κ×V))(k:κ):List (κ×V):=kvs.filter λkv=>decide (kv.1≠k)
def dF {p:κ×V}{r:List (κ×V)}{k:κ}(e:p.1=k):aY (p::r) k=some p.2:=by simp [aY,mv,e]
def dG {p:κ×V}{r:List (κ×V)}{k:κ}(e:¬p.1=k):aY (p::r) k=aY r k:=by simp [aY,mv,e]
theorem iw (k:κ):∀kvs:List (κ×V),(kvs.any λkv=>decide (kv.1=k))=(aY kvs k).isSome
 | []=>rfl
 | p::r=>by
  rw [oY];by_cases e:p.1=k
  .simp only [dF e,dI e,Bool.true_or,Option.isSome_some]
  rw [dG e,fN e,Bool.false_or];exact iw k r
theorem vv (k j:κ)(y:V):∀kvs:List (κ×V),aY (kvs.map λkv=>if kv.1=k then (kv.1,y) else kv) j=(aY kvs j).map λx=>if j=k then y else x
 | []=>rfl
 | p::r=>by
  have ih:=vv k j y r;rw [bu];by_cases h:p.1=k
  .rw [av h];by_cases e:p.1=j
   .rw [dF (p:=(p.1,y)) e,dF e,o6,av (e.symm.trans h)]
   rw [dG (p:=(p.1,y)) e,dG e,ih]
  rw [ax h];by_cases e:p.1=j
  .rw [dF (p:=p) e,dF e,o6,ax (λz=>h (e.trans z))]
  rw [dG (p:=p) e,dG e,ih]
theorem rB (k j:κ)(y:V):∀kvs:List (κ×V),aY kvs k=none->aY (kvs++[(k,y)]) j=if j=k then some y else aY kvs j
 | [],_=>by
  by_cases e:k=j
  .rw [av e.symm];exact dF (p:=(k,y)) e
  rw [ax (λz=>e z.symm)];exact dG (p:=(k,y)) e
 | p::r,hn=>by
  rw [List.cons_append];have hk:¬p.1=k:=λz=>by rw [dF z] at hn;cases hn
  rw [dG hk] at hn;have ih:=rB k j y r hn;by_cases e:p.1=j
  .rw [dF e,dF e,ax (λz=>hk (e.trans z))]
  rw [dG e,dG e,ih]
def vq (kvs:List (κ×V))(k j:κ)(y:V):aY (bj kvs k y) j=if j=k then some y else aY kvs j:=by
 unfold bj;by_cases a:(kvs.any λkv=>decide (kv.1=k))=true
 .rw [av a,vv];rw [iw] at a;by_cases e:j=k
  .obtain⟨x,hx⟩:=kS.mp a;rw [av e,e,hx,o6,av rfl]
  rw [ax e];cases aY kvs j with
  | none=>rfl
  | some x=>rw [o6,ax e]
 rw [ax a];refine rB k j y kvs ?_;rw [iw] at a;cases q:aY kvs k with
 | none=>rfl
 | some x=>rw [q] at a;exact(a rfl).elim
def dS (kvs:List (κ×V))(k:κ)(v:V):(bj kvs k v).length<=kvs.length+1:=by
 unfold bj
 split
 .rw [aB];omega
 rw [cu,cX,i0];omega
def vG {kvs:List (κ×V)}{k:κ}(v:V)(h:aY kvs k=none):bj kvs k v=kvs++[(k,v)]:=by
 unfold bj;rw [iw,h];exact ax nofun
def iY.iB {o:Option V}{u:Option Value}(r:iY o u):o.isSome=u.isSome:=by
 cases o with
 | none=>cases u with
  | none=>rfl
  | some _=>exact(show False from r).elim
 | some _=>cases u with
  | none=>exact(show False from r).elim
  | some _=>rfl
theorem iY.getD {o:Option V}{u:Option Value}{d:V}{d':Value}(r:iY o u)(rd:RelV d d'):RelV (o.getD d) (u.getD d'):=by
 cases o with
 | none=>cases u with
  | none=>exact rd
  | some _=>exact(show False from r).elim
 | some _=>cases u with
  | none=>exact(show False from r).elim
  | some _=>exact r
def KV.val {kvs:List (κ×V)}{vs:List (κ×Value)}(r:KV kvs vs)(k:κ):iY (aY kvs k) (valueAt vs k):=by
 unfold KV at r
 induction r with
 | nil=>exact True.intro
 | @cons p q ps qs h t ih =>
  obtain⟨h1,h2⟩:=h;by_cases e:p.1=k
  .have e':q.1=k:=h1.symm.trans e;have b:valueAt (q::qs) k=some q.2:=by simp [valueAt,mv,e']
   rw [dF e,b];exact h2
  have e':¬q.1=k:=λz=>e (h1.trans z);have b:valueAt (q::qs) k=valueAt qs k:=by simp [valueAt,mv,e']
  rw [dG e,b];exact ih
theorem KV.any {kvs:List (κ×V)}{vs:List (κ×Value)}(r:KV kvs vs)(k:κ):(kvs.any λkv=>decide (kv.1=k))=vs.any λkv=>decide (kv.1=k):=by
 unfold KV at r
 induction r with
 | nil=>rfl
 | cons h t ih=>rw [oY,oY,ih,h.1]
def KV.IY {kvs:List (κ×V)}{vs:List (κ×Value)}(r:KV kvs vs)(k:κ){y:V}{u:Value}(ry:RelV y u) :
  KV (kvs.map λkv=>if kv.1=k then (kv.1,y) else kv) (vs.map λkv=>if kv.1=k then (kv.1,u) else kv):=by
 unfold KV at r ⊢
 induction r with
 | nil=>exact .nil
 | @cons p q ps qs h t ih =>
  rw [bu,bu];refine .cons ?_ ih;obtain⟨h1,h2⟩:=h;by_cases e:p.1=k
  .rw [av e,av (h1.symm.trans e)];exact⟨h1,ry⟩
  rw [ax e,ax (λz=>e (h1.trans z))];exact⟨h1,h2⟩
def KV.put {kvs:List (κ×V)}{vs:List (κ×Value)}(r:KV kvs vs)(k:κ){y:V}{u:Value}(ry:RelV y u):KV (bj kvs k y) (stored vs k u):=by
 unfold bj stored;rw [r.any k];by_cases e:(vs.any λkv=>decide (kv.1=k))=true
 .rw [av e,av e];exact r.IY k ry
 rw [ax e,ax e];exact fj r ⟨rfl,ry⟩
def KV.drop {kvs:List (κ×V)}{vs:List (κ×Value)}(r:KV kvs vs)(k:κ):KV (HV kvs k) (without vs k):=by
 unfold KV at r ⊢;unfold HV without
 induction r with
 | nil=>exact .nil
 | @cons p q ps qs h t ih =>
  obtain⟨h1,h2⟩:=h;rw [o8,o8];by_cases e:p.1=k
  .have a:¬decide (p.1≠k)=true:=by simp [e]
   have b:¬decide (q.1≠k)=true:=by simp [h1.symm.trans e]
   rw [ax a,ax b];exact ih
  have e':¬q.1=k:=λz=>e (h1.trans z);have a:decide (p.1≠k)=true:=by simp [e]
  have b:decide (q.1≠k)=true:=by simp [e']
  rw [av a,av b];exact .cons ⟨h1,h2⟩ ih
def KV.keys {kvs:List (κ×V)}{vs:List (κ×Value)}(r:KV kvs vs):kvs.map (·.1)=vs.map (·.1):=by
 unfold KV at r
 induction r with
 | nil=>rfl
 | cons h t ih=>rw [bu,bu,ih,h.1]
theorem KV.length {kvs:List (κ×V)}{vs:List (κ×Value)}(r:KV kvs vs):kvs.length=vs.length:=a9 r
end
def jX {P:Program}{w:World}{k:aI}{u:Value}(r:RelV (kV k) u):(aU P w).is k u=true:=by
 cases k with
 | inl i=>obtain⟨t,e⟩:=(show ∃t,u=Value.int i t from r);subst e;exact vV P w i t
 | inr x=>obtain⟨t,e⟩:=(show ∃t,u=Value.str x t from r);subst e;exact vU P w x t
theorem rX {P:Program}{w:World}:∀{ks:List aI}{us:List Value},aT (ks.map kV) us->ItemsAre (aU P w) ks us
 | [],_,r=>by rw [jb] at r;cases r;exact .nil
 | k::ks,_,r=>by
  rw [bu] at r;cases r with
  | cons h t=>exact .cons (jX h) (rX t)
abbrev KT (H:Hp):List (List aI×V)->List (List aI×Addr×Value)->Prop:=Paired λp q=>p.1=q.1/\H q.2.1=some (.tup (p.1.map kV))/\RelV p.2 q.2.2
def KT.val {H:Hp}{kvs:List (List aI×V)}{xs:List (List aI×Addr×Value)}(r:KT H kvs xs)(k:List aI):iY (aY kvs k) ((atKey xs k).map (·.2)):=by
 induction r with
 | nil=>exact True.intro
 | @cons p q ps qs h t ih =>
  obtain⟨h1,_,h2⟩:=h;by_cases e:p.1=k
  .have e':q.1=k:=h1.symm.trans e;have b:atKey (q::qs) k=some q.2:=by simp [atKey,mv,e']
   rw [dF e,b];exact h2
  have e':¬q.1=k:=λz=>e (h1.trans z);have b:atKey (q::qs) k=atKey qs k:=by simp [atKey,mv,e']
  rw [dG e,b];exact ih
def KT.IY {H:Hp}{kvs:List (List aI×V)}{xs:List (List aI×Addr×Value)}(r:KT H kvs xs)(k:List aI){y:V}{u:Value}(ry:RelV y u) :
  KT H (kvs.map λkv=>if kv.1=k then (kv.1,y) else kv) (xs.map (putAt k u)):=by
 induction r with
 | nil=>exact .nil
 | @cons p q ps qs h t ih =>
  rw [bu,bu];refine .cons ?_ ih;obtain⟨h1,h2,h3⟩:=h;unfold putAt;by_cases e:p.1=k
  .rw [av e,av (h1.symm.trans e)];exact⟨h1,h2,ry⟩
  rw [ax e,ax (λz=>e (h1.trans z))];exact⟨h1,h2,h3⟩
def KT.put {H:Hp}{kvs:List (List aI×V)}{xs:List (List aI×Addr×Value)}(r:KT H kvs xs)(k:List aI){b:Addr}{y:V}{u:Value}(hb:H b=some (.tup (k.map kV)))(ry:RelV y u) :
  KT H (bj kvs k y) (storedH xs k b u):=by
 have e:(kvs.any λkv=>decide (kv.1=k))=(atKey xs k).isSome:=by
  rw [iw,(r.val k).iB,mF]
 unfold bj storedH;rw [e];by_cases q:(atKey xs k).isSome=true
 .rw [av q,av q];exact r.IY k ry
 rw [ax q,ax q];exact fj r ⟨rfl,hb,ry⟩
def KT.keeps {H H':Hp}{kvs:List (List aI×V)}{xs:List (List aI×Addr×Value)}(r:KT H kvs xs)(ht:∀b ys,H b=some (.tup ys)->H' b=some (.tup ys)):KT H' kvs xs :=
 Paired.gy r λ_ _ z=>⟨z.1,ht _ _ z.2.1,z.2.2⟩
section
variable {P:Program}{w:World}{H:Hp}{h:Heap}{a:Addr}
def Hq {u:HO}(ok:j6 P w H h)(e:Rd H a u):bY P w H h a u:=e.ok ok
def l7 {kvs:List (aI×V)}(ok:j6 P w H h)(e:Rd H a (.dK kvs)):kvs.length<=sizeLine/\(a == sysModules)=false/\∃vs,KV kvs vs/\h.DictOf (aU P w) a vs :=
 show bY P w H h a (.dK kvs) from Hq ok e
def wo {kvs:List (aI×V)}(ok:j6 P w H h)(e:H a=some (.dK kvs)):kvs.length<=sizeLine/\(a == sysModules)=false/\∃vs,KV kvs vs/\h.DictOf (aU P w) a vs:=l7 ok (.inl e)
def kA {ks:List aI}(ok:j6 P w H h)(e:H a=some (.tup (ks.map kV))):(tupleKind (aU P w)).is h ks a:=by
 obtain⟨_,aL,r,o,h1,h2,n,h3⟩:=(show bY P w H h a (.tup (ks.map kV)) from ok a _ e);exact⟨o,aL.toArray,n,h1,h2,h3,by simpa using rX r⟩
def qv {kvs:List (List aI×V)}(ok:j6 P w H h)(e:Rd H a (.dT kvs)):kvs.length<=sizeLine/\(a == sysModules)=false /\
  ∃xs,KT H kvs xs/\h.DictOfH (tupleKind (aU P w)) a xs:=by
 obtain⟨z,y,xs,r,o,es,ep,h1,h2,h3,h4,h5⟩:=(show bY P w H h a (.dT kvs) from Hq ok e);refine⟨z,y,xs,r,o,es,ep,h1,h2,h3,h4,λx hx=>?_,h5⟩;have all:∀{l:List (List aI×V)}{m:List (List aI×Addr×Value)},KT H l m->∀x∈m,(tupleKind (aU P w)).is h x.1 x.2.1:=by
  intro l m q
  induction q with
  | nil=>intro x hx;exact nomatch hx
  | @cons p q ps qs hq t ih =>
   intro x hx;rcases aQ.mp hx with e | hx
   .subst e;exact kA ok (by rw [<-hq.1];exact hq.2.1)
   exact ih x hx
 exact all r x hx
def NR {kvs:List (List aI×V)}(ok:j6 P w H h)(e:H a=some (.dT kvs)):kvs.length<=sizeLine/\(a == sysModules)=false /\
  ∃xs,KT H kvs xs/\h.DictOfH (tupleKind (aU P w)) a xs:=qv ok (.inl e)
end
def bX (H:Hp)(a:Addr)(y:V)(r:Option V):Prop :=
 (∃kvs k,Rd H a (.dK kvs)/\y=kV k/\r=aY kvs k)\/∃kvs k b,Rd H a (.dT kvs)/\y=.ref b/\H b=some (.tup (k.map kV))/\r=aY kvs k
def mf (H:Hp)(a:Addr)(y v:V)(H':Hp):Prop :=
 (∃kvs k,H a=some (.dK kvs)/\y=kV k/\kvs.length < sizeLine/\H'=upd H a (.dK (bj kvs k v))) \/
 ∃kvs k b,H a=some (.dT kvs)/\y=.ref b/\H b=some (.tup (k.map kV))/\kvs.length < sizeLine/\H'=upd H a (.dT (bj kvs k v))
theorem bX.k {H:Hp}{a:Addr}{kvs:List (aI×V)}{k:aI}(e:H a=some (.dK kvs)):bX H a (kV k) (aY kvs k):=.inl ⟨kvs,k,.inl e,rfl,rfl⟩
def bX.t {H:Hp}{a b:Addr}{kvs:List (List aI×V)}{k:List aI}(e:H a=some (.dT kvs))(eb:H b=some (.tup (k.map kV))):bX H a (.ref b) (aY kvs k):=.inr ⟨kvs,k,b,.inl e,rfl,eb,rfl⟩
theorem mf.k {H:Hp}{a:Addr}{kvs:List (aI×V)}{k:aI}{v:V}(e:H a=some (.dK kvs))(hl:kvs.length < sizeLine):mf H a (kV k) v (upd H a (.dK (bj kvs k v))):=.inl ⟨kvs,k,e,rfl,hl,rfl⟩
def mf.t {H:Hp}{a b:Addr}{kvs:List (List aI×V)}{k:List aI}{v:V}(e:H a=some (.dT kvs))(eb:H b=some (.tup (k.map kV)))(hl:kvs.length < sizeLine) :
  mf H a (.ref b) v (upd H a (.dT (bj kvs k v))):=.inr ⟨kvs,k,b,e,rfl,eb,hl,rfl⟩
section
variable {X:Cx}{ah:List (Addr×Obj)}{σ:St}{H:Hp}{s:Shared}{a:Addr}{y v:V}{u r:Value}{o:Option V}{A:Around}{E:Value->Shared->Prop}
def Inv.big (I:Inv X ah σ H s):sysModules < s.heap.objs.size:=by
 have h:mainGlobals < s.heap.objs.size:=(I.mod.glob.keeps I.bk).lt;exact j8 nofun h
def Bo {Q:Value->Shared->Prop}(hu:A.units+1 < cLine)(I:Inv X ah σ H s)(g:bX H a y (some v))(ry:RelV y u)(h:∀w' s',Inv X ah σ H s'->RelV v w'->Q w' s') :
  wpAny (model X.prog X.w) A (getItem (.ref a) u) Q E s:=by
 rcases g with ⟨kvs,k,e,ey,l⟩ | ⟨kvs,k,b,e,ey,eb,l⟩
 .subst ey;obtain⟨z,hd,vs,rel,dd⟩:=l7 I.bQ e;obtain⟨w',hw,ye⟩:=iY.some_of (v:=v) (o:=valueAt vs k) (by rw [l];exact rel.val k);exact wpAny_getItem_of (jX ry) dd.mapOf hw (h w' _ (I.tok _) ye)
 subst ey;cases (show u=Value.ref b from ry);obtain⟨z,hd,xs,rel,dd⟩:=qv I.bQ e;obtain⟨w',hw,ye⟩:=iY.some_of (v:=v) (o:=(atKey xs k).map (·.2)) (by rw [l];exact rel.val k);obtain⟨p,hp,ng⟩:=cg.mp hw;refine wpAny_getItem_heap (mE hu) (kA I.bQ eb) dd hp ?_;rw [ng];exact h w' _ (I.tok _) ye
def SJ {Q:Value->Shared->Prop}(hu:A.units+1 < cLine)(I:Inv X ah σ H s)(g:bX H a y o)(ry:RelV y u)(h:∀s',Inv X ah σ H s'->Q (.bool o.isSome) s') :
  wpAny (model X.prog X.w) A (compareOp .In u (.ref a)) Q E s:=by
 rcases g with ⟨kvs,k,e,ey,l⟩ | ⟨kvs,k,b,e,ey,eb,l⟩
 .subst ey;obtain⟨z,hd,vs,rel,dd⟩:=l7 I.bQ e;refine wpAny_in_of (jX ry) hd dd.mapOf ?_;rw [<-(rel.val k).iB,<-l];exact h _ (I.tok _)
 subst ey;cases (show u=Value.ref b from ry);obtain⟨z,hd,xs,rel,dd⟩:=qv I.bQ e;refine wpAny_in_heap (mE hu) (kA I.bQ eb) hd dd ?_;have q:=(rel.val k).iB;rw [mF] at q;rw [<-q,<-l];exact h _ (I.tok _)
def GI {Q:Value->Shared->Prop}(hu:A.units+1 < cLine)(I:Inv X ah σ H s)(g:bX H a y o)(ry:RelV y u)(h:∀s',Inv X ah σ H s'->Q (.bool (!o.isSome)) s') :
  wpAny (model X.prog X.w) A (compareOp .NotIn u (.ref a)) Q E s:=by
 rcases g with ⟨kvs,k,e,ey,l⟩ | ⟨kvs,k,b,e,ey,eb,l⟩
 .subst ey;obtain⟨z,hd,vs,rel,dd⟩:=l7 I.bQ e;refine wpAny_notIn_of (jX ry) hd dd.mapOf ?_;rw [<-(rel.val k).iB,<-l];exact h _ (I.tok _)
 subst ey;cases (show u=Value.ref b from ry);obtain⟨z,hd,xs,rel,dd⟩:=qv I.bQ e;refine wpAny_notIn_heap (mE hu) (kA I.bQ eb) hd dd ?_;have q:=(rel.val k).iB;rw [mF] at q;rw [<-q,<-l];exact h _ (I.tok _)
def oO {h':Heap}{t':Nat}{ob:HO}(I:Inv X ah σ H s)(mu:Of (H a))(hs:Heap.SameBut a s.heap h')(he:∃q,h'.get? a=some q)(new:bY X.prog X.w (upd H a ob) h' a ob) :
  Inv X ah σ (upd H a ob) { s with heap:=h',toks:=t' } :=
 I.write (x:=a) (e:=a) mu (.inl rfl) (λb q hb z=>(hs.2 b hb).trans z) he new
def qw {P:Program}{w:World}{H':Hp}{h':Heap}{kvs:List (aI×V)}{vs:List (aI×Value)}(z:kvs.length<=sizeLine)(hd:(a == sysModules)=false)(rel:KV kvs vs)(dd:h'.DictOf (aU P w) a vs) :
  bY P w H' h' a (.dK kvs):=⟨z,hd,vs,rel,dd⟩
def Bm {H':Hp}{Q:Unit->Shared->Prop}(hu:A.units+1 < cLine)(I:Inv X ah σ H s)(g:mf H a y v H')(ry:RelV y u)(rv:RelV v r)(h:∀s',Inv X ah σ H' s'->Q () s') :
  wpAny (model X.prog X.w) A (setItem (.ref a) u r) Q E s:=by
 rcases g with ⟨kvs,k,e,ey,l,eH⟩ | ⟨kvs,k,b,e,ey,eb,l,eH⟩
 .subst ey eH;obtain⟨z,hd,vs,rel,dd⟩:=wo I.bQ e;have hz:vs.length<=sizeLine:=by rw [<-rel.length];exact z
  have hl:(bj kvs k v).length<=sizeLine:=by have:=dS kvs k v;omega
  refine wpAny_setItem_pairs (hsz:=hz) (jX ry) dd λh' E5 hs=>h _ ?_;have he:∃q,h'.get? a=some q:=let ⟨q,_,_,hq,_⟩:=E5;⟨q,hq⟩;exact oO I (by rw [e];exact True.intro) hs he (qw hl hd (rel.put k rv) E5)
 subst ey eH;cases (show u=Value.ref b from ry);obtain⟨z,hd,xs,rel,dd⟩:=NR I.bQ e;have hz:xs.length<=sizeLine:=by rw [<-a9 rel];exact z
 have hl:(bj kvs k v).length<=sizeLine:=by have:=dS kvs k v;omega
 refine wpAny_setItem_heap (hsz:=hz) (mE hu) (kA I.bQ eb) dd λh' E5 hs=>h _ ?_;obtain⟨q,es,ep,hq,h2,h3,h4,_,h5⟩:=E5;refine oO I (by rw [e];exact True.intro) hs ⟨q,hq⟩ ⟨hl,hd,_,(rel.put k eb rv).keeps λc ys ec=>?_,q,es,ep,hq,h2,h3,h4,h5⟩;rw [ai (Ms ec e (λz=>nomatch z))];exact ec
end
section
variable {X:Cx}{ah:List (Addr×Obj)}{σ:St}{H:Hp}{s:Shared}{a:Addr}{kvs:List (aI×V)}{k:aI}{u:Value}{A:Around}{E:Value->Shared->Prop}
def NT {Q:Value->Shared->Prop}(I:Inv X ah σ H s)(e:Rd H a (.dK kvs))(h:∀t s',Inv X ah σ H s'->Q (.int kvs.length t) s'):wpAny (model X.prog X.w) A (call (.builtin "len") [.ref a]) Q E s:=by
 obtain⟨z,hd,vs,rel,dd⟩:=l7 I.bQ e;refine call_len_dict hd dd (by rw [<-rel.length];rw [sizeLine_eq] at z;omega) ?_;rw [<-rel.length];exact h _ _ (I.tok _)
end
def Oe (i:Expr):Prop:=∀ov iv,subscripted i false ov iv=operate [ov,iv] (getItem ov iv)
def zA {prog:Program}{w:World}{A:Around}{E:Value->Shared->Prop}{s:Shared}{env:Env}{value slice:Expr}{pos:Pos}{T id:String}{Q:Value->Shared->Prop}
  (hl:typeLookup (.type T) "__getitem__"=pure (some (.builtin id)))(hs:Oe slice)
  (h:wpAny (model prog w) A (eval value env) (λo s₁=>wpAny (model prog w) A (eval slice env) (λi s₂=>s₂.TypeIs o T/\wpAny (model prog w) A (getItem o i) Q E s₂) E s₁) E s) :
  wpAny (model prog w) A (eval (.Subscript value slice pos) env) Q E s:=by
 refine Subscript_ (cJ h (λo s₁ h₁=>cJ h₁ (λi s₂ h₂=>?_) λ_ _ x=>x) λ_ _ x=>x);obtain⟨hT,h₂⟩:=h₂;unfold subscriptTail;refine aJ ?_;rw [getitemInPython_of_ne hT.not_modules];refine aJ (wpAny_specialOf hT hl ?_);have fin:wpAny (model prog w) A (subscripted slice false o i) (λr s₃=>wpAny (model prog w) A (letTemporaryGo value o r >>= λ_=>pure r) Q E s₃) E s₂:=by
  rw [hs o i];exact wpAny_operating (cJ h₂ (λr s₃ h₃=>aJ (wpAny_letTemporaryGo (aZ h₃))) λ_ _ x=>x)
 first
  | exact aZ (aJ fin)
  | exact aJ (aZ (aJ fin))
  | exact aJ fin
def wu {X:Cx}{ah:List (Addr×Obj)}{σ:St}{H:Hp}{s:Shared}{a:Addr}{y:V}{o:Option V}(I:Inv X ah σ H s)(g:bX H a y o):s.TypeIs (.ref a) "dict" := by
 rcases g with ⟨kvs,k,e,_,_⟩ | ⟨kvs,k,b,e,_,_,_⟩
 .obtain⟨_,_,vs,_,dd⟩:=l7 I.bQ e;exact dd.typeIs
 obtain⟨_,_,xs,_,dd⟩:=qv I.bQ e;exact dd.typeIs
inductive Wn (x:V)(S:Addr->Hp->Prop)(R:Hp->Prop):Prop
|mk(a:Addr)(H4:Hp)(e:x=.ref a)(s:S a H4)(q:R H4)
inductive Wo (S:Option V->Prop)(R:Option V->Prop):Prop
|mk(o:Option V)(s:S o)(q:R o)
inductive Wq (x:V)(S:Addr->V->Prop)(R:V->Prop):Prop
|mk(a:Addr)(v:V)(e:x=.ref a)(s:S a v)(q:R v)
inductive Tr (x:V)(S:Addr->Option V->Prop)(R:Option V->Prop):Prop
|mk(a:Addr)(o:Option V)(e:x=.ref a)(s:S a o)(q:R o)
def zx (td ty:TE):TE:=λσ H Q=>td σ H λx H1=>ty σ H1 λy H2=>Wq x (λa v=>bX H2 a y (some v)) λv=>Q v H2
def LO (ty td:TE):TE:=λσ H Q=>ty σ H λy H1=>td σ H1 λx H2=>Tr x (λa o=>bX H2 a y o) λo=>Q (.bl o.isSome) H2
def zu (ty td:TE):TE:=λσ H Q=>ty σ H λy H1=>td σ H1 λx H2=>Tr x (λa o=>bX H2 a y o) λo=>Q (.bl (!o.isSome)) H2
def LZ (td ty tv:TE):TS:=λD σ H=>tv σ H λv H1=>td σ H1 λx H2=>ty σ H2 λy H3=>Wn x (λa H4=>mf H3 a y v H4) λH4=>D.nx σ H4
section
variable {X:Cx}{o i e value:Expr}{pos pos' mK:Pos}{td ty tv:TE}
def d5 (hu:X.A.units+1 < cLine)(ho:PE X o td)(hi:PE X i ty)(hs:Oe i):PE X (.Subscript o i pos) (zx td ty):=by
 intro ah s σ H Q I h;refine zA PySem.F.slot_dict_getitem.lookup hs (cD (ho ah s σ H _ I h) λu s1 a8=>?_);obtain⟨x,H1,I1,rx,q1⟩:=a8;refine cD (hi ah s1 σ H1 _ I1 q1) λiv s2 a8=>?_;obtain⟨y,H2,I2,ry,a,v,ex,g,q2⟩:=a8;subst ex;obtain rfl:u=Value.ref a:=rx;exact⟨wu I2 g,Bo hu I2 g ry λw' s3 I3 ye=>⟨v,H2,I3,ye,q2⟩⟩
def mU (hu:X.A.units+1 < cLine)(hi:PE X i ty)(ho:PE X o td):PC X .In i o (LO ty td):=by
 intro ah s σ H Q I h;refine cD (hi ah s σ H _ I h) λiv s1 a8=>?_;obtain⟨y,H1,I1,ry,q1⟩:=a8;refine cD (ho ah s1 σ H1 _ I1 q1) λu s2 a8=>?_;obtain⟨x,H2,I2,rx,a,ov,ex,g,q2⟩:=a8;subst ex;obtain rfl:u=Value.ref a:=rx;exact SJ hu I2 g ry λs3 I3=>⟨.bl ov.isSome,H2,I3,rfl,q2⟩
def di (hu:X.A.units+1 < cLine)(hi:PE X i ty)(ho:PE X o td):PC X .NotIn i o (zu ty td):=by
 intro ah s σ H Q I h;refine cD (hi ah s σ H _ I h) λiv s1 a8=>?_;obtain⟨y,H1,I1,ry,q1⟩:=a8;refine cD (ho ah s1 σ H1 _ I1 q1) λu s2 a8=>?_;obtain⟨x,H2,I2,rx,a,ov,ex,g,q2⟩:=a8;subst ex;obtain rfl:u=Value.ref a:=rx;exact GI hu I2 g ry λs3 I3=>⟨.bl (!ov.isSome),H2,I3,rfl,q2⟩
def gJ (hu:X.A.units+1 < cLine)(ho:PE X o td)(hi:PE X i ty)(hv:PE X value tv)(hs:swapsWith value (some (.Subscript o i pos')) pos.line X.env=pure false) :
  PS X (.Assign [.Subscript o i pos'] value pos) (LZ td ty tv):=by
 intro ah s σ H D I h;refine wpAny_Assign_Subscript (cD (hv ah s σ H _ I h) λr s1 a8=>?_) hs;obtain⟨v,H1,I1,rv,q1⟩:=a8;refine cD (ho ah s1 σ H1 _ I1 q1) λu s2 a8=>?_;obtain⟨x,H2,I2,rx,q2⟩:=a8;refine cD (hi ah s2 σ H2 _ I2 q2) λiv s3 a8=>?_;obtain⟨y,H3,I3,ry,a,H4,ex,g,q3⟩:=a8;subst ex;obtain rfl:u=Value.ref a:=rx;exact Bm hu I3 g ry rv λs4 I4=>⟨σ,H4,I4,q3⟩
end
def wq {P:Program}{w:World}{H:Hp}(h:Heap)(hb:sysModules < h.objs.size):bY P w H (h.push { cls:=.type "dict",data:=.dict #[] }) h.objs.size (.dK []) :=
 ⟨cT _,i3.mpr (fk (bM hb)),[],.nil,Heap.DictOf.new h⟩
def Cd:TE:=λ_ H Q=>∀p,H p=none->Q (.ref p) (upd H p (.dK []))
section
variable {X:Cx}{pos:Pos}
def fI:PE X (.Dict [] [] pos) Cd:=λah s σ H Q I h =>
 wpAny_Dict_empty ⟨.ref s.heap.objs.size,_,I.laid (a:=s.heap.objs.size) (o:=.dK []) (t':=s.toks) (λ_ _ q=>bS _ q) (aF _) (wq s.heap I.big),rfl,h _ (I.bQ.fresh (aF _))⟩
end
def xJ:List (TE×TE)->St->Hp->(List (V×V)->Hp->Prop)->Prop
 | [],_,H,Q=>Q [] H
 | (tk,tv)::r,σ,H,Q=>tk σ H λx H1=>tv σ H1 λy H2=>xJ r σ H2 λps H3=>Q ((x,y)::ps) H3
abbrev VV:List (V×V)->List (Value×Value)->Prop:=Paired λp q=>RelV p.1 q.1/\RelV p.2 q.2
def Ph (X:Cx)(pos:Pos)(keys:List (Option Expr))(values:List Expr)(Fe:List (TE×TE)):Prop :=
 ∀(ah:List (Addr×Obj))(s:Shared)(σ:St)(H:Hp)(Q:List (V×V)->Hp->Prop),Inv X ah σ H s->xJ Fe σ H Q ->
  wpAny (model X.prog X.w) X.A (evalPairs (pairTrees keys values X.env pos)) (λvs s'=>∃ps H',Inv X ah σ H' s'/\VV ps vs/\Q ps H') X.xe s
def FH {X:Cx}{pos:Pos}:Ph X pos [] [] []:=λah s σ H Q I h=>pairTrees_nil_walk ⟨[],H,I,.nil,h⟩
def CW {X:Cx}{pos:Pos}{k v:Expr}{ks:List (Option Expr)}{vs:List Expr}{tk tv:TE}{Fe:List (TE×TE)}(hk:PE X k tk)(hv:PE X v tv)(hr:Ph X pos ks vs Fe) :
  Ph X pos (some k::ks) (v::vs) ((tk,tv)::Fe):=λah s σ H Q I h =>
 pairTrees_cons_walk (cD (hk ah s σ H _ I h) λu s1 ⟨x,H1,I1,rx,q1⟩=>cD (hv ah s1 σ H1 _ I1 q1) λw2 s2 ⟨y,H2,I2,ry,q2⟩ =>
  cD (hr ah s2 σ H2 _ I2 q2) λws s3 ⟨ps,H3,I3,rel,q3⟩=>⟨(x,y)::ps,H3,I3,.cons ⟨rx,ry⟩ rel,q3⟩)
def kq (kvs more:List (aI×V)):List (aI×V):=more.foldl (λbf kv=>bj bf kv.1 kv.2) kvs
def KV.merge:∀{more:List (aI×V)}{rs:List (aI×Value)}{kvs:List (aI×V)}{vs:List (aI×Value)},KV more rs->KV kvs vs->KV (kq kvs more) (merged vs rs):=by
 intro more rs kvs vs r;unfold KV at r
 induction r generalizing kvs vs with
 | nil=>intro q;exact q
 | @cons p q ps qs h t ih =>
  intro r0;have e:KV (bj kvs p.1 p.2) (stored vs q.1 q.2):=by
   have:=r0.put p.1 h.2;rw [<-h.1];exact this
  exact ih e
theorem jW:∀(more kvs:List (aI×V)),(kq kvs more).length<=kvs.length+more.length
 | [],kvs=>by show kvs.length<=kvs.length+0;omega
 | p::r,kvs=>by
  have h1:=jW r (bj kvs p.1 p.2);have h2:=dS kvs p.1 p.2;show (kq (bj kvs p.1 p.2) r).length<=_;rw [cX];omega
theorem qE {P:Program}{w:World}:∀{kvs:List (aI×V)}{ws:List (Value×Value)},VV (kvs.map λkv=>(kV kv.1,kv.2)) ws->∃rs,Carries (aU P w) ws rs/\KV kvs rs
 | [],_,r=>by rw [jb] at r;cases r;exact⟨[],True.intro,.nil⟩
 | p::kvs,_,r=>by
  rw [bu] at r;cases r with
  | @cons a b as bs h t =>
   obtain⟨rs,c,q⟩:=qE (P:=P) (w:=w) t;obtain⟨b1,b2⟩:=b;exact⟨(p.1,b2)::rs,⟨jX h.1,rfl,c⟩,.cons ⟨rfl,h.2⟩ q⟩
def LM (Fe:List (TE×TE)):TE:=λσ H Q=>∀p,H p=none->xJ Fe σ (upd H p (.dK [])) λps H2=>H2 p=some (.dK [])/\∃kvs:List (aI×V),ps=kvs.map (λkv=>(kV kv.1,kv.2))/\kvs.length<=15/\Q (.ref p) (upd H2 p (.dK (kq [] kvs)))
def FQ {X:Cx}{pos:Pos}{keys:List (Option Expr)}{values:List Expr}{Fe:List (TE×TE)}(h:Ph X pos keys values Fe)(ox:keys.all (·.isSome)=true)(hl:keys.length=values.length)(h0:keys≠[])
  (Sf:keys.length<=15):PE X (.Dict keys values pos) (LM Fe):=by
 intro ah s σ H Q I q;have hn:=I.bQ.fresh (aF s.heap.objs.size);have I1:=I.laid (a:=s.heap.objs.size) (o:=.dK []) (h':=s.heap.push { cls:=.type "dict",data:=.dict #[] }) (t':=s.toks) (λ_ _ q=>bS _ q) (aF _) (wq s.heap I.big);refine wpAny_Dict_walk (knd:=aU X.prog X.w) ox hl h0 Sf (cD (h ah _ σ _ _ I1 (q _ hn)) λws s2 a8=>?_);obtain⟨ps,H2,I2,rel,e,kvs,ep,lk,q2⟩:=a8;subst ep;obtain⟨rs,c,rk⟩:=qE (P:=X.prog) (w:=X.w) rel;obtain⟨z,hd,vs0,r0,dd⟩:=wo I2.bQ e;cases r0;refine⟨rs,c,dd,λh' E5 hs=>⟨.ref s.heap.objs.size,_,?_,rfl,q2⟩⟩;have hz:(kq [] kvs).length<=sizeLine:=by
  have h1:=jW kvs [];rw [i0] at h1;rw [sizeLine_eq];omega
 have he:∃q,h'.get? s.heap.objs.size=some q:=let ⟨q,_,_,hq,_⟩:=E5;⟨q,hq⟩;exact oO I2 (by rw [e];exact True.intro) hs he (qw hz hd (rk.merge .nil) E5)
structure M1 (X:Cx)(o:Expr)(m:Str)(apos:Pos)(e:Expr)(eK:Pos):Prop where
 base:attributeBase o m X.env (eval o X.env)=eval o X.env
 Gs:((backTo eK (starEach [e] X.env)).all (λx=>!x.1) && (backToKw eK (keywordEach [] X.env)).all (λx=>x.1.isSome)
  && decide (([e]:List Expr).length+([]:List Keyword).length+(if ([]:List Keyword).isEmpty then 0 else 1) < 30))=true
 line:(apos.endLine == eK.line)=true
 trees:backTo eK (starEach [e] X.env)=[(false,eval e X.env)]
structure M2 (X:Cx)(o:Expr)(m:Str)(apos:Pos)(e f:Expr)(eK:Pos):Prop where
 base:attributeBase o m X.env (eval o X.env)=eval o X.env
 Gs:((backTo eK (starEach [e,f] X.env)).all (λx=>!x.1) && (backToKw eK (keywordEach [] X.env)).all (λx=>x.1.isSome)
  && decide (([e,f]:List Expr).length+([]:List Keyword).length+(if ([]:List Keyword).isEmpty then 0 else 1) < 30))=true
 line:(apos.endLine == eK.line)=true
 trees:backTo eK (starEach [e,f] X.env)=[(false,eval e X.env),(false,eval f X.env)]
def Pj (H:Hp)(a:Addr):Prop:=(∃kvs,Rd H a (.dK kvs))\/∃kvs,Rd H a (.dT kvs)
def yH {X:Cx}{ah:List (Addr×Obj)}{σ:St}{H:Hp}{s:Shared}{a:Addr}(I:Inv X ah σ H s)(d:Pj H a) :
  s.TypeIs (.ref a) "dict" /\ (∀b,Value.ref a=.ref b->∃ob,s.heap.get? b=some ob/\ob.dict=none)/\(a == sysModules)=false:=by
 rcases d with ⟨kvs,e⟩ | ⟨kvs,e⟩
 .obtain⟨_,hd,vs,_,dd⟩:=l7 I.bQ e;refine⟨dd.typeIs,λb q=>?_,hd⟩;cases q;obtain⟨ob,_,_,h1,h2,_⟩:=dd;exact⟨ob,h1,h2.2.1⟩
 obtain⟨_,hd,xs,_,dd⟩:=qv I.bQ e;refine⟨dd.typeIs,λb q=>?_,hd⟩;cases q;obtain⟨ob,_,_,h1,h2,_⟩:=dd;exact⟨ob,h1,h2.2.1⟩
section
variable {X:Cx}{ah:List (Addr×Obj)}{σ:St}{H:Hp}{s:Shared}{a:Addr}{y d:V}{u r:Value}{o:Option V}{A:Around}{E:Value->Shared->Prop}
def Kv {Q:Value->Shared->Prop}(hu:A.units+1 < cLine)(I:Inv X ah σ H s)(g:bX H a y o)(ry:RelV y u)(rd:RelV d r)(h:∀w' s',Inv X ah σ H s'->RelV (o.getD d) w'->Q w' s') :
  wpAny (model X.prog X.w) A (call (.builtin "dict.get") [.ref a,u,r]) Q E s:=by
 rcases g with ⟨kvs,k,e,ey,l⟩ | ⟨kvs,k,b,e,ey,eb,l⟩
 .subst ey;obtain⟨z,hd,vs,rel,dd⟩:=l7 I.bQ e;refine call_meetsIn PySem.F.slot_dict_get dd.typeIs PySem.F.entry_dict_get (PySem.F.args_dict_get_3 _ _ _) (meets_dict_get_default (aU X.prog X.w) a (jX ry) hd r) ⟨_,dd.mapOf,h _ _ (I.tok _) ?_⟩;rw [l];exact(rel.val k).getD rd
 subst ey;cases (show u=Value.ref b from ry);obtain⟨z,hd,xs,rel,dd⟩:=qv I.bQ e;refine call_meetsIn PySem.F.slot_dict_get dd.typeIs PySem.F.entry_dict_get (PySem.F.args_dict_get_3 _ _ _) (meetsH_dict_get_default (tupleKind (aU X.prog X.w)) a b hd r) ⟨mE hu,k,xs,kA I.bQ eb,dd,h _ _ (I.tok _) ?_⟩;rw [l];exact(rel.val k).getD rd
end
def IC (td ty tx:TE):TE:=λσ H Q=>td σ H λx H1=>Pd x (Pj H1) λa=>ty σ H1 λy H2=>tx σ H2 λz H3=>Wo (bX H3 a y) λo=>Q (o.getD z) H3
section
variable {X:Cx}{o e f:Expr}{apos eK:Pos}{td ty tx:TE}
def C4 (hu:X.A.units+1 < cLine)(ho:PE X o td)(he:PE X e ty)(hf:PE X f tx)(m:M2 X o "get" apos e f eK):PE X (.Call (.Attribute o "get" apos) [e,f] [] eK) (IC td ty tx):=by
 intro ah s σ H Q I h;refine wpAny_Call_method m.base m.Gs m.line xr PySem.F.slot_dict_get PySem.F.type_dict_get (cD (ho ah s σ H _ I h) λu s1 a8=>?_);obtain⟨x,H1,I1,rx,a,ex,d,q1⟩:=a8;subst ex;obtain rfl:u=Value.ref a:=rx;obtain⟨t1,t2,_⟩:=yH I1 d;refine⟨t1,t2,?_⟩;rw [m.trees];refine sY rfl (sR (mD (cD (he ah s1 σ H1 _ I1 q1) λiv s2 ⟨y,H2,I2,ry,q2⟩ =>
  mD (cD (hf ah s2 σ H2 _ I2 q2) λfv s3 ⟨z,H3,I3,rz,ov,g,q3⟩=>Calls.spliced_nil ?_))))
 exact Kv hu I3 g ry rz λw' s4 I4 ye=>⟨_,H3,I4,ye,q3⟩
end
section
variable {X:Cx}{ah:List (Addr×Obj)}{σ:St}{H:Hp}{s:Shared}{a:Addr}{kvs:List (aI×V)}{A:Around}{E:Value->Shared->Prop}
end
section
variable {X:Cx}{ah:List (Addr×Obj)}{σ:St}{H:Hp}{s:Shared}{a:Addr}{y:V}{u:Value}{A:Around}{E:Value->Shared->Prop}
end
end L2
set_option maxHeartbeats 4000000
namespace L2
open PySem
def uG:typeLookup (.type "list") "keys"=pure none:=by rw [typeLookup_type,builtinLookup_eq_fast];kernel_rfl
def uH:typeLookup (.type "list") "__getattr__"=pure none:=by rw [typeLookup_type,builtinLookup_eq_fast];kernel_rfl
section
variable {prog:Program}{w:World}{A:Around}{E:Value->Shared->Prop}{h:Heap}{g:Array GenState}{d:Drawn}{t:Nat}{os:OsState}{a:Addr}{o:Obj}
def Ci:isSubtype (.type "AttributeError") (.type "AttributeError")=pure true:=by rw [isSubtype_type];kernel_rfl
def Je {m:Str}{tk:Tok}:ownMembersOf (.type "AttributeError") [.str m tk]=#[unsetMember,unsetMember]:=by kernel_rfl
def Ec {m:Str}{tk:Tok}:firstArgMember (.type "AttributeError") [.str m tk]=pure .none:=by kernel_rfl
def yf {α:Type}{self:Value}{name msg:Str}{Q:α->Shared->Prop}(hm:msg.length<=sizeLine)(hh:A.handled=none)
  (hq:∀h' t' e oe,(∀b o,h.get? b=some o->h'.get? b=some o)->h'.get? e=some oe->oe.cls=.type "AttributeError" -> E (.ref e) ⟨h',g,d,t',os⟩) :
  wpAny (model prog w) A (raiseAttrError self name msg) Q E ⟨h,g,d,t,os⟩:=by
 have f1:=Ci;unfold raiseAttrError newExc;refine aJ (wpAny_mkStr ?_ hm);have fe:=Ec (m:=msg) (tk:=t);rw [Je]
 repeat (any_goals (first | assumption | wp_step))
 unfold raiseNew;refine aJ (wpAny_handled ?_);rw [hh];refine aJ (aZ ?_);refine wpAny_throw ?_;refine hq _ _ _ _ (λb o q=>?_) (Heap.get?_update_self _ (cV _ rfl) rfl) rfl;have lt:=ba q;rw [Heap.get?_update_other _ _ (by rw [jm];exact iZ (sP lt))];exact bS _ (bS _ q)
def yF {tk:Tok}{aL:Array Value}{n:Nat}{Q:Fin->Shared->Prop}(hx:h.get? a=some { cls:=.type "list",data:=.seq aL n })(hh:A.handled=none)
  (hq:∀h' t' e oe,(∀b o,h.get? b=some o->h'.get? b=some o)->h'.get? e=some oe->oe.cls=.type "AttributeError" -> E (.ref e) ⟨h',g,d,t',os⟩) :
  wpAny (model prog w) A (Builtin.«object.__getattribute__» ⟨[.ref a,.str "keys" tk],[]⟩) Q E ⟨h,g,d,t,os⟩:=by
 have hT:(⟨h,g,d,t,os⟩:Shared).TypeIs (.ref a) "list" := ⟨_,hx,rfl⟩;have f4:=uG
 repeat (any_goals (first | assumption | wp_step))
 exact yf nofun hh hq
def mZ {aL:Array Value}{n:Nat}{Q:Option Value->Shared->Prop}(hx:h.get? a=some { cls:=.type "list",data:=.seq aL n })(hh:A.handled=none)
  (hq:∀h' t',(∀b o,h.get? b=some o->h'.get? b=some o)->Q none ⟨h',g,d,t',os⟩):wpAny (model prog w) A (getAttr? (.ref a) "keys") Q E ⟨h,g,d,t,os⟩:=by
 have hT:∀t',(⟨h,g,d,t',os⟩:Shared).TypeIs (.ref a) "list" := λt'=>⟨_,hx,rfl⟩;have f1:=Ci;have f2:=tH.lookup;have f3:=tH.bind (.ref a);have f4:=uH;unfold getAttr? getAttrBy? getAttrBy;refine aJ (wpAny_mkText (aJ (wpAny_attempt (jc (aJ (mj (hT _) ?_))))));rw [f2];refine aJ (aZ ?_);show wpAny _ _ (getAttrByItsOwn _ _ _ _ _ _) _ _ _;unfold getAttrByItsOwn;refine aJ (aZ (a:=none) (aJ (wpAny_attempt (jc ?_))));show wpAny _ _ (boundAndCalled _ _ _) _ _ _;unfold boundAndCalled;rw [f3];refine aJ (aZ (ji (pj tH.plain F.entry_list_ga (tH.check _ _ _ _ _ _ _ _ (hT _) (F.args_list_getattribute_2 _ _) (yF hx hh λh' t' e oe k ee ec=>?_)))));have te:(⟨h',g,d,t',os⟩:Shared).TypeIs (.ref e) "AttributeError" := ⟨oe,ee,ec⟩;show wpAny _ _ (getattributeRaised _ _ _ _ _ _ _) _ _ _;unfold getattributeRaised;refine aJ (wpAny_isInstance te f1 ?_);rw [av rfl];show wpAny _ _ (typeLookup _ _ >>= _) _ _ _;rw [f4];refine aJ (aZ ?_);show wpAny _ _ (throw _) _ _ _;refine wpAny_throw ?_;refine aJ (wpAny_isInstance te f1 ?_);rw [av rfl];exact aZ (hq h' t' k)
end
def dZ:plainId "dict.update.loop"=true:=by decide +kernel
def jO:entryFor table "dict.update.loop"=some Builtin.«dict.update.loop»:=entryFor_of_tree (nofun)
section
variable {prog:Program}{w:World}{K:Type} [DecidableEq K] {knd:KeyKind prog w K}{A:Around}{E:Value->Shared->Prop}
def kM (knd:KeyKind prog w K)(h:Heap)(u:Value)(kv:K×Value):Prop :=
 ∃t key n o,u=.ref t/\knd.is kv.1 key=true/\h.get? t=some o/\o.cls=.type "tuple" /\ o.data=.seq #[key,kv.2] n
def kM.keep {h h':Heap}{u:Value}{kv:K×Value}(p:kM knd h u kv)(k:∀b o,o.cls=.type "tuple" -> h.get? b=some o->h'.get? b=some o):kM knd h' u kv :=
 let ⟨t,key,n,o,a,b,c,d,e⟩:=p;⟨t,key,n,o,a,b,k t o d c,d,e⟩
def Ei {R:Result->Shared->Prop}{d it l:Addr}{items:Array Value}(hh:A.handled=none):∀(more:List (K×Value)) (i:Nat)(s:Shared)(kvs:List (K×Value)) (j:Int)(tk:Tok),items.size=i+more.length ->
  s.heap.DictOf knd d kvs->s.heap.IsListIter it l i->s.heap.IsList l items->(∀m kv,more[m]?=some kv->∃u,items[i+m]?=some u/\kM knd s.heap u kv)->kvs.length+more.length<=sizeLine ->
  (∀h' t',h'.DictOf knd d (more.foldl (λa p=>stored a p.1 p.2) kvs)->(∀b o,b≠d->b≠it->s.heap.get? b=some o->h'.get? b=some o)->R (.ok (.ret .none)) { s with heap:=h',toks:=t' }) ->
  codeAny (model prog w) A (.builtin "dict.update.loop" ⟨[.ref d,.ref it,.int j tk,.none],[]⟩) R s:=by
 intro more
 induction more with
 | nil =>
  intro i s kvs j tk hi hd hit hl hp hz hR;refine mr jO ?_;rw [ph dZ _];unfold Builtin.«dict.update.loop»;have hs:items[i]?=none:=Array.getElem?_eq_none (by rw [hi];exact aF _);refine aJ (sX hh hit hl hs λh1 eb=>?_);have nd:d≠it:=λz=>by
   obtain⟨o,_,_,q,_,c,_⟩:=hd;obtain⟨o',q',_,c'⟩:=hit;rw [z,q'] at q;cases q;rw [c'] at c;cases c
  show wpAny _ _ (Builtin.Dict.addKeywords d [] >>= _) _ _ _;exact aJ (aZ (aZ (hR h1 s.toks (hd.extBut eb nd) λb o n1 n2 q=>eb b o n2 q)))
 | cons kv more ih =>
  intro i s kvs j tk hi hd hit hl hp hz hR;refine mr jO ?_;rw [ph dZ _];unfold Builtin.«dict.update.loop»;obtain⟨u,hu,t,key,n,o,rfl,hk,ho,hc,uO⟩:=hp 0 kv rfl;refine aJ (wpAny_pyNext_list_item hit hl hu λh1 Q2 sb=>?_);have nd:d≠it:=λz=>by
   obtain⟨o,_,_,q,_,c,_⟩:=hd;obtain⟨o',q',_,c'⟩:=hit;rw [z,q'] at q;cases q;rw [c'] at c;cases c
  have n2:∀b o,(o.cls=.type "tuple" \/ o.cls=.type "list")->s.heap.get? b=some o->b≠d/\b≠it:=by
   intro b o c q;constructor
   .intro z;obtain⟨o',q',c'⟩:=hd.typeIs;rw [z,q'] at q;cases q;rw [c'] at c;rcases c with c | c <;> exact absurd c nofun
   intro z;obtain⟨o',q',c',_⟩:=hit;rw [z,q'] at q;cases q;rw [c'] at c;rcases c with c | c <;> exact absurd c nofun
  have nt:∀b o,o.cls=.type "tuple" -> s.heap.get? b=some o->b≠d/\b≠it:=λb o c q=>n2 b o (.inl c) q;have nl:l≠d/\l≠it:=by
   obtain⟨o,q,c,_⟩:=hl;exact n2 l o (.inr c) q
  have Nh:h1.get? t=some o:=(sb.2 t (nt t o hc ho).2).trans ho;have RV:h1.DictOf knd d kvs:=hd.sameBut sb nd;refine aJ (jc (aJ (wpAny_tryCatch ?_)));unfold Builtin.Dict.pairItems;refine aJ (mj (T := "tuple") ⟨o,Nh,hc⟩ ?_);rw [av nofun];refine aJ (oX Nh uO (aZ ?_));show wpAny _ _ (holding [key,kv.2] (dictSet d key kv.2)) _ _ _;rw [cX] at hz hi;refine jc (wpAny_dictSet_pairs (s:={ s with heap:=h1 }) hk RV (λh2 hd2 LY=>?_) ∅);have kk:∀b o,b≠d->b≠it->s.heap.get? b=some o->h2.get? b=some o:=λb o n1 n2 q=>(LY.2 b n1).trans ((sb.2 b n2).trans q);have ln:(stored kvs kv.1 kv.2).length<=kvs.length+1:=by
   unfold stored
   split
   .simp
   simp
  refine aZ ⟨mn dZ _,ih (i+1) _ _ _ _ ∅ hd2 (Q2.at λo q=>(LY.2 it (fk nd)).trans q) (hl.at λo q=>kk l o nl.1 nl.2 q) (λm QW e=>?_) ∅ λh3 t3 gO k3=>?_⟩
  .obtain⟨u',e1,e2⟩:=hp (m+1) QW e;exact⟨u',by rw [<-e1];congr 1;omega,e2.keep λb o c q=>kk b o (nt b o c q).1 (nt b o c q).2 q⟩
  exact hR h3 t3 gO λb o n1 n2 q=>k3 b o n1 n2 (kk b o n1 n2 q)
def xK:(Value.type "list" != Value.type "dict")=true:=by decide
def qG {s:Shared}{l:Addr}{items:Array Value}{n:Nat}{more:List (K×Value)}{Q:Value->Shared->Prop}(knd:KeyKind prog w K)(hh:A.handled=none)(hx:s.heap.get? l=some { cls:=.type "list",data:=.seq items n })
  (hi:items.size=more.length)(hp:∀(m:Nat) kv,more[m]?=some kv->∃u,items[m]?=some u/\kM knd s.heap u kv)(hz:more.length<=sizeLine)
  (h:∀h' t',h'.DictOf knd s.heap.objs.size (more.foldl (λa p=>stored a p.1 p.2) [])->(∀b o,s.heap.get? b=some o->h'.get? b=some o)->Q (.ref s.heap.objs.size) { s with heap:=h',toks:=t' }) :
  wpAny (model prog w) A (call (.type "dict") [.ref l]) Q E s:=by
 refine callType_codes (Q₁:=λobj s₁=>obj=.ref s.heap.objs.size/\s₁={ s with heap:=s.heap.push { cls:=.type "dict",data:=.dict #[] } }) F.kt_called_dict (F.kt_typeCall_dict_1 _) F.entry_dict_init (kt_code_dict_new _ ⟨rfl,rfl⟩) ?_;rintro obj s₁ ⟨rfl,rfl⟩;have yw:(s.heap.push { cls:=.type "dict",data:=.dict #[] }).DictOf knd s.heap.objs.size []:=Heap.DictOf.new s.heap;have l0:=bS { cls:=.type "dict",data:=.dict #[] } hx;refine⟨yw.typeIs,F.args_dict_init_2 _ _,?_⟩;unfold Builtin.«dict.__init__» Builtin.Dict.selfAndRest;refine aJ (aJ (wpAny_notOrdered_dict yw.typeIs (aZ ?_)));show wpAny _ _ (Builtin.Dict.updateFrom "dict.__init__" s.heap.objs.size (.ref l) [] .none) _ _ _;unfold Builtin.Dict.updateFrom;refine aJ (mj (T := "list") ⟨_,l0,rfl⟩ ?_);rw [av xK];refine aJ (mZ l0 hh λh1 t1 k1=>?_);refine aJ (wpAny_rule ?_);have l1:=k1 _ _ l0;refine aJ (kP ⟨_,l1,rfl,_,rfl⟩ ?_);have k2:∀b o,s.heap.get? b=some o->(h1.push { cls:=.type "list_iterator",data:=.fields #[.ref l,.int 0 0] }).get? b=some o:=λb o q=>bS _ (k1 _ _ (bS _ q));refine aZ ⟨mn dZ _,Ei (knd:=knd) (A:=A.in1) (l:=l) (items:=items) (show A.in1.handled=none from hh) more 0 _ [] _ _ (by rw [hi,mq]) ?_ ⟨_,cV _ rfl,rfl,rfl⟩ ⟨_,k2 _ _ hx,rfl,n,rfl⟩ (λm kv e=>?_) (by simpa using hz) λh' t' hd k3=>?_⟩
 .obtain⟨o,es,ep,q,r⟩:=yw;exact⟨o,es,ep,bS _ (k1 _ _ q),r⟩
 .obtain⟨u,e1,e2⟩:=hp m kv e;exact⟨u,by rw [mq];exact e1,e2.keep λb o _ q=>k2 b o q⟩
 refine⟨rfl,h h' t' hd λb o q=>k3 b o (bM (ba q)) ?_ (k2 b o q)⟩;have:=ba (k1 _ _ (bS { cls:=.type "dict",data:=.dict #[] } q));exact bM this
end
open PySem PySem.Spec PyProof.Rows
def BG (X:Cx)(ifs:List Expr)(t:TT):Prop :=
 ∀(ah:List (Addr×Obj))(s:Shared)(σ:St)(H:Hp)(Q:Bool->Hp->Prop),Inv X ah σ H s->t σ H Q ->
  wpAny (model X.prog X.w) X.A (forIn ifs true λc r=>if r=true then do let ok <-isTrue c X.env (eval c X.env);pure (ForInStep.yield ok) else pure (ForInStep.yield r)) (TP X ah σ Q) X.xe s
def ix:TT:=λ_ H Q=>Q true H
def b_ {X:Cx}:BG X [] ix:=λ_ _ _ H _ I h=>wpAny_tests_nil ⟨H,I,h⟩
def hJ {X:Cx}{c:Expr}{t:TT}(h:PT X c t):BG X [c] t:=λah s σ H Q I hw=>wpAny_tests_one (h ah s σ H Q I hw)
def oj {prog:Program}{w:World}{A:Around}{R:Result->Shared->Prop}{s:Shared}{elt target iter:Expr}{ifs:List Expr}{scope:Scope}{pos:Pos}{it bf:Value}{env:Env}(I:Nat->Shared->Prop)
  (turn:∀n s,I n s->wpAny (model prog w) A (pyNext it) (λr s₁=>match r with
   | none=>R (.ok .next) s₁
   | some v=>wpAny (model prog w) A (letOwnedTupleGo target it v) (λ_ s₁=>wpAny (model prog w) A (assign target env v) (λ_ s₂ =>
     wpAny (model prog w) A (forIn ifs true λc r=>if r=true then do let ok <-isTrue c env (eval c env);pure (ForInStep.yield ok) else pure (ForInStep.yield r)) (λok s₃ =>
      if ok=true then wpAny (model prog w) A (eval elt env) (λx s₄ =>
       wpAny (model prog w) A (call (.builtin "list.append") [bf,x]) (λ_ s₅=>∃m,m < n/\I m s₅) (λ_ _=>False) s₄) (λ_ _=>False) s₃
      else ∃m,m < n/\I m s₃) (λ_ _=>False) s₂) (λ_ _=>False) s₁) (λ_ _=>False) s₁) (λ_ _=>False) s)
  (n:Nat)(h:I n s) :
  codeAny (model prog w) A (.compLoop (.ListComp elt [⟨target,iter,ifs,0⟩] scope pos) 0 it bf env) R s:=by
 refine codeAny_loop rfl I (λn s hI=>?_) n h;show wpAny _ A ((compTurn (.ListComp elt [⟨target,iter,ifs,0⟩] scope pos) 0 it bf env).onRaise (λx=>do noteFrame x env;theTreesLotGoes x)) _ _ s;refine wpAny_noted ?_;rw [compTurn_list];refine aJ (wpAny_standAt (aJ (cJ (turn n s hI) (λr s₁ h₁=>?_) λ_ _ h'=>h'.elim)));cases r with
 | none=>exact aZ h₁
 | some v =>
  refine aJ (cJ h₁ (λ_ s₂ h₂=>?_) λ_ _ h'=>h'.elim);refine aJ (cJ h₂ (λ_ s₂ h₂=>aJ (cJ h₂ (λok s₃ h₃=>?_) λ_ _ h'=>h'.elim)) λ_ _ h'=>h'.elim);cases ok with
  | false=>exact aZ ⟨rfl,h₃⟩
  | true =>
   exact aJ (aJ (cJ h₃ (λx s₄ h₄=>aJ (cJ h₄ (λ_ s₅ h₅=>aZ (aZ ⟨rfl,h₅⟩)) λ_ _ h'=>h'.elim)) λ_ _ h'=>h'.elim))
inductive wY (K:aV)(H:Hp):V->String->Prop where
 | bl (x:Bool):wY K H (.bl x) "bool"
 | int (i:Int):wY K H (.int i) "int"
 | str (x:Str):wY K H (.str x) "str"
 | tup {a:Addr}{xs:List V}(e:aW K H a xs):wY K H (.ref a) "tuple"
inductive XIs (K:aV)(H:Hp)(xs:List V)(R:Bool->Prop):Prop
|mk(x:V)(T n:String)(b:Bool)(e:xs=[x,.ty n])(c:wY K H x T)(k:PySem.W.kitOne K (.type T) (.type n)=some b)(q:R b)
def rN {X:Cx}{a:Expr}{ta:TE}(K:aV)(ha:PE X a ta)(he:∀whole,isTrue a X.env whole=(do let v <-whole;standAt a.pos;holding [v] (truthy v)))(hK:X.K=K:=by rfl) :
  PT X a (λσ H Q=>ta σ H λx H'=>∃k,BE K x H' k/\Q k H'):=by
 subst hK;exact gU ha he
def AJ {X:Cx}(hu:X.A.units < cLine):md X (compareOp .Eq) (λx y H Q=>∃a b xs,x=.ref a/\y=.ref b/\aH X.K H a xs/\aH X.K H b []/\Q (.bl (xs.isEmpty)) H):=by
 intro ah s σ H x y v u Q I rx ry h;obtain⟨a,b,xs,rfl,rfl,ha,hb,q⟩:=h;cases rx;cases ry;obtain⟨aL,r,pl,hz⟩:=I.list ha;obtain⟨d_,r2,zU,UU⟩:=I.list hb;have e2:d_=[]:=aT.zero r2;subst e2;have bc:=r.length;cases xs with
 | nil =>
  have e:aL=[]:=aT.zero r;subst e;refine SeqAt.eq_listAt (e:=λ_=>true) pl.isList zU.isList rfl hu (λj h1 _=>absurd h1 (by simp)) ⟨.bl true,H,I,rfl,q⟩
 | cons y ys =>
  refine SeqAt.eq_list_lengthsAt pl.isList zU.isList ?_ hu ⟨.bl false,H,I,rfl,q⟩;rw [bO,bO,<-bc];simp
structure G6 (env:Env)(scope:Scope)(cl:List (Str×Addr)):Prop where
 eq:closureFor scope env=pure cl
 sub:∀y c,cl.lookup y=some c->env.cells.lookup y=some c
 all:∀y,(y,NameKind.free)∈scope.names->∃c,cl.lookup y=some c
def iV {y n:Str}{c:Addr}{l:List (Str×Addr)}:((n,c)::l).lookup y=if y=n then some c else l.lookup y:=by
 by_cases h:y=n
 .rw [av h];simp [List.lookup,h]
 rw [ax h];simp [List.lookup,i3.mpr h]
def uT {env:Env}{scope:Scope}(h:∀y,(y,NameKind.free)∈scope.names->∃c,env.cells.lookup y=some c):∃cl,G6 env scope cl:=by
 have go:∀(names:List (Str×NameKind))(bf:List (Str×Addr)),(∀y,(y,NameKind.free)∈names->∃c,env.cells.lookup y=some c)->(∀y c,bf.lookup y=some c->env.cells.lookup y=some c) ->
   ∃cl,(forIn names bf λ(x:Str×NameKind)(cs:List (Str×Addr))=>(if x.2 == .free then do let c <-cellOf env x.1;pure (ForInStep.yield ((x.1,c)::cs)) else pure (ForInStep.yield cs):Sem (ForInStep (List (Str×Addr)))))=pure cl /\
    (∀y c,cl.lookup y=some c->env.cells.lookup y=some c)/\(∀y,(y,NameKind.free)∈names->∃c,cl.lookup y=some c)/\∀y c,bf.lookup y=some c->∃c',cl.lookup y=some c':=by
  intro names
  induction names with
  | nil=>intro bf _ hs;exact⟨bf,rfl,hs,λy hy=>absurd hy (by simp),λy c e=>⟨c,e⟩⟩
  | cons x r ih =>
   intro bf hf hs;obtain⟨n,k⟩:=x;rw [List.forIn_cons];by_cases hk:k=.free
   .subst hk;obtain⟨c0,e0⟩:=hf n bp;obtain⟨cl,e1,e2,e3,e4⟩:=ih ((n,c0)::bf) (λy hy=>hf y (bC _ hy)) (λy c e=>by
     rw [iV] at e;by_cases z:y=n
     .rw [av z] at e;cases e;rw [z];exact e0
     rw [ax z] at e;exact hs y c e)
    refine⟨cl,?_,e2,λy hy=>?_,λy c e=>?_⟩
    .rw [<-e1];have:cellOf env n=pure c0:=by unfold cellOf;rw [e0]
     simp only [this];rfl
    .rcases aQ.mp hy with z | z
     .cases z;exact e4 n c0 (by rw [iV,av rfl])
     exact e3 y z
    by_cases z:y=n
    .exact e4 y c0 (by rw [iV,av z])
    exact e4 y c (by rw [iV,ax z];exact e)
   obtain⟨cl,e1,e2,e3,e4⟩:=ih bf (λy hy=>hf y (bC _ hy)) hs;refine⟨cl,?_,e2,λy hy=>?_,e4⟩
   .rw [<-e1];have:(k == NameKind.free)=false:=by simpa using hk
    simp only [this];rfl
   rcases aQ.mp hy with z | z
   .cases z;exact absurd rfl hk
   exact e3 y z
 obtain⟨cl,e1,e2,e3,_⟩:=go scope.names [] h (λy c e=>by simp at e);refine⟨cl,?_,e2,e3⟩;unfold closureFor;exact Eq.trans (congrArg (λt:Sem (List (Str×Addr))=>t >>= λcs=>pure cs) e1) rfl
def um {scope:Scope}{env:Env}{y:Str}(hk:env.scope.kind=.function)(hy:scope.names.lookup y=some .free)(he:env.kindOf y=some .cell):(relabel scope env).names.lookup y=some .cell:=by
 have go:∀l:List (Str×NameKind),l.lookup y=some .free->(l.map λ(x:Str×NameKind)=>if (x.2 == NameKind.free && env.scope.kind == .function && env.kindOf x.1 == some .cell) then (x.1,NameKind.cell) else (x.1,x.2)).lookup y=some .cell:=by
  intro l
  induction l with
  | nil=>intro z;cases z
  | cons x r ih =>
   obtain⟨n,k⟩:=x;intro hy;rw [bu];by_cases z:y=n
   .subst z;simp [List.lookup] at hy;subst hy;simp [List.lookup,hk,he]
   have zb:(y == n)=false:=i3.mpr z;simp only [List.lookup,zb] at hy;have:=ih hy;dsimp only
   split <;> simp only [List.lookup,zb] <;> exact this
 exact go _ hy
theorem uF {α:Type}{y:Str}{v:α}:∀{l:List (Str×α)},l.lookup y=some v->(y,v)∈l
 | [],h=>by cases h
 | (n,u)::r,h=>by
  by_cases z:y=n
  .subst z;simp [List.lookup] at h;subst h;exact bp
  have zb:(y == n)=false:=i3.mpr z;simp only [List.lookup,zb] at h;exact bC _ (uF h)
def lD {scope:Scope}{env:Env}{y:Str}{k:NameKind}(h:(relabel scope env).names.lookup y=some k)(hk:k=.cell\/k=.free)(hc:∀z∈scope.names,z.2≠.cell):(y,NameKind.free)∈scope.names:=by
 have m:=uF h;unfold relabel at m;obtain⟨⟨n,k'⟩,m1,m2⟩:=cA.mp m;dsimp only at m2
 split at m2
 .rename_i q
  cases m2;simp at q;obtain⟨⟨q,_⟩,_⟩:=q;subst q;exact m1
 cases m2;rcases hk with hk | hk
 .exact absurd hk (hc _ m1)
 rw [<-hk];exact m1
def qy (X:Cx)(scope:Scope)(cl:List (Str×Addr))(C:Addr)(s1:Shared)(H1:Hp) (N:List Str)(fp:List Addr):Cx :=
 { X with N:=N,s₀:=s1,H₀:=H1,env:=compEnvC scope cl C X.env,outer:=X.stack,stack:=X.stack,ex:=fp,fn:=λ_=>false,pn:=[],xe:=λ_ _=>False }
structure G7 (X:Cx)(scope:Scope)(js:List (Nat×Str)):Prop where
 at_:∀p∈js,X.N[p.1]?=some p.2/\X.env.scope.names.lookup p.2=some .cell/\scope.names.lookup p.2=some .free
 all:∀y,(y,NameKind.free)∈scope.names->X.env.scope.names.lookup y=some .cell
def dO (ts:List Str)(js:List (Nat×Str))(σ:St):St:=ts.map (λ_=>none)++js.map λp=>(σ[p.1]?).join
def rZ {X:Cx}{ah:List (Addr×Obj)}{σ:St}{H:Hp}{s1 s4:Shared}{scope:Scope}{ts:List Str}{js:List (Nat×Str)}{cl:List (Str×Addr)}{fp:List Addr}{C:Addr}{m:Str->Option Value}
  (I:Inv X ah σ H s1)(hf:∀b∈fp,u0 X ah H b)(DR:∀b∈fp,b < s1.heap.objs.size)(iC:scope.kind=.function)(iD:∀y∈scope.names,y.2≠.cell)(cp:G7 X scope js)(mi:G6 X.env scope cl)
  (hC:s1.heap.objs.size < C)(ho:s4.os=s1.os)(hg:s4.gens=s1.gens)(old:∀b o,s1.heap.get? b=some o->s4.heap.get? b=some o)(hn:s4.heap.Ns C m)
  (hD:s4.heap.get? s1.heap.objs.size=some { cls:=.type "list",data:=.seq ([]:List Value).toArray 0 }) :
  Inv (qy X scope cl C s1 H (ts++js.map (·.2)) fp) [] (dO ts js σ) (upd H s1.heap.objs.size (.lst [])) s4:=by
 have xk:X.env.scope.kind=.function:=I.ok.kind;have has:∀y,((relabel scope X.env).names.lookup y=some .cell\/(relabel scope X.env).names.lookup y=some .free)->∃c,cl.lookup y=some c:=λy hy=>mi.all y (by
  rcases hy with hy | hy
  .exact lD hy (.inl rfl) iD
  exact lD hy (.inr rfl) iD)
 have lt:∀y c,cl.lookup y=some c->c < s1.heap.objs.size:=λy c e=>by
  obtain⟨v,o,ho,_⟩:=I.cell y c (mi.sub y c e);exact ba ho
 refine⟨⟨I.ok.mod,iC,I.ok.glob,I.ok.blt,jk hC,λy z c h1 h2=>I.ok.inj y z c (mi.sub _ _ h1) (mi.sub _ _ h2),has,λy c h _=>absurd (show false=true from h) eG,I.ok.hd,I.ok.frames,.inl rfl,
   λb hb=>⟨bM (j8 (DR b hb) hC),λy c h=>(hf b hb).2.2.2.2.1 y c (mi.sub _ _ h)⟩,I.bs,cO I.ok.E6 I.sz,λb o e hb=>?_,λb hb=>?_,I.stack,I.zC⟩,
  ho,?_,Un.laid old (aF _) I.fresh,⟨m,hn,λi y v e1 e2 _=>?_⟩,λy c h=>?_,?_,λy c h=>?_,λp hp=>absurd (show p∈([]:List (Addr×Obj)) from hp) (by simp),I.bQ.laid old (aF _) ?_,?_⟩
 .obtain⟨_,_,_,h4,_⟩:=hf b hb;rcases h4 with h4 | h4
  .exact I.ok.Dt b o e h4
  exact absurd (eW (ba (I.ok.bs b o e).1) h4) (jl _)
 .intro BS;obtain⟨_,h2,h3,_⟩:=hf b hb;rcases aQ.mp (I.xM b BS) with z | z
  .exact h2 z
  exact h3 z
 .rw [hg];exact I.bare
 .have Gw:(ts++js.map (·.2))[i]?=some y:=e1;have Bl:(ts.map (λ_=>(none:Option V))++js.map λp=>(σ[p.1]?).join)[i]?=some (some v):=e2;by_cases hi:i < ts.length
  .rw [oV (by simpa using hi)] at Bl;simp [hi] at Bl
  rw [oW ∅] at Gw;rw [oW (by simpa using Nat.le_of_not_lt hi)] at Bl;rw [aB] at Bl;rw [bo] at Gw Bl;cases hj:js[i - ts.length]? with
  | none=>rw [hj] at Gw;cases Gw
  | some p =>
   rw [hj] at Gw Bl;simp only [o6,sQ] at Gw Bl;obtain⟨a1,a2,a3⟩:=cp.at_ p (bZ hj);subst Gw;have es:σ[p.1]?=some (some v):=by
    cases q:σ[p.1]? with
    | none=>rw [q] at Bl;cases Bl
    | some z=>rw [q] at Bl;exact congrArg some Bl
   obtain⟨m0,RC,lk⟩:=I.loc;obtain⟨u,ru,l⟩:=lk p.1 p.2 v a1 es (.inr (.inl a2));rcases l with l | ⟨_,c,ec,o,hc,hd⟩
   .have l1:X.env.scope.names.lookup p.2=some .local:=l.1;rw [a2] at l1;cases l1
   obtain⟨c',VY⟩:=mi.all p.2 (uF a3);have e3:=mi.sub _ _ VY;rw [ec] at e3;cases e3;exact⟨u,ru,.inr ⟨.inl (um xk a3 a2),c,VY,o,old _ _ hc,hd⟩⟩
 .obtain⟨v,o,h1,h2⟩:=I.cell y c (mi.sub y c h);exact⟨v,o,old _ _ h1,h2⟩
 .show upd H s1.heap.objs.size (.lst []) C=none;rw [ai (iZ hC)];exact I.bQ.fresh (jk hC)
 .show upd H s1.heap.objs.size (.lst []) c=none;rw [ai (bM (lt y c h))];exact I.jY y c (mi.sub y c h)
 .exact⟨by show 0<=sizeLine;decide,[],0,.nil,hD⟩
 show (dO ts js σ).length=(ts++js.map (·.2)).length;simp [dO]
def Ce (wi:TI) (ts:List Str)(js:List (Nat×Str))(g:TG)(tif:TT)(te:TE):TE:=λσ H Q=>wi σ H λJ H1=>∀D,H1 D=none->∃W:Nat->Nat->List V->St->Hp->Prop,(∃m,W 0 m [] (dO ts js σ) (upd H1 D (.lst []))) /\
 ∀i m ys σ' H,W i m ys σ' H->(J.stop i H/\Q (.ref D) H)\/(J.go i H/\∃m',m' < m/\∀x H',J.mh i H x H'->g x σ' H' λσ2 H2=>tif σ2 H2 λb H3 =>
  if b=true then te σ2 H3 λy H4=>H4 D=some (.lst ys)/\ys.length < sizeLine/\W (i+1) m' (ys++[y]) σ2 (upd H4 D (.lst (ys++[y]))) else W (i+1) m' ys σ2 H3)
def bG {X:Cx}{elt iter tg:Expr}{ifs:List Expr}{scope:Scope}{pos:Pos}{wi:TI}{g:TG}{tif:TT}{te:TE}(ts:List Str)(js:List (Nat×Str))(hc:X.calm=true)(hi:PI X tg iter wi)
  (cp:G7 X scope js)(iD:∀y∈scope.names,y.2≠.cell)(iC:scope.kind=.function)
  (yJ:∀y∈scope.names,y.2=.local->scope.names.lookup y.1=some .local)
  (hg:∀cl C s1 H1 fp,PG (qy X scope cl C s1 H1 (ts++js.map (·.2)) fp) tg g)
  (RJ:∀cl C s1 H1 fp,BG (qy X scope cl C s1 H1 (ts++js.map (·.2)) fp) ifs tif)(he:∀cl C s1 H1 fp,PE (qy X scope cl C s1 H1 (ts++js.map (·.2)) fp) elt te)
  (hs:∀x,foldedSetIterable iter X.env x=pure x:=by intro _;rfl) :
  PE X (.ListComp elt [⟨tg,iter,ifs,0⟩] scope pos) (Ce wi ts js g tif te):=by
 intro ah s σ H Q I h;rw [eval_ListComp];obtain⟨cl,mi⟩:=uT (env:=X.env) (scope:=scope) λy hy=>I.ok.has y (.inl (cp.all y hy));refine wpAny_comprehension_free (use:=none) rfl hs mi.eq iC yJ (cD (hi ah s σ H _ I h) λv s1 h1=>cD h1 λOO s2 h2=>?_);obtain⟨it,fp,tn,J,H2,e,I2,T,EM,f2,h2⟩:=h2;subst e;obtain⟨W,⟨m0,w0⟩,turn⟩:=h2 s2.heap.objs.size I2.fresh;have DR:∀b∈fp,b < s2.heap.objs.size:=λb hb=>by obtain⟨o,e,_⟩:=T.obj _ _ EM b hb;exact ba e
 refine o7 (wpAny_newFunctionEnv iD (by intro y hy;simp at hy) (λh₁ yI uL=>?_) iC);dsimp only at yI uL ⊢;generalize J1:s2.heap.push { cls:=.type "list",dict:=none,data:=.seq ([]:List Value).toArray }=G2 at yI uL ⊢;have Gp:G2.objs.size=s2.heap.objs.size+1:=by rw [<-J1,jm]
 have R9:s2.heap.objs.size≠G2.objs.size:=by rw [Gp];exact bM (kO _)
 have old:∀b o,s2.heap.get? b=some o->h₁.get? b=some o:=λb o e =>
  uL.extBut b o (by rw [Gp];exact bM (sP (ba e))) (bS _ (J1 ▸ bS _ e))
 have Bb:h₁.get? s2.heap.objs.size=some { cls:=.type "list",data:=.seq ([]:List Value).toArray 0 }:=uL.extBut _ _ R9 (bS _ (J1 ▸ cV _ rfl));generalize lW:qy X scope cl G2.objs.size s2 H2 (ts++js.map (·.2)) fp=X2;have I4:Inv X2 [] (dO ts js σ) (upd H2 s2.heap.objs.size (.lst [])) { s2 with heap:=h₁,toks:=s2.toks+([]:List (Str×Value)).length }:=by
  rw [<-lW];exact rZ I2 f2 DR iC iD cp mi (by rw [Gp];exact kO _) rfl rfl old yI Bb
 have x1:X2.prog=X.prog:=by rw [<-lW];rfl
 have x2:X2.w=X.w:=by rw [<-lW];rfl
 have x3:X2.K=X.K:=by rw [<-lW];rfl
 have x4:X2.calm=true:=by rw [<-lW];exact hc
 have x5:X2.A=X.A:=by rw [<-lW];rfl
 have x6:X2.env=compEnvC scope cl G2.objs.size X.env:=by rw [<-lW];rfl
 have x7:X2.xe=λ_ _=>False:=by rw [<-lW];rfl
 have RM:PG X2 tg g:=by rw [<-lW];exact hg _ _ _ _ _
 have JQ:BG X2 ifs tif:=by rw [<-lW];exact RJ _ _ _ _ _
 have Gj:PE X2 elt te:=by rw [<-lW];exact he _ _ _ _ _
 have LS:tn 0 h₁:=T.keep _ _ _ EM λb _ o e=>old b o e;have pI:∀{H':Hp}{i6:List (Addr×Obj)},(∀b∈fp,H' b=none)->(∀p∈i6,p.1∉fp)->∀b∈fp,u0 X2 i6 H' b:=λ{H' i6} hn hp b hb=>by
  have o4:=I4.ok;subst lW;exact⟨hn b hb,(o4.Lg b hb).1,o4.Bi b hb,.inl hb,(o4.Lg b hb).2,λp kF=>by
   have ng:p∈([]:List (Addr×Obj))++i6:=kF;rw [nP] at ng;intro z;exact hp p ng (by rw [z];exact hb)⟩
 have fin:∀{s':Shared}{σ':St}{H':Hp},Inv X2 [] σ' H' s'->Q (.ref s2.heap.objs.size) H' ->
   compPost (model X.prog X.w) X.A X.xe none (EP X ah σ Q) (.ref s2.heap.objs.size) G2.objs.size (.ok .next) s':=λ{s' σ' H'} J' q=>by
  subst lW;obtain⟨m',Nj,_⟩:=J'.loc;refine⟨m',Nj,λh' K5=>?_⟩;have u:Un (Bd X.stack) fp H2 H' s2.heap s'.heap:=J'.base;have nC:∀b o,s2.heap.get? b=some o->b≠G2.objs.size:=λb o e=>by rw [Gp];exact bM (sP (ba e))
  have u':Un (Bd X.stack) fp H2 H' s2.heap h':=⟨λb o e n hb hx=>(K5.2 b (nC b o e)).trans (u.keep b o e n hb hx),λb o e n hb hx=>by
    obtain⟨sl,z⟩:=u.slot b o e n hb hx;exact⟨sl,(K5.2 b (nC b o e)).trans z⟩,u.free,λb o e hx=>by
    obtain⟨o',z⟩:=u.there b o e hx;exact⟨o',(K5.2 b (nC b o e)).trans z⟩,u.mJ,u.kJ,u.kT⟩
  have bQ:j6 X.prog X.w H' h':=λb ob e=>by
   refine(J'.bQ b ob e).g6 (λc w' i9 q'=>(K5.2 c ?_).trans q') (λ_ q=>q) λ_ _ q=>q;intro z;have fr:H' G2.objs.size=none:=J'.free;rcases i9 with z' | z'
   .rw [<-z'] at e;rw [z,fr] at e;cases e
   rw [z,fr] at z';cases z'
  have I5:Inv X ah σ H' { s' with heap:=h' }:=I2.HY (s':={ s' with heap:=h' }) J'.os u' bQ J'.bare λb hb=>by
   obtain⟨_,f1,_,f3,f4,f5⟩:=f2 b hb;exact⟨f3,f1,f4,f5⟩
  exact⟨.ref s2.heap.objs.size,H',I5,rfl,q⟩
 have loop:∀s₃:Shared,s₃={ s2 with heap:=h₁,toks:=s2.toks+([]:List (Str×Value)).length } ->
   codeAny (model X.prog X.w) X.A (.compLoop (.ListComp elt [⟨tg,iter,ifs,0⟩] scope pos) 0 (.ref it) (.ref s2.heap.objs.size) (compEnvC scope cl G2.objs.size X.env))
    (compPost (model X.prog X.w) X.A X.xe none (EP X ah σ Q) (.ref s2.heap.objs.size) G2.objs.size) s₃:=by
  rintro s₃ rfl;subst lW;refine oj (λn s'=>∃i ys σ' H',Inv (qy X scope cl G2.objs.size s2 H2 (ts++js.map (·.2)) fp) [] σ' H' s'/\tn i s'.heap/\(∀b∈fp,H' b=none)/\W i n ys σ' H') ?_ m0
   ⟨0,[],_,_,I4,LS,λb hb=>by rw [ai (bM (DR b hb))];exact(f2 b hb).1,w0⟩
  rintro n s' ⟨i,ys,σ0,H',J',u5,ND,w'⟩;rcases turn i n ys σ0 H' w' with ⟨stop,q⟩ | ⟨go,m',hm,step⟩
  .refine cJ (T.done (qy X scope cl G2.objs.size s2 H2 (ts++js.map (·.2)) fp) rfl rfl rfl hc i [] s' _ H' (λ_ _=>False) J' (pI ND (by simp)) u5 stop) (λr s4 ⟨hr,J4⟩=>?_) λ_ _ z=>z;subst hr;exact fin J4 q
  refine cJ (T.item (qy X scope cl G2.objs.size s2 H2 (ts++js.map (·.2)) fp) rfl rfl rfl hc i [] s' _ H' (λ_ _=>False) J' (pI ND (by simp)) u5 go) (λr s4 ⟨u,hr,h4⟩=>?_) λ_ _ z=>z;subst hr;refine cJ h4 (λ_ s5 a8=>?_) λ_ _ z=>z;obtain⟨xv,H5,J5,r5,y5,Ax,NC⟩:=a8;have TB:=J5.pinned (pI NC (by simp)) (T.obj _ _ Ax);have back:∀{s7:Shared}{σ7:St}{H7:Hp},Inv (qy X scope cl G2.objs.size s2 H2 (ts++js.map (·.2)) fp) ([]++mT fp s5.heap) σ7 H7 s7->Inv (qy X scope cl G2.objs.size s2 H2 (ts++js.map (·.2)) fp) [] σ7 H7 s7/\tn (i+1) s7.heap/\∀b∈fp,H7 b=none:=λ{s7 σ7 H7} J7=>by
   refine⟨J7.jo,T.keep _ _ _ Ax λb hb o e=>(J7.pin (b,o) (eX _ (eX _ (fX hb e)))).1,λb hb=>?_⟩;obtain⟨o,e,d⟩:=T.obj _ _ Ax b hb;exact(J7.pin (b,o) (eX _ (eX _ (fX hb e)))).2.1
  show wpAny _ _ (assign tg (qy X scope cl G2.objs.size s2 H2 (ts++js.map (·.2)) fp).env u) _ _ s5;refine cJ (RM _ s5 _ H5 xv u _ TB r5 (step xv H5 y5)) (λ_ s6 a8=>?_) λ_ _ z=>z;obtain⟨σ6,H6,J6,q6⟩:=a8;refine cJ (JQ _ s6 _ H6 _ J6 q6) (λb s7 a8=>?_) λ_ _ z=>z;obtain⟨H7,J7,q7⟩:=a8;cases b with
  | false =>
   rw [ax eG] at q7 ⊢;obtain⟨J8,PY,Si⟩:=back J7;exact⟨m',hm,i+1,ys,σ6,H7,J8,PY,Si,q7⟩
  | true =>
   rw [av rfl] at q7 ⊢;refine cJ (Gj _ s7 _ H7 _ J7 q7) (λyv s8 a8=>?_) λ_ _ z=>z;obtain⟨y,H8,J8,r8,R_,Q6,w8⟩:=a8;refine cJ (cq (X:=qy X scope cl G2.objs.size s2 H2 (ts++js.map (·.2)) fp) _ s8 _ H8 (.ref s2.heap.objs.size) [y] (.ref s2.heap.objs.size) [yv] (λv H'=>W (i+1) m' (ys++[y]) σ6 H') J8 rfl (.cons r8 .nil) ⟨s2.heap.objs.size,ys,y,rfl,rfl,R_,Q6,w8⟩)
    (λ_ s9 ⟨_,H9,J9,_,w9⟩=>?_) λ_ _ z=>z
   obtain⟨TC,IF,Kd⟩:=back J9;exact⟨m',hm,i+1,ys++[y],σ6,H9,TC,IF,Kd,w9⟩
 exact codeAny_compStart_list (loop _ rfl) (T.self _ _ _ _ _ LS (loop _ rfl))
def Og (K:aV)(a:Addr):It :=
 ⟨λi H=>∃xs x,aH K H a xs/\xs[i]?=some x,λi H x H'=>∃t y,x=.ref t/\H t=none/\H'=upd H t (.tup [.int (i:Int),y])/\∀xs,aH K H a xs->xs[i]?=some y,λi H=>∃xs,aH K H a xs/\xs.length<=i⟩
def Au {P:Program}{w:World}{K:aV}{elts:List Expr}{k:Nat}{mK:Pos}(a e it:Addr)(Gi:e≠it) :
  Turn P w K (.Tuple elts k mK) (Og K a) [e,it] e (λi h=>(∃old,IsEnum h e it i old)/\h.IsListIter it a i) where
 mem:=by simp
 obj:=λi h st b hb=>by
  obtain⟨⟨old,he⟩,o,e1,c,d⟩:=st;rcases aQ.mp hb with rfl | hb
  .exact⟨_,he,λv z=>by cases z⟩
  obtain rfl:b=it:=by simpa using hb
  exact⟨o,e1,λv z=>by rw [d] at z;cases z⟩
 keep:=λi h h' st k=>⟨⟨st.1.choose,k e (by simp) _ st.1.choose_spec⟩,st.2.at λo q=>k it (by simp) o q⟩
 item:=by
  intro X hP hw hK hc i ah s σ H E I hf st hg;subst hP hw hK;obtain⟨xs,x,hq,hx⟩:=hg;obtain⟨aL,rv,p,hz⟩:=I.list hq;obtain⟨u,hu,ru⟩:=rv.get hx;obtain⟨⟨old,he⟩,hit⟩:=st;refine wpAny_pyNext_enum_item he hit p.isList (x:=u) (by simpa using hu) Gi λh1 ho DP hT hsz hk=>?_;refine⟨_,rfl,xt ho λh2 Nt sb=>?_⟩;have ne:s.heap.objs.size≠e:=iZ (ba he);have kk:∀b o,b≠e->b≠it->s.heap.get? b=some o->h2.get? b=some o:=λb o n1 n2 q=>(sb.2 b n1).trans (hk b o n1 n2 q);have T2:h2.get? s.heap.objs.size=some { cls:=.type "tuple",data:=.seq #[.int i s.toks,u] }:=(sb.2 _ ne).trans hT;have fe:=hf e (by simp);have fi:=hf it (by simp);have fT:H s.heap.objs.size=none:=I.bQ.fresh (aF _);have tr:∀b v,H b=some v->b≠e/\b≠it:=λb v q=>⟨λz=>(by rw [z,fe.1] at q;cases q),λz=>(by rw [z,fi.1] at q;cases q)⟩;have nc:∀b,b∉[e,it]->b≠e/\b≠it:=λb z=>⟨λq=>z (by simp [q]),λq=>z (by simp [q])⟩;have lt:∀b o,s.heap.get? b=some o->b≠s.heap.objs.size:=λb o q=>bM (ba q);have I2:Inv X ah σ (upd H s.heap.objs.size (.tup [.int (i:Int),x])) { s with heap:=h2,toks:=s.toks+1 }:=by
   refine I.call (g':=s.gens) (t':=s.toks+1) (d':=s.drawn) (ch:=[e,it]) ⟨λb o q _ _ c=>kk b o (nc b c).1 (nc b c).2 q,λb o q _ _ c=>⟨o.slots,kk b o (nc b c).1 (nc b c).2 q⟩,
    λb o q n _=>by rw [ai (lt b o q)];exact n,λb o q c=>⟨o,kk b o (nc b c).1 (nc b c).2 q⟩,λb ys q=>by rw [ai (ao q fT)];exact q,λb o v q=>by rw [ai (ao q fT)];exact q,
    λb ps q=>⟨#[],by rw [ai (ao q fT),q];simp⟩⟩ (λb v q=>?_) I.bare (λb hb=>?_)
   .by_cases hb:b=s.heap.objs.size
    .subst hb;rw [ae] at q;cases q;exact⟨by show 2<=sizeLine;decide,[.int i s.toks,u],.cons ⟨_,rfl⟩ (.cons ru .nil),_,T2,rfl,_,rfl⟩
    rw [ai hb] at q;refine(I.bQ b v q).g6 (λc o i9 z=>?_) (λc q'=>by rw [ai (ao q' fT)];exact q') λc ys q'=>by rw [ai (ao q' fT)];exact q'
    rcases i9 with rfl | i9
    .exact kk c o (tr c _ q).1 (tr c _ q).2 z
    exact kk c o (tr c _ i9).1 (tr c _ i9).2 z
   rcases aQ.mp hb with rfl | hb
   .exact⟨fe.2.2.2.1,fe.2.1,fe.2.2.2.2.1,fe.2.2.2.2.2⟩
   obtain rfl:b=it:=by simpa using hb
   exact⟨fi.2.2.2.1,fi.2.1,fi.2.2.2.2.1,fi.2.2.2.2.2⟩
  refine⟨.ref s.heap.objs.size,_,I2,rfl,⟨_,x,rfl,fT,rfl,λys hy=>by rw [I.lM hy hq];exact hx⟩,⟨⟨_,Nt⟩,DP.at λo q=>(sb.2 it Gi.symm).trans q⟩,λb hb=>?_⟩;have BS:H b=none/\∃o,s.heap.get? b=some o:=by
   rcases aQ.mp hb with rfl | hb
   .exact⟨fe.1,_,he⟩
   obtain rfl:b=it:=by simpa using hb
   obtain⟨o,q,_⟩:=hit;exact⟨fi.1,o,q⟩
  obtain⟨n,o,q⟩:=BS;rw [ai (lt b o q)];exact n
 done:=by
  intro X hP hw hK hc i ah s σ H E I hf st hg;subst hP hw hK;obtain⟨xs,hq,hx⟩:=hg;obtain⟨aL,rv,p,hz⟩:=I.list hq;obtain⟨⟨old,he⟩,hit⟩:=st;obtain⟨f0,f1,f2,f3,f4,f5⟩:=hf it (by simp);have hl:=rv.length;exact wpAny_pyNext_enum_end (I.ok.hd hc) he hit p.isList (by simp;omega) λh' eb=>⟨rfl,I.turned (t':=s.toks) (λb o hb e=>eb b o hb e) f0 f1 f3 f4 f5⟩
 self:=λ_ _ _ _ _ st h=>mw st.1.choose_spec h
def nH:bootBuiltins "enumerate"=some (.type "enumerate"):=by decide +kernel
def MX (K:aV)(ta:TA):TI:=λσ H R=>ta σ H λvs H1=>Pe vs (aH K H1) λa=>R (Og K a) H1
def lG {X:Cx}{elts:List Expr}{k:Nat}{mK:Pos}{l:Expr}{ta:TA}{p pos:Pos}(hg:Gl X "enumerate")(hm:X.mg "enumerate"=none)(ha:PA X [l] ta)(hs:starEach [l] X.env=[(false,eval l X.env)]:=by rfl) :
  PI X (.Tuple elts k mK) (.Call (.Name "enumerate" p) [l] [] pos) (MX X.K ta):=by
 intro ah s σ H R I h;refine Call_ (ig I hg hm nH (zo (cD (ha pos ah s σ H _ I h) λus s1 a8=>?_) hs rfl));obtain⟨vs,H1,I1,r1,q1⟩:=a8;obtain⟨a,xs,e,hq,q⟩:=q1;subst e;obtain⟨u,rfl,rx⟩:=r1.one;cases rx;obtain⟨aL,rv,pl,hz⟩:=I1.list hq;refine call_enumerate_list pl.isList λh1 he hit hsz hk=>mw he ?_;refine⟨s1.heap.objs.size+1,[s1.heap.objs.size+1,s1.heap.objs.size],_,_,H1,rfl,I1.kept (t':=s1.toks) λb o e=>hk b o e,Au a _ _ (iZ (kO _)),⟨⟨_,he⟩,hit⟩,λb hb=>?_,q⟩;rcases aQ.mp hb with rfl | hb
 .exact I1.qk (ja _) (I1.bQ.fresh (ja _))
 obtain rfl:b=s1.heap.objs.size:=by simpa using hb
 exact I1.qk (aF _) (I1.bQ.fresh (aF _))
def cE (kvs bf:List (aI×V)):List (aI×V):=kvs.foldl (λa p=>bj a p.1 p.2) bf
theorem qp:∀{kvs:List (aI×V)}{vs:List (aI×Value)}{bf:List (aI×V)}{Er:List (aI×Value)},KV kvs vs->KV bf Er->KV (cE kvs bf) (vs.foldl (λa p=>stored a p.1 p.2) Er)
 | _,_,_,_,.nil,h=>h
 | _,_,_,_,.cons (a:=p) (b:=q) r t,h=>by
  obtain⟨e,rv⟩:=r;show KV (cE _ (bj _ p.1 p.2)) (List.foldl _ (stored _ q.1 q.2) _);rw [<-e];exact qp t (h.put p.1 rv)
theorem qr:∀(kvs bf:List (aI×V)),(cE kvs bf).length<=bf.length+kvs.length
 | [],bf=>by simp [cE]
 | p::r,bf=>by
  have:=qr r (bj bf p.1 p.2);have:=dS bf p.1 p.2;show (cE r (bj bf p.1 p.2)).length<=_;rw [cX];omega
section
variable {X:Cx}{ah:List (Addr×Obj)}{σ:St}{H:Hp}{s:Shared}
theorem pairs_at (I:Inv X ah σ H s):∀{ts:List Addr}{kvs:List (aI×V)}{aL:List Value},Paired (λt kv=>aW X.K H t [kV kv.1,kv.2]) ts kvs->aT (ts.map V.ref) aL ->
  ∃vs:List (aI×Value),KV kvs vs/\Paired (λu kv=>kM (aU X.prog X.w) s.heap u kv) aL vs
 | [],_,_,.nil,r=>by
  rw [jb] at r;cases r;exact⟨[],.nil,.nil⟩
 | t::ts,kv::kvs,_,.cons h p,r=>by
  rw [bu] at r;cases r with
  | cons r1 r2 =>
   obtain⟨vs,e1,e2⟩:=pairs_at I p r2;obtain⟨aL,rv,⟨o,h1,h2,n,h3⟩,_⟩:=I.tuple h;obtain⟨u1,u2,rfl,q1,q2⟩:=vals2 rv;exact⟨(kv.1,u2)::vs,.cons ⟨rfl,q2⟩ e1,.cons ⟨t,u1,n,o,r1,jX q1,h1,h2,h3⟩ e2⟩
theorem Paired.at_ {α β:Type}{F:α->β->Prop}:∀{xs:List α}{ys:List β},Paired F xs ys->∀(m:Nat)(y:β),ys[m]?=some y->∃x,xs[m]?=some x/\F x y
 | _,_,.nil,m,y,e=>by cases m <;> cases e
 | _,_,.cons h t,0,y,e=>by cases e;exact⟨_,rfl,h⟩
 | _,_,.cons h t,m+1,y,e=>Paired.at_ t m y e
def dC (hc:X.calm=true):eZ X (.type "dict") (λxs H Q=>∃a ts kvs,xs=[.ref a]/\H a=some (.lst (ts.map V.ref))/\Paired (λt kv=>aW X.K H t [kV kv.1,kv.2]) ts kvs/\∀d,H d=none->Q (.ref d) (upd H d (.dK (cE kvs [])))):=by
 intro ah s σ H xs us Q I r h;obtain⟨a,ts,kvs,rfl,e,p,q⟩:=h;obtain⟨u,rfl,rx⟩:=vals1 r;cases (show u=Value.ref a from rx);obtain⟨z,aL,n,rv,ho⟩:=(show bY X.prog X.w H s.heap a (.lst _) from I.bQ a _ e);obtain⟨vs,r1,r2⟩:=pairs_at I p rv;have l1:=a9 r2;have l2:=r1.length;have l3:=a9 p;rw [aB] at z;refine qG (aU X.prog X.w) (I.ok.hd hc) ho (by simpa using l1) (λm kv em=>?_) ∅ λh' t' hd kk=>?_
 .obtain⟨u,e1,e2⟩:=Paired.at_ r2 m kv em;exact⟨u,by simpa using e1,e2⟩
 have new:bY X.prog X.w (upd H s.heap.objs.size (.dK (cE kvs []))) h' s.heap.objs.size (.dK (cE kvs [])):=by
  refine qw ?_ ?_ (qp r1 .nil) hd
  .have:=qr kvs [];simp at this;omega
  have:=I.big;exact i3.mpr (iZ this)
 exact⟨.ref s.heap.objs.size,_,I.laid (t':=t') kk (aF _) new,rfl,q _ (I.bQ.fresh (aF _))⟩
theorem rQ {α β:Type}{F:α->β->Prop}:∀{xs:List α}{ys:List β},xs.length=ys.length->(∀(j:Nat) x y,xs[j]?=some x->ys[j]?=some y->F x y)->Paired F xs ys
 | [],[],_,_=>.nil
 | [],_::_,e,_=>by cases e
 | _::_,[],e,_=>by cases e
 | x::xs,y::ys,e,h=>.cons (h 0 x y rfl rfl) (rQ (Nat.succ.inj e) λj a b e1 e2=>h (j+1) a b e1 e2)
def HE {P:Program}{w:World}{k:aI}{u:Value}(h:(aU P w).is k u=true):RelV (kV k) u:=by
 rcases cN (show p8 k u=true from h) with ⟨i,t,rfl,rfl⟩ | ⟨x,t,rfl,rfl⟩
 .exact⟨t,rfl⟩
 exact⟨t,rfl⟩
def kK (hc:X.calm=true):eZ X (.type "list") (λxs H Q=>∃a kvs,xs=[.ref a]/\H a=some (.dK kvs)/\∀D,H D=none->Q (.ref D) (upd H D (.lst (kvs.map λp=>kV p.1)))):=by
 intro ah s σ H xs us Q I r h;obtain⟨a,kvs,rfl,e,q⟩:=h;obtain⟨u,rfl,rx⟩:=vals1 r;cases (show u=Value.ref a from rx);obtain⟨z,hs,vs,rel,dd⟩:=wo I.bQ e;obtain⟨o,es,ep,d1,d2,d3,d4⟩:=dd;have l1:=rel.length;refine PySem.W.kdl_call (PySem.W.kdl_dict (knd:=aU X.prog X.w) (kvs:=vs) (ep:=ep) hs) (I.ok.hd hc) ⟨o,es,d1,d2,d3,d4⟩ ∅ λh' tk bf c kk hD Bb=>?_;have keys:=rel.keys;have vals:aT (kvs.map λp=>kV p.1) bf.toList:=by
  refine rQ (by have h1:=Bb.1;simp only [aB,kR];omega) λj x y e1 e2=>?_;rw [Array.getElem?_toList] at e2;obtain⟨k,v,e3,e4⟩:=Bb.2 j y e2;rw [bo] at e1;obtain⟨p,e5,rfl⟩:=cg.mp e1;have e6:(kvs.map (·.1))[j]?=some p.1:=by rw [bo,e5];rfl
  rw [keys,bo,e3] at e6;cases e6;exact HE e4
 have new:bY X.prog X.w (upd H s.heap.objs.size (.lst (kvs.map λp=>kV p.1))) h' s.heap.objs.size (.lst (kvs.map λp=>kV p.1)):=⟨by rw [aB];exact z,bf.toList,c,vals,by simpa using hD⟩;exact⟨.ref s.heap.objs.size,_,I.laid (t':=tk) kk (aF _) new,rfl,q _ (I.bQ.fresh (aF _))⟩
end
def qM (v:V):Prop:=gY v=true\/∃r,v=.ref r
def Ef {x:V}(h:gY x=true):wk x x=true:=by
 cases x with
 | eJ=>rfl
 | bl b=>exact oQ b
 | int i=>exact oQ i
 | str z=>exact oQ z
 | _=>cases h
def qt {A:Around}{s:Shared}{x:V}{u v:Value}(h:qM x)(ru:RelV x u)(rv:RelV x v):SeqAt.EqAt A s u v true:=by
 rcases h with h | ⟨r,rfl⟩
 .have q:=yT (A:=A) (s:=s) ru rv h h;rw [Ef h] at q;exact q
 cases (show u=Value.ref r from ru);cases (show v=Value.ref r from rv);exact .same _
theorem tS:∀{ts:List Str}{aL:List Value},aT (ts.map V.str) aL->StrsAre aL ts
 | [],_,r=>by rw [jb] at r;cases r;exact .nil
 | z::ts,_,r=>by
  rw [bu] at r;cases r with
  | cons h t =>
   obtain⟨tk,e⟩:=(show ∃tk,_=Value.str z tk from h);subst e;exact .cons z tk (tS t)
def rJoin (K:aV):V->List V->Hp->VK->Prop:=λx vs H Q=>∃z a ts,x=.str z/\vs=[.ref a]/\aH K H a (ts.map V.str)/\(ts.map (·.length)).sum+ts.length * z.length<=16777216/\Q (.str (Txt.join z ts)) H
def z6 {X:Cx}:Ih X "str.join" (rJoin X.K):=by
 intro ah s σ H x vs v us Q I rx rv h;obtain⟨z,a,ts,rfl,rfl,hq,hz,q⟩:=h;obtain⟨t,rfl⟩:=rx;obtain⟨u,rfl,ru⟩:=rv.one;cases (show u=Value.ref a from ru);obtain⟨aL,r,pl,_⟩:=I.list hq;exact join_list pl.isList (by simpa using tS r) hz λt' k=>⟨.str _,H,I.tok _,⟨_,rfl⟩,q⟩
section
variable {K:aV}{a D:Addr}{xs:List V}{ts:List Str}{js:List (Nat×Str)}{g:TG}{tif:TT}{te:TE}{R:Hp->Prop}{σ:St}{H:Hp}
def bT (Pv:Nat->List V->St->Hp->Prop)(h0:Pv 0 [] (dO ts js σ) (upd H D (.lst [])))(hl:∀i ys σ H,i<=xs.length->Pv i ys σ H->aH K H a xs)
  (hs:∀i x ys σ H,xs[i]?=some x->Pv i ys σ H->g x σ H λσ2 H2=>tif σ2 H2 λb H3=>if b=true then te σ2 H3 λy H4=>H4 D=some (.lst ys)/\ys.length < sizeLine/\Pv (i+1) (ys++[y]) σ2 (upd H4 D (.lst (ys++[y]))) else Pv (i+1) ys σ2 H3)
  (hd:∀ys σ H,Pv xs.length ys σ H->R H) :
  ∃W:Nat->Nat->List V->St->Hp->Prop,(∃m,W 0 m [] (dO ts js σ) (upd H D (.lst []))) /\
 ∀i m ys σ' H,W i m ys σ' H->((j5 K a).stop i H/\R H)\/((j5 K a).go i H/\∃m',m' < m/\∀x H',(j5 K a).mh i H x H'->g x σ' H' λσ2 H2=>tif σ2 H2 λb H3 =>
  if b=true then te σ2 H3 λy H4=>H4 D=some (.lst ys)/\ys.length < sizeLine/\W (i+1) m' (ys++[y]) σ2 (upd H4 D (.lst (ys++[y]))) else W (i+1) m' ys σ2 H3):=by
 refine⟨λi m ys σ H=>m=xs.length - i/\i<=xs.length/\Pv i ys σ H,⟨xs.length,by simp,cT _,h0⟩,?_⟩;rintro i m ys σ' H ⟨rfl,hi,p⟩;have q:=hl i ys σ' H hi p;by_cases gZ:i < xs.length
 .refine .inr ⟨⟨xs,xs[i],q,by simp [gZ]⟩,xs.length - (i+1),∅,λx H' y=>?_⟩;obtain⟨e,y⟩:=y;subst e;have z:=hs i x ys σ' _ (y xs q) p;have h1:(i+1<=xs.length)=True:=eq_true gZ;simp only [h1,true_and];exact z
 have e:i=xs.length:=by omega
 subst e;exact .inl ⟨⟨xs,q,aF _⟩,hd ys σ' H p⟩
def wH {lo:Int}{n:Nat}(Pv:Nat->List V->St->Hp->Prop)(h0:Pv 0 [] (dO ts js σ) (upd H D (.lst [])))
  (hs:∀i ys σ H,i < n->Pv i ys σ H->g (.int (lo+i)) σ H λσ2 H2=>tif σ2 H2 λb H3=>if b=true then te σ2 H3 λy H4=>H4 D=some (.lst ys)/\ys.length < sizeLine/\Pv (i+1) (ys++[y]) σ2 (upd H4 D (.lst (ys++[y]))) else Pv (i+1) ys σ2 H3)
  (hd:∀ys σ H,Pv n ys σ H->R H) :
  ∃W:Nat->Nat->List V->St->Hp->Prop,(∃m,W 0 m [] (dO ts js σ) (upd H D (.lst []))) /\
 ∀i m ys σ' H,W i m ys σ' H->((G5 lo n).stop i H/\R H)\/((G5 lo n).go i H/\∃m',m' < m/\∀x H',(G5 lo n).mh i H x H'->g x σ' H' λσ2 H2=>tif σ2 H2 λb H3 =>
  if b=true then te σ2 H3 λy H4=>H4 D=some (.lst ys)/\ys.length < sizeLine/\W (i+1) m' (ys++[y]) σ2 (upd H4 D (.lst (ys++[y]))) else W (i+1) m' ys σ2 H3):=by
 refine⟨λi m ys σ H=>m=n - i/\i<=n/\Pv i ys σ H,⟨n,by simp,cT _,h0⟩,?_⟩;rintro i m ys σ' H ⟨rfl,hi,p⟩;by_cases gZ:i < n
 .refine .inr ⟨gZ,n - (i+1),∅,λx H' y=>?_⟩;obtain⟨rfl,rfl⟩:=y;have z:=hs i ys σ' _ gZ p;have h1:(i+1<=n)=True:=eq_true gZ;simp only [h1,true_and];exact z
 have e:i=n:=by omega
 subst e;exact .inl ⟨aF _,hd ys σ' H p⟩
end
def uU {X:Cx}:eZ X (.builtin "isinstance") (λxs H Q=>∃a ys n b,xs=[.ref a,.ty n]/\aH X.K H a ys/\PySem.W.kitOne X.K (.type "list") (.type n)=some b/\Q (.bl b) H):=by
 intro ah s σ H xs us Q I r h;obtain⟨a,ys,n,b,rfl,hq,e,q⟩:=h;obtain⟨u,w',rfl,rx,rn⟩:=vals2 r;cases (show u=Value.ref a from rx);cases (show w'=Value.type n from rn);obtain⟨aL,_,pl,_⟩:=I.list hq;obtain⟨o,h1,h2,_⟩:=pl.isList;exact PySem.W.kia_one PySem.W.kitx_list I.xb ⟨o,h1,h2⟩ e (λz=>nomatch z) λtk=>⟨.bl b,H,I.tok _,rfl,q⟩
def DF {K:aV}{t:Value}:PySem.W.kitOne K t t=some true:=by unfold PySem.W.kitOne;rw [av (oQ t)]
def LP (t:TS):TS:=λD σ H=>∃R:St->Hp->Prop,t { D with nx:=R } σ H/\∀σ' H',R σ' H'->D.nx σ' H'
def uq {X:Cx}{st:Stmt}{t:TS}(h:PS X st t):PS X st (LP t):=by
 intro ah s σ H D I ⟨R,q,m⟩;refine cD (h ah s σ H _ I q) λf s1 z=>?_;cases f with
 | next=>obtain⟨σ',H',I',r⟩:=z;exact⟨σ',H',I',m _ _ r⟩
 | ret v=>exact z
 | brk=>exact z
 | cont=>exact z
def aE (P:Program)(w:World)(K:aV)(mg:Str->Option Value)(base:Heap) (k:Nat)(x:Str) (ps:List Str)(sp:Sp):Prop :=
 ∃f fd,bI P w K mg base e_ k f fd ps sp/\Binds K fd ps []/\PySem.W.keepIn K (.ref f)=true/\mg x=some (.ref f)
theorem aE.mono {P:Program}{w:World}{K:aV}{mg:Str->Option Value}{base:Heap}{j k:Nat}{x:Str}{ps:List Str}{sp:Sp}(c:aE P w K mg base j x ps sp)(h:j<=k):aE P w K mg base k x ps sp :=
 let ⟨f,fd,a,b⟩:=c;⟨f,fd,a.mono h,b⟩
def bE {X:Cx}{k:Nat}{x:Str}{ps:List Str}{sp:Sp}{e:Expr}{es:List Expr}{t:TA}{p pos:Pos}(c:aE X.prog X.w X.K X.mg X.base k x ps sp)(hr:dX k X.A)(hg:Gl X x)(ha:PA X (e::es) t)
  (A9:(x == ("__debug__":Str))=false:=by decide)(he:starEach (e::es) X.env=(false,eval e X.env)::starEach es X.env:=by rfl)(va:(backTo pos (starEach es X.env)).any (·.1)=false:=by rfl) :
  PE X (.Call (.Name x p) (e::es) [] pos) (G_ sp [] E0 t):=by
 obtain⟨f,fd,G,b,kp,m⟩:=c;exact FR G hr hg m kp b .nil rO ha A9 he va
def fits {n:Nat}(h:n<=1000000):n<=sizeLine:=cO h nofun
def bF {n:Nat}(h:n<=1000000):n < sizeLine:=nW h nofun
def af {H:Hp}{p:Addr}(h:H p=none)(o:HO):aC H (upd H p o):=λb u q=>by rw [ai (ao q h)];exact q
def aC.tup {K:aV}{H H':Hp}{a:Addr}{xs:List V}(e:aC H H')(h:aW K H a xs):aW K H' a xs:=by
 rcases h with (h | ⟨o,h⟩) | h
 .exact .inl (.inl (e _ _ h))
 .exact .inl (.inr ⟨o,e _ _ h⟩)
 exact .inr h
def nF {X:Cx}(hc:X.calm=true):eZ X (.builtin "all") (λxs H Q=>∃(a:Addr)(bs:List Bool),xs=[.ref a]/\aH X.K H a (bs.map V.bl)/\Q (.bl (bs.all id)) H):=by
 intro ah s σ H xs us Q I r h;obtain⟨a,bs,rfl,hq,q⟩:=h;obtain⟨u,rfl,rx⟩:=vals1 r;cases (show u=Value.ref a from rx);obtain⟨aL,rv,pl,hz⟩:=I.list hq;obtain⟨o,h1,h2,m,h3⟩:=id pl.isList;have la:a < s.heap.objs.size:=ba h1;have ln:=rv.length;rw [aB] at ln;have Yz:∀(i:Nat) v,aL.toArray[i]?=some v->v=.bool (bs.getD i true):=λi v e=>by
  have e':aL[i]?=some v:=by simpa using e
  obtain⟨x,e2,e3⟩:=Paired.at_ rv i v e';rw [bo] at e2;obtain⟨b,e4,rfl⟩:=cg.mp e2;rw [vm,e4];exact e3
 refine call_all_walk (kP pl.isList ?_);refine⟨s.heap.objs.size,_,_,_,_,_,λi=>bs.getD i true,rfl,Walks.list (A:=X.A.in1) (show X.A.in1.handled=none from I.ok.hd hc) s.heap.objs.size a (bM la) aL.toArray,⟨⟨_,cV _ rfl,rfl,rfl⟩,⟨o,bS _ h1,h2,m,h3⟩⟩,?_,λh' tk kk=>?_⟩
 .intro i v s1 Q1 E1 hP ZN;rw [Yz i v hP];exact oR ZN
 have e:((List.range aL.toArray.size).all λi=>bs.getD i true)=bs.all id:=by
  rw [bO,<-ln,ij,gb,gb];constructor
  .intro h b hb;obtain⟨i,hi,e⟩:=oT.mp hb;have:=h i (j_.mpr hi);rw [vm,cQ hi,e] at this;exact this
  intro h i hi;have RK:=j_.mp hi;rw [vm,cQ RK];exact h _ (nR RK)
 rw [e];exact⟨.bl _,H,I.kept (t':=tk) λb o' e'=>kk b o' (by simp;exact bM (ba e')) (bS _ e'),rfl,q⟩
section
variable {prog:Program}{w:World}{A:Around}{E:Value->Shared->Prop}{s:Shared}
def yu {it l:Addr}{i:Nat}{items:Array Value}{x:Value}{Q:Value->Shared->Prop}(hit:s.heap.IsTupleIter it l i)(hl:s.heap.IsTuple l items)(hx:items[i]?=some x)
  (hQ:∀h',h'.IsTupleIter it l (i+1)->Heap.SameBut it s.heap h'->Q x { s with heap:=h' }):wpAny (model prog w) A (Builtin.SmallTypes.nextOf (.ref it)) Q E s:=by
 obtain⟨o,ho,hc,hd⟩:=id hit;obtain⟨ol,Rx,_,nl,RU⟩:=hl;unfold Builtin.SmallTypes.nextOf;refine aJ (tF (name:=Str.ofString "__next__") hit.typeIs tI (wpAny_call_entry tI hit.typeIs F.entry_tuple_iterator_next ?_ (F.args_tuple_iterator_next_1 _)));show wpAny _ _ (field (.ref it) 0 >>= λv=>_) _ _ s;refine aJ (h_ ho hd (x:=.ref l) (by rfl) ?_);show wpAny _ _ (if (Value.ref l == .none)=true then _ else _) _ _ s;rw [ax (by exact eG)];show wpAny _ _ (field (.ref it) 1 >>= λv=>_) _ _ s;refine aJ (h_ ho hd (x:=.int i 0) (by rfl) ?_);show wpAny _ _ (seqItems? (.ref l) >>= λv=>_) _ _ s;refine aJ (oX Rx RU (by
  simp only [nU,hx];refine aJ (wpAny_setField ho hd (by simp) (aZ ⟨x,rfl,aZ (hQ _ ⟨_,Heap.get?_update_self _ ho (Obj.isFreed_of_fields (Obj.data_mapFields hd _)),(Obj.cls_mapFields ..).trans hc,?_⟩ (Heap.SameBut.update ..))⟩));rw [Obj.data_mapFields hd];simp [rawInt]))
def yU {e it l:Addr}{i:Nat}{items:Array Value}{x old:Value}{Q:Option Value->Shared->Prop}(he:IsEnum s.heap e it i old)(hit:s.heap.IsTupleIter it l i)(hl:s.heap.IsTuple l items)(hx:items[i]?=some x)(qY:e≠it)
  (hQ:∀h',IsEnumOut h' e it ((i:Int)+1) x s.heap.objs.size->h'.IsTupleIter it l (i+1)->h'.get? s.heap.objs.size=some { cls:=.type "tuple",data:=.seq #[.int i s.toks,x] } ->
   (∀b o,b≠e->b≠it->s.heap.get? b=some o->h'.get? b=some o)->Q (some (.ref s.heap.objs.size)) { s with heap:=h',toks:=s.toks+1 }) :
  wpAny (model prog w) A (pyNext (.ref e)) Q E s:=by
 have hT:s.TypeIs (.ref e) "enumerate" := ⟨_,he,rfl⟩;unfold pyNext;refine aJ (wpAny_attempt (tF (name:=Str.ofString "__next__") hT sV (wpAny_call_entry sV hT F.entry_enumerate_next ?_ (F.args_enumerate_next_1 _))));obtain⟨hp,g,d,tk,os⟩:=s;show wpAny _ _ (field (.ref e) 2 >>= λv=>_) _ _ _;refine aJ (h_ he rfl (x:=.ref it) (by rfl) (aJ (yu hit hl hx λh₁ RI M5=>?_)));replace M5:Heap.SameBut it hp h₁:=M5;have RR:IsEnum h₁ e it i old:=(M5.2 e qY).trans he;show wpAny _ _ (field (.ref e) 3 >>= λv=>_) _ _ ⟨h₁,g,d,tk,os⟩;refine aJ (h_ RR rfl (x:=rawInt i) (by rfl) ?_);show wpAny _ _ (field (.ref e) 4 >>= λv=>_) _ _ ⟨h₁,g,d,tk,os⟩;refine aJ (h_ RR rfl (x:=.none) (by rfl) ?_);show wpAny _ _ (mkInt i >>= λv=>_) _ _ ⟨h₁,g,d,tk,os⟩;refine aJ (wpAny_mkInt ?_);show wpAny _ _ (setField (.ref e) 3 (rawInt ((i:Int)+1)) >>= λv=>_) _ _ ⟨h₁,g,d,tk+1,os⟩;refine aJ (pb RR (by simp) λh₂ f₂ YT=>?_);have Zo:IsEnum h₂ e it ((i:Int)+1) old:=f₂;have k₂:Heap.SameBut e h₁ h₂:=YT;show wpAny _ _ (setField (.ref e) 4 .none >>= λv=>_) _ _ ⟨h₂,g,d,tk+1,os⟩;refine aJ (pb Zo (by simp) λh₃ f₃ YS=>?_);have Zn:IsEnum h₃ e it ((i:Int)+1) old:=f₃;have k₃:Heap.SameBut e h₂ h₃:=YS;show wpAny _ _ (newTuple [.int i tk,x] >>= λv=>_) _ _ ⟨h₃,g,d,tk+1,os⟩;refine aJ (wpAny_newTuple ?_);have OU:IsEnum (h₃.push { cls:=.type "tuple",data:=.seq #[.int i tk,x] }) e it ((i:Int)+1) old:=bS _ Zn;have hsz:h₃.objs.size=hp.objs.size:=by rw [k₃.1,k₂.1,M5.1]
 have Vn:e < hp.objs.size:=ba he;have U0:(h₃.push { cls:=.type "tuple",data:=.seq #[.int i tk,x] }).get? hp.objs.size=some { cls:=.type "tuple",data:=.seq #[.int i tk,x] }:=by rw [<-hsz];exact cV _ rfl
 have Vg:∀b o,b≠e->b≠it->hp.get? b=some o->(h₃.push { cls:=.type "tuple",data:=.seq #[.int i tk,x] }).get? b=some o:=λb o n1 n2 hb=>bS _ (k₃.extBut b o n1 (k₂.extBut b o n1 (M5.extBut b o n2 hb)));have Nn:(h₃.push { cls:=.type "tuple",data:=.seq #[.int i tk,x] }).IsTupleIter it l (i+1):=RI.at λo q=>bS _ (k₃.extBut it o (fk qY) (k₂.extBut it o (fk qY) q));generalize h₃.push { cls:=.type "tuple",data:=.seq #[.int i tk,x] }=h₄ at OU U0 Vg Nn ⊢;rw [hsz];show wpAny _ _ (Builtin.SmallTypes.ownedTupleIsFree (.ref e) >>= λv=>_) _ _ ⟨h₄,g,d,tk+1,os⟩;refine aJ (by
  unfold Builtin.SmallTypes.ownedTupleIsFree;refine aJ (h_ OU rfl (x:=.none) (by rfl) (aZ (by
   simp only [if_true];refine aJ (wpAny_rule (aJ (h_ OU rfl (x:=old) (by rfl) (aJ (pb OU (by simp) λh₅ f₅ YR=>?_)))));have Zm:IsEnum h₅ e it ((i:Int)+1) x:=f₅;have k₅:Heap.SameBut e h₄ h₅:=YR;show wpAny _ _ (Builtin.SmallTypes.ownedTupleHandOut (.ref e) (.ref hp.objs.size) >>= λv=>_) _ _ ⟨h₅,g,d,tk+1,os⟩;refine aJ (by
    unfold Builtin.SmallTypes.ownedTupleHandOut;refine aJ (pb Zm (by simp) λh₆ f₆ YQ=>?_);have Zl:IsEnumOut h₆ e it ((i:Int)+1) x hp.objs.size:=f₆;have k₆:Heap.SameBut e h₅ h₆:=YQ;refine pb Zl (by simp) λh₇ f₇ YO=>?_;have Zk:IsEnumOut h₇ e it ((i:Int)+1) x hp.objs.size:=f₇;have k₇:Heap.SameBut e h₆ h₇:=YO;have up:∀b o,b≠e->h₄.get? b=some o->h₇.get? b=some o:=λb o n q=>k₇.extBut b o n (k₆.extBut b o n (k₅.extBut b o n q));exact aJ (wpAny_letGo (aZ ⟨_,rfl,aZ (hQ h₇ Zk (Nn.at λo q=>up it o (fk qY) q) (up _ _ (iZ Vn) U0) λb o n1 n2 q=>up b o n1 (Vg b o n1 n2 q))⟩)))))))
def p5 {it l:Addr}{i:Nat}{items:Array Value}{Q:Value->Shared->Prop}(hh:A.handled=none)(hit:s.heap.IsTupleIter it l i)(hl:s.heap.IsTuple l items)(hx:items[i]?=none)
  (hE:∀h' e,Heap.ExtBut it s.heap h'->(∃o,h'.get? e=some o/\o.cls=.type "StopIteration")->E (.ref e) { s with heap:=h' }):wpAny (model prog w) A (Builtin.SmallTypes.nextOf (.ref it)) Q E s:=by
 obtain⟨o,ho,hc,hd⟩:=id hit;obtain⟨ol,Rx,_,nl,RU⟩:=hl;unfold Builtin.SmallTypes.nextOf;refine aJ (tF (name:=Str.ofString "__next__") hit.typeIs tI (wpAny_call_entry tI hit.typeIs F.entry_tuple_iterator_next ?_ (F.args_tuple_iterator_next_1 _)));show wpAny _ _ (field (.ref it) 0 >>= λv=>_) _ _ s;refine aJ (h_ ho hd (x:=.ref l) (by rfl) ?_);show wpAny _ _ (if (Value.ref l == .none)=true then _ else _) _ _ s;rw [ax (by exact eG)];show wpAny _ _ (field (.ref it) 1 >>= λv=>_) _ _ s;refine aJ (h_ ho hd (x:=.int i 0) (by rfl) ?_);show wpAny _ _ (seqItems? (.ref l) >>= λv=>_) _ _ s;refine aJ (oX Rx RU ?_);simp only [nU,hx];refine aJ (wpAny_rule (aJ (wpAny_setField ho hd (by simp) (aJ ?_))));simp only [newExc,newTuple];refine aJ (o7 ?_ (by size_fits));refine aJ (m:=firstArgMember _ _) (wpAny_of_eq (a:=Value.none) (by first | rfl | (simp only [firstArgMember];rfl)) ?_)
 refine o7 ?_ (by size_fits);simp only [raiseNew];refine aJ (wpAny_handled ?_)
 first | rw [show A.in1.handled=none from hh] | rw [hh]
 refine aJ (aZ (wpAny_throw (hE _ _ (((Heap.SameBut.update ..).extBut.push _).push _) ⟨_,cV _ rfl,rfl⟩)))
def Bj {e it l:Addr}{i:Nat}{items:Array Value}{old:Value}{Q:Option Value->Shared->Prop}(hh:A.handled=none)(he:IsEnum s.heap e it i old)(hit:s.heap.IsTupleIter it l i)(hl:s.heap.IsTuple l items)(hx:items[i]?=none)
  (hQ:∀h',Heap.ExtBut it s.heap h'->Q none { s with heap:=h' }):wpAny (model prog w) A (pyNext (.ref e)) Q E s:=by
 have hT:s.TypeIs (.ref e) "enumerate" := ⟨_,he,rfl⟩;unfold pyNext;refine aJ (wpAny_attempt (tF (name:=Str.ofString "__next__") hT sV (wpAny_call_entry sV hT F.entry_enumerate_next ?_ (F.args_enumerate_next_1 _))));show wpAny _ _ (field (.ref e) 2 >>= λv=>_) _ _ _;refine aJ (h_ he rfl (x:=.ref it) (by rfl) (aJ (p5 hh hit hl hx λh' x Gj Ra=>?_)));obtain⟨o,ho,hc⟩:=Ra;exact aJ (wpAny_isInstance (T := "StopIteration") (b:=true) ⟨o,ho,hc⟩ isSubtype_stop (aZ (hQ _ Gj)))
end
open PySem.AutoSeq1 (wpAny_loadPart')
def vW (l:Addr)(items:Array Value) (n:Nat)(ve:Option Addr)(sl:Array (Option Value)) :
  Meets (Builtin.«enumerate.__new__» ⟨[.type "enumerate",.ref l],[]⟩) (λ_ R s=>s.heap.get? l=some { cls:=.type "tuple",dict:=ve,data:=.seq items n,slots:=sl } /\
   R (.ok (.ret (.ref (s.heap.push { cls:=.type "tuple_iterator",data:=.fields #[.ref l,.int 0 0] }).objs.size)))
    { s with heap:=(s.heap.push { cls:=.type "tuple_iterator",data:=.fields #[.ref l,.int 0 0] }).push { cls:=.type "enumerate",data:=.fields #[.none,.bool false,.ref s.heap.objs.size,rawInt 0,.none,.none] } }) :=
 .of_wp λprog w A R s h=>by
  obtain⟨hp,g,d,tk,os⟩:=s;obtain⟨hl,h⟩:=h;have M6:=sub_enumerate;have hT:Heap.IsTuple (Shared.heap ⟨hp,g,d,tk,os⟩) l items:=⟨_,hl,rfl,n,rfl⟩
  wp_walk using nX hl
  refine wpAny_stack_any λst=>aZ ?_;split
  .rename_i c _ _ _ _ _
   cases (c == Value.type "enumerate")
   .wp_walk using nX hl,sN hT;exact⟨_,rfl,h⟩
   wp_walk using nX hl,sN hT;exact⟨_,rfl,h⟩
  wp_walk using nX hl,sN hT;exact⟨_,rfl,h⟩
section
variable {prog:Program}{w:World}{A:Around}{E:Value->Shared->Prop}{s:Shared}
def yZ {l:Addr}{items:Array Value}{Q:Value->Shared->Prop}(hL:s.heap.IsTuple l items)
  (h:∀h',IsEnum h' (s.heap.objs.size+1) s.heap.objs.size 0 .none->h'.IsTupleIter s.heap.objs.size l 0->(∀b o,s.heap.get? b=some o->h'.get? b=some o)->Q (.ref (s.heap.objs.size+1)) { s with heap:=h' }) :
  wpAny (model prog w) A (call (.type "enumerate") [.ref l]) Q E s:=by
 obtain⟨⟨c,ve,dt,sl⟩,hl,hc,n,hd⟩:=hL;replace hc:c=.type "tuple" := hc;replace hd:dt=.seq items n:=hd;subst hc hd;refine callType_new F.called_enumerate nofun (F.typeCall_enumerate_1 _) (F.newCall_enumerate_1 _) (λobj=>F.args_object_init_2 obj _) F.entry_enumerate_new (vW l items n ve sl) ⟨hl,?_⟩;have hz:(s.heap.push { cls:=.type "tuple_iterator",data:=.fields #[.ref l,.int 0 0] }).objs.size=s.heap.objs.size+1:=jm ..;show _/\_;rw [hz];have he:IsEnum ((s.heap.push { cls:=.type "tuple_iterator",data:=.fields #[.ref l,.int 0 0] }).push { cls:=.type "enumerate",data:=.fields #[.none,.bool false,.ref s.heap.objs.size,rawInt 0,.none,.none] }) (s.heap.objs.size+1) s.heap.objs.size 0 .none:=by
  have:=cV (s.heap.push { cls:=.type "tuple_iterator",data:=.fields #[.ref l,.int 0 0] }) (o:={ cls:=.type "enumerate",data:=.fields #[.none,.bool false,.ref s.heap.objs.size,rawInt 0,.none,.none] }) rfl;rw [hz] at this;exact this
 exact⟨⟨_,he,rfl⟩,h _ he ⟨_,bS _ (cV _ rfl),rfl,rfl⟩ λb o x=>bS _ (bS _ x)⟩
end
def qO (K:aV)(a:Addr):It :=
 ⟨λi H=>∃xs x,aW K H a xs/\xs[i]?=some x,λi H x H'=>∃t y,x=.ref t/\H t=none/\H'=upd H t (.tup [.int (i:Int),y])/\∀xs,aW K H a xs->xs[i]?=some y,λi H=>∃xs,aW K H a xs/\xs.length<=i⟩
def xH {P:Program}{w:World}{K:aV}{elts:List Expr}{k:Nat}{mK:Pos}(a e it:Addr)(Gi:e≠it) :
  Turn P w K (.Tuple elts k mK) (qO K a) [e,it] e (λi h=>(∃old,IsEnum h e it i old)/\h.IsTupleIter it a i) where
 mem:=by simp
 obj:=λi h st b hb=>by
  obtain⟨⟨old,he⟩,o,e1,c,d⟩:=st;rcases aQ.mp hb with rfl | hb
  .exact⟨_,he,λv z=>by cases z⟩
  obtain rfl:b=it:=by simpa using hb
  exact⟨o,e1,λv z=>by rw [d] at z;cases z⟩
 keep:=λi h h' st k=>⟨⟨st.1.choose,k e (by simp) _ st.1.choose_spec⟩,st.2.at λo q=>k it (by simp) o q⟩
 item:=by
  intro X hP hw hK hc i ah s σ H E I hf st hg;subst hP hw hK;obtain⟨xs,x,hq,hx⟩:=hg;obtain⟨aL,rv,p,hz⟩:=I.tuple hq;obtain⟨u,hu,ru⟩:=rv.get hx;obtain⟨⟨old,he⟩,hit⟩:=st;refine yU he hit (show s.heap.IsTuple a aL.toArray from p) (x:=u) (by simpa using hu) Gi λh1 ho DP hT hk=>?_;refine⟨_,rfl,xt ho λh2 Nt sb=>?_⟩;have ne:s.heap.objs.size≠e:=iZ (ba he);have kk:∀b o,b≠e->b≠it->s.heap.get? b=some o->h2.get? b=some o:=λb o n1 n2 q=>(sb.2 b n1).trans (hk b o n1 n2 q);have T2:h2.get? s.heap.objs.size=some { cls:=.type "tuple",data:=.seq #[.int i s.toks,u] }:=(sb.2 _ ne).trans hT;have fe:=hf e (by simp);have fi:=hf it (by simp);have fT:H s.heap.objs.size=none:=I.bQ.fresh (aF _);have tr:∀b v,H b=some v->b≠e/\b≠it:=λb v q=>⟨λz=>(by rw [z,fe.1] at q;cases q),λz=>(by rw [z,fi.1] at q;cases q)⟩;have nc:∀b,b∉[e,it]->b≠e/\b≠it:=λb z=>⟨λq=>z (by simp [q]),λq=>z (by simp [q])⟩;have lt:∀b o,s.heap.get? b=some o->b≠s.heap.objs.size:=λb o q=>bM (ba q);have I2:Inv X ah σ (upd H s.heap.objs.size (.tup [.int (i:Int),x])) { s with heap:=h2,toks:=s.toks+1 }:=by
   refine I.call (g':=s.gens) (t':=s.toks+1) (d':=s.drawn) (ch:=[e,it]) ⟨λb o q _ _ c=>kk b o (nc b c).1 (nc b c).2 q,λb o q _ _ c=>⟨o.slots,kk b o (nc b c).1 (nc b c).2 q⟩,
    λb o q n _=>by rw [ai (lt b o q)];exact n,λb o q c=>⟨o,kk b o (nc b c).1 (nc b c).2 q⟩,λb ys q=>by rw [ai (ao q fT)];exact q,λb o v q=>by rw [ai (ao q fT)];exact q,
    λb ps q=>⟨#[],by rw [ai (ao q fT),q];simp⟩⟩ (λb v q=>?_) I.bare (λb hb=>?_)
   .by_cases hb:b=s.heap.objs.size
    .subst hb;rw [ae] at q;cases q;exact⟨by show 2<=sizeLine;decide,[.int i s.toks,u],.cons ⟨_,rfl⟩ (.cons ru .nil),_,T2,rfl,_,rfl⟩
    rw [ai hb] at q;refine(I.bQ b v q).g6 (λc o i9 z=>?_) (λc q'=>by rw [ai (ao q' fT)];exact q') λc ys q'=>by rw [ai (ao q' fT)];exact q'
    rcases i9 with rfl | i9
    .exact kk c o (tr c _ q).1 (tr c _ q).2 z
    exact kk c o (tr c _ i9).1 (tr c _ i9).2 z
   rcases aQ.mp hb with rfl | hb
   .exact⟨fe.2.2.2.1,fe.2.1,fe.2.2.2.2.1,fe.2.2.2.2.2⟩
   obtain rfl:b=it:=by simpa using hb
   exact⟨fi.2.2.2.1,fi.2.1,fi.2.2.2.2.1,fi.2.2.2.2.2⟩
  refine⟨.ref s.heap.objs.size,_,I2,rfl,⟨_,x,rfl,fT,rfl,λys hy=>by rw [I.rC hy hq];exact hx⟩,⟨⟨_,Nt⟩,DP.at λo q=>(sb.2 it Gi.symm).trans q⟩,λb hb=>?_⟩;have BS:H b=none/\∃o,s.heap.get? b=some o:=by
   rcases aQ.mp hb with rfl | hb
   .exact⟨fe.1,_,he⟩
   obtain rfl:b=it:=by simpa using hb
   obtain⟨o,q,_⟩:=hit;exact⟨fi.1,o,q⟩
  obtain⟨n,o,q⟩:=BS;rw [ai (lt b o q)];exact n
 done:=by
  intro X hP hw hK hc i ah s σ H E I hf st hg;subst hP hw hK;obtain⟨xs,hq,hx⟩:=hg;obtain⟨aL,rv,p,hz⟩:=I.tuple hq;obtain⟨⟨old,he⟩,hit⟩:=st;obtain⟨f0,f1,f2,f3,f4,f5⟩:=hf it (by simp);have hl:=rv.length;exact Bj (I.ok.hd hc) he hit (show s.heap.IsTuple a aL.toArray from p) (by simp;omega) λh' eb=>⟨rfl,I.turned (t':=s.toks) (λb o hb e=>eb b o hb e) f0 f1 f3 f4 f5⟩
 self:=λ_ _ _ _ _ st h=>mw st.1.choose_spec h
def JF (K:aV)(ta:TA):TI:=λσ H R=>ta σ H λvs H1=>Pe vs (aW K H1) λa=>R (qO K a) H1
def lF {X:Cx}{elts:List Expr}{k:Nat}{mK:Pos}{l:Expr}{ta:TA}{p pos:Pos}(hg:Gl X "enumerate")(hm:X.mg "enumerate"=none)(ha:PA X [l] ta)(hs:starEach [l] X.env=[(false,eval l X.env)]:=by rfl) :
  PI X (.Tuple elts k mK) (.Call (.Name "enumerate" p) [l] [] pos) (JF X.K ta):=by
 intro ah s σ H R I h;refine Call_ (ig I hg hm nH (zo (cD (ha pos ah s σ H _ I h) λus s1 a8=>?_) hs rfl));obtain⟨vs,H1,I1,r1,q1⟩:=a8;obtain⟨a,xs,e,hq,q⟩:=q1;subst e;obtain⟨u,rfl,rx⟩:=r1.one;cases rx;obtain⟨aL,rv,pl,hz⟩:=I1.tuple hq;refine yZ (show s1.heap.IsTuple a aL.toArray from pl) λh1 he hit hk=>mw he ?_;refine⟨s1.heap.objs.size+1,[s1.heap.objs.size+1,s1.heap.objs.size],_,_,H1,rfl,I1.kept (t':=s1.toks) λb o e=>hk b o e,xH a _ _ (iZ (kO _)),⟨⟨_,he⟩,hit⟩,λb hb=>?_,q⟩;rcases aQ.mp hb with rfl | hb
 .exact I1.qk (ja _) (I1.bQ.fresh (ja _))
 obtain rfl:b=s1.heap.objs.size:=by simpa using hb
 exact I1.qk (aF _) (I1.bQ.fresh (aF _))
open PySem PySem.Spec PyProof.Rows PySem.W
def i7 (c':Addr)(qual:Str):HO:=.ext λh=>h.CodeRec (.ref c') qual
def mX (f:Addr)(o:Obj):HO:=.ext λh=>h.get? f=some o
def wJ {P:Program}{w:World}{H:Hp}{h:Heap}{c':Addr}{qual:Str}(hr:h.CodeRec (.ref c') qual):bY P w H h c' (i7 c' qual):=by
 obtain⟨c2,oc,vs,t,e,xi,hd,hv⟩:=id hr;cases e;exact⟨hr,⟨oc,xi⟩,λh1 h2 ⟨c3,Xp,Wy,t3,e3,Rz,gO,K4⟩ k=>by cases e3;exact⟨_,Xp,Wy,t3,rfl,k _ Rz,gO,K4⟩⟩
def oJ {P:Program}{w:World}{H:Hp}{h:Heap}{f:Addr}{o:Obj}(e:h.get? f=some o):bY P w H h f (mX f o):=⟨e,⟨o,e⟩,λ_ _ q k=>k _ q⟩
def Tab (T:Addr)(pos:Pos)(qual:Str)(H:Hp):Prop :=
 ∃ps,H T=some (.qR ps)/\TriplesOk ps.toList/\(codeAmong pos ps.toList=none\/∃c',codeAmong pos ps.toList=some (.ref c')/\H c'=some (i7 c' qual))
def eQ (T:Addr)(H H':Hp):Prop:=∀b o,b≠T->H b=some o->H' b=some o
def qP (mg:Str->Option Value)(base:Heap):Prop :=
 ∃bm o,mg "__builtins__"=some (.ref bm)/\bm≠builtinsNs/\bm≠mainGlobals/\base.get? bm=some o/\o.cls=.type "module" /\ o.dict=some builtinsNs/\o.data=.plain
theorem iN {a b:Int}{ta tb:Tok}{c:Value}:∀l:List Value,TriplesOk l->TriplesOk (l++[.int a ta,.int b tb,c])
 | [],_=>trivial
 | [x],h=>by cases x <;> exact h.elim
 | [x,y],h=>by cases x <;> cases y <;> exact h.elim
 | x::y::z::r,h=>by
  cases x with
  | int i ti =>
   cases y with
   | int j tj=>exact iN r h
   | _=>exact h.elim
  | _=>exact h.elim
section
variable {X:Cx}{params:Arguments}{body:Expr}{scope:Scope}{pos:Pos}{c T:Addr}
abbrev ku (X:Cx)(params:Arguments)(body:Expr)(scope:Scope)(c':Addr)(fg:Value):Obj:=kla_obj "<lambda>" (X.env.qual ++ "<lambda>") params body scope [] ((X.mg "__name__").getD .none) c' fg
def PK (X:Cx)(params:Arguments)(body:Expr)(scope:Scope)(pos:Pos)(T:Addr):TE:=λσ H Q=>Tab T pos (X.env.qual ++ "<lambda>") H /\
 ∀f c' fg H',eQ T H H'->Tab T pos (X.env.qual ++ "<lambda>") H'->H f=none->H' f=some (mX f (ku X params body scope c' fg))->H' c'=some (i7 c' (X.env.qual ++ "<lambda>"))->Q (.ref f) H'
def C1 (qh:X.env.code=.ref c)(hC:codeHdIn X.K c T=true)(hB:qP X.mg X.base)(lU:∀y∈scope.names,y.2≠.free)(DS:defaultsOf params X.env=([],[]):=by rfl):PE X (.Lambda params body scope pos) (PK X params body scope pos T):=by
 intro ah s σ H Q I h;obtain⟨⟨ps,hT,ht,DT⟩,q⟩:=h;refine kla_eval DS ?_;have J0:s.heap.get? T=some (tabObj ps):=(show bY X.prog X.w H s.heap T (.qR ps) from I.bQ T _ hT);have hg:=I.mod.glob.keeps I.bk;have C:=codeHd_of_K I.xb hC;obtain⟨bm,ob,b1,b2,b3,b4,b5,b6,b7⟩:=hB;have Tf:=I.bk _ _ b4;have QF:bm≠T:=λz=>by
  have:=(I.bs _ _ b4).2;rw [z,hT] at this;cases this
 have QB:mainGlobals≠T:=λz=>by
  obtain⟨o,es,ep,e,d,_⟩:=hg;rw [z,J0] at e;cases e;cases d
 have NB:s.heap.BuiltinsAt X.mg T:=⟨bm,ob,b1,b2,b3,QF,Tf,b5,b6,b7⟩;have EL:∀b v,H b=some v->b < s.heap.objs.size:=λb v e=>I.bQ.lt e;rcases DT with Ni | ⟨c',hf,i9⟩
 .refine kla_makeFunction (closureFor_none lU) I.ok.glob hg qh C J0 ht Ni QB NB λc' fg h' tk hx JS gZ DL M3=>?_;have Zz:∃oc,h'.get? c'=some oc:=by
   obtain⟨c2,oc,vs,t,e,xi,_⟩:=DL;cases e;exact⟨oc,xi⟩
  have qg:h'.objs.size > s.heap.objs.size:=nW JS gZ;have keep:∀b o,b≠T->s.heap.get? b=some o->(h'.push (ku X params body scope c' fg)).get? b=some o:=λb o n e=>bS _ (hx b o n e)
  let H':Hp:=upd (upd (upd H T (.qR (ps++#[rawInt pos.line,rawInt pos.col,.ref c']))) c' (i7 c' (X.env.qual ++ "<lambda>"))) h'.objs.size (mX h'.objs.size (ku X params body scope c' fg))
  have yA:∀b v,H b=some v->b≠c'/\b≠h'.objs.size:=λb v e=>⟨bM (eW (EL b v e) JS),bM (j8 (EL b v e) qg)⟩;have QE:c'≠h'.objs.size:=bM gZ;have Mx:=yA T _ hT;have eT:H' T=some (.qR (ps++#[rawInt pos.line,rawInt pos.col,.ref c'])):=by
   show upd (upd (upd H T _) c' _) h'.objs.size _ T=_;rw [ai Mx.2,ai Mx.1,ae]
  have ec:H' c'=some (i7 c' (X.env.qual ++ "<lambda>")):=by
   show upd (upd (upd H T _) c' _) h'.objs.size _ c'=_;rw [ai QE,ae]
  have ef:H' h'.objs.size=some (mX h'.objs.size (ku X params body scope c' fg)):=ae;have eo:∀b,b≠T->b≠c'->b≠h'.objs.size->H' b=H b:=λb n1 n2 n3=>by
   show upd (upd (upd H T _) c' _) h'.objs.size _ b=_;rw [ai n3,ai n2,ai n1]
  have sT:eQ T H H':=λb o n e=>by rw [eo b n (yA b o e).1 (yA b o e).2];exact e
  have I2:Inv X ah σ H' { s with heap:=h'.push (ku X params body scope c' fg),toks:=tk }:=by
   refine I.call (g':=s.gens) (t':=tk) (d':=s.drawn) (ch:=[]) ⟨λb o e n _ _=>keep b o (λz=>by rw [z,hT] at n;cases n) e,λb o e n _ _=>⟨o.slots,keep b o (λz=>by rw [z,hT] at n;cases n) e⟩,λb o e n _=>?_,λb o e _=>?_,λb xs e=>?_,λb o u e=>?_,λb Ql e=>?_⟩ (λb v e=>?_) I.bare (λb hb=>nomatch hb)
   .have lb:=ba e;rw [eo b (λz=>by rw [z,hT] at n;cases n) (bM (eW lb JS)) (bM (j8 lb qg))];exact n
   .by_cases z:b=T
    .exact⟨_,by rw [z];exact bS _ M3⟩
    exact⟨o,keep b o z e⟩
   .exact sT b _ (λz=>by rw [z,hT] at e;cases e) e
   .exact sT b _ (λz=>by rw [z,hT] at e;cases e) e
   .by_cases z:b=T
    .subst z;rw [hT] at e;cases e;exact⟨_,eT⟩
    exact⟨#[],by rw [Array.append_empty];exact sT b _ z e⟩
   by_cases z1:b=h'.objs.size
   .subst z1;rw [ef] at e;cases e;exact oJ (cV _ rfl)
   by_cases z2:b=c'
   .subst z2;rw [ec] at e;cases e;refine wJ ?_;obtain⟨c2,oc,vs,t,e',xi,hd,hv⟩:=DL;cases e';exact⟨_,oc,vs,t,rfl,bS _ xi,hd,hv⟩
   by_cases z3:b=T
   .subst z3;rw [eT] at e;cases e;exact bS _ M3
   rw [eo b z3 z2 z1] at e;refine(I.bQ b v e).g6 (λd o A_ e'=>?_) (λd e'=>sT d _ (λz=>by rw [z,hT] at e';cases e') e') λd ys e'=>sT d _ (λz=>by rw [z,hT] at e';cases e') e';rcases A_ with rfl | A_
   .exact keep d o z3 e'
   exact keep d o (λz=>by rw [z,hT] at A_;cases A_) e'
  have fresh:H h'.objs.size=none:=I.bQ.fresh (jk qg);exact⟨.ref h'.objs.size,H',I2,rfl,q _ c' fg H' sT ⟨_,eT,by rw [pq];exact iN _ ht,.inr ⟨c',by rw [pq];exact codeAmong_snoc _ ht Ni,ec⟩⟩ fresh ef ec⟩
 refine kla_makeFunctionHit (closureFor_none lU) I.ok.glob hg qh C J0 ht hf NB λfg h' tk hk hsz=>?_;have keep:∀b o,s.heap.get? b=some o->(h'.push (ku X params body scope c' fg)).get? b=some o:=λb o e=>bS _ (hk b o e);have fresh:H h'.objs.size=none:=I.bQ.fresh hsz;refine⟨.ref h'.objs.size,_,I.laid (a:=h'.objs.size) (o:=mX h'.objs.size (ku X params body scope c' fg)) (t':=tk) keep hsz (oJ (cV _ rfl)),rfl,?_⟩;refine q _ c' fg _ (λb o _ e=>by rw [ai (ao e fresh)];exact e) ⟨ps,by rw [ai (ao hT fresh)];exact hT,ht,.inr ⟨c',hf,by rw [ai (ao i9 fresh)];exact i9⟩⟩ fresh ae (by rw [ai (ao i9 fresh)];exact i9)
end
section
variable {P:Program}{w:World}{K:Frag}{mg:Str->Option Value}{base:Heap}{f c':Addr}{q:Str}{params:Arguments}{body:Expr}{scope:Scope}{pm fg:Value}{N ps:List Str}{k:Nat}{te:TE}
def F_ (S:aK N ps scope)(lV:∀us:List Value,us.length=ps.length->bindArgs (kla_fn "<lambda>" q params body scope [] pm (.ref c') fg) ⟨us,[]⟩=pure (ps.zip us))
  (iE:∀(A:Around)(outer:List Env)(s:Shared)(H:Hp),PE (nE e_ P w K mg base N q scope f (.ref c') A outer s H λ_ _ _=>False) body te)
  (A:Around)(outer:List Env)(s:Shared)(H:Hp)(us:List Value)(vs:List V)(Q:VK)(hr:dX (k+1) A)(e0:oA P w K mg base A outer s H)(hf:H f=some (mX f (kla_obj "<lambda>" q params body scope [] pm c' fg)))
  (hc:H c'=some (i7 c' q))(rv:aT vs us)(hl:vs.length=ps.length)(h:te (start N vs) H Q):codeAny (model P w) A (.call (.ref f) ⟨us,[]⟩) (CR e_ outer P w H s Q λ_ _ _=>False) s:=by
 obtain⟨ef,_⟩:=e0.bQ f _ hf;obtain⟨ec,_⟩:=e0.bQ c' _ hc;have lu:us.length=ps.length:=by rw [<-rv.length];exact hl
 have lim:s.heap.NoLimit:=e0.mod.nolimit.keeps λb o e=>(e0.bs b o e).1;have iC:∀y∈ps.zip us,scope.names.lookup y.1=some .local\/(scope.names.lookup y.1=some .cell/\((cellsFrom (s.heap.objs.size+1) scope.names []).lookup y.1).isSome=true):=λ⟨n,v⟩ hy=>by
  rcases S.par n (List.of_mem_zip hy).1 with z | z
  .exact .inl z
  exact .inr ⟨z,cellsFrom_some _ _ _ (.inl z)⟩
 refine kla_callFunE hr.depth ef rfl S.co S.gen rfl ec ?_;rw [lV us lu];refine aZ (wpAny_newFunctionEnv_cells S.kind iC λenv he s1 x=>?_);subst he;refine⟨lim.keeps x.toInCall.keep,kla_codeExpr ?_⟩;have I:Inv (nE e_ P w K mg base N q scope f (.ref c') A outer s H λ_ _ _=>False) [] (start N vs) H s1:=rY S hr.hd e0 hl rv x;refine cJ (iE A outer s H [] s1 (start N vs) H _ I h) (λv s' a8=>?_) λe s' z=>z;obtain⟨y,H',J,r,z⟩:=a8;exact⟨y,H',J.os,J.bare,J.base,J.bQ,r,z⟩
end
section
variable {X:Cx}{i:Nat}{x:Str}{e:Expr}{es:List Expr}{t:TA}{p pos:Pos}{q:Str}{params:Arguments}{body:Expr}{scope:Scope}{N ps:List Str}{k:Nat}{te:TE}
def Cc (i:Nat)(q:Str)(params:Arguments)(body:Expr)(scope:Scope) (N ps:List Str)(t:TA)(te:TE):TE:=λσ H Q=>∃f pm c' fg,σ[i]?=some (some (.ref f)) /\
 t σ H λvs H1=>H1 f=some (mX f (kla_obj "<lambda>" q params body scope [] pm c' fg))/\H1 c'=some (i7 c' q)/\vs.length=ps.length/\te (start N vs) H1 Q
def yk (hN:X.N[i]?=some x)(hx:X.env.scope.names.lookup x=some .local)(S:aK N ps scope)(hr:dX (k+1) X.A)
  (lV:∀(pm fg:Value)(c':Addr)(us:List Value),us.length=ps.length->bindArgs (kla_fn "<lambda>" q params body scope [] pm (.ref c') fg) ⟨us,[]⟩=pure (ps.zip us))
  (iE:∀(f c':Addr)(A:Around)(outer:List Env)(s:Shared)(H:Hp),PE (nE e_ X.prog X.w X.K X.mg X.base N q scope f (.ref c') A outer s H λ_ _ _=>False) body te)(ha:PA X (e::es) t)
  (A9:(x == ("__debug__":Str))=false:=by decide)(he:starEach (e::es) X.env=(false,eval e X.env)::starEach es X.env:=by rfl)(va:(backTo pos (starEach es X.env)).any (·.1)=false:=by rfl) :
  PE X (.Call (.Name x p) (e::es) [] pos) (Cc i q params body scope N ps t te):=by
 intro ah s σ H Q I h;obtain⟨f,pm,c',fg,hσ,h⟩:=h;obtain⟨m,hn,hl⟩:=I.loc;obtain⟨u,ru,lk⟩:=hl i x (.ref f) hN hσ (.inl hx);cases (show u=Value.ref f from ru);have hm:m x=some (.ref f):=by
  rcases lk with l | ⟨l,_⟩
  .exact l.2
  have l':X.env.scope.names.lookup x=some .cell\/X.env.scope.names.lookup x=some .free:=l;rw [hx] at l';rcases l' with l' | l' <;> cases l'
 refine nV (wpAny_Name (sU I.ok.kind hx hn hm ?_) A9);refine callWith_def (o:=kla_obj "<lambda>" q params body scope [] pm c' fg) rfl (cD (ha pos ah s σ H _ I h) λus s1 a8=>?_) he;obtain⟨vs,H1,I1,r,z1,z2,z3,z4⟩:=a8;obtain⟨ef,_⟩:=I1.bQ f _ z1;refine⟨ef,ji (jj (F_ (k:=k) S (λus hl=>lV pm fg c' us hl) (iE f c') X.A X.stack s1 H1 us vs Q hr I1.Kl z1 z2 r z3 z4) λr' s' z=>?_)⟩;cases r' with
 | error e=>exact z.elim
 | ok fl =>
  cases fl with
  | ret u=>exact I1.after z
  | next=>exact z.elim
  | brk=>exact z.elim
  | cont=>exact z.elim
end
def ED (ts:List Addr)(H:Hp):Prop:=∀b,H b=none\/(∃o xs,H b=some (.i_ o (.lst xs)))\/(b∈ts/\H b=some (.qR #[]))
def A2 {P:Program}{w:World}{K:Frag}{mg mb:Str->Option Value}{CX:xp}{k:Nat}{fa a:Addr}{fd:FuncData}{x:Str}{sp:Sp}{s₁:Shared}{vs:List Value}{ns:List Int}{ts:List Addr}
  (KX:K.In s₁.heap)(r_:s₁.heap.Ns mainGlobals mg)(hb:s₁.heap.Ns builtinsNs mb)(JZ:∀x:Str,x ≠ "__name__" -> mb x=bootBuiltins x)(JP:s₁.heap.NoLimit)
  (ZE:∃bm ob,mg "__builtins__"=some (.ref bm)/\bm≠builtinsNs/\s₁.heap.get? bm=some ob/\ob.cls=.type "module" /\ ob.dict=some builtinsNs/\ob.data=.plain)(hg:s₁.gens=#[])
  (JJ:∀T∈ts,s₁.heap.get? T=some (tabObj #[])/\K.lookup T=none/\∃c,codeHdIn K c T=true)
  (ha:s₁.heap.get? a=some { cls:=.type "list",data:=.seq vs.toArray })(hi:IntsAre vs ns)(hl:ns.length<=sizeLine)(hr:dX k callerA)
  (F:∀base:Heap,K.In base->base.Ns mainGlobals mg->qP mg base->bI P w K mg base CX k fa fd [x] sp)(lV:∀(s:Shared)(u:Value),BindsTo s fd ⟨[u],[]⟩ [(x,u)])
  (xf:∀H:Hp,ED ts H->(∀T∈ts,H T=some (.qR #[]))->aH K H a (ns.map V.int)->sp [.ref a] H (λv _=>v=.bl true) λ_ _ _=>False)
  (J3:∀H e s',CX [] H s₁ (λ_ _ _=>False) e s'->False) :
  codeAny (model P w) callerA (.call (.ref fa) ⟨[.ref a],[]⟩) (λr s'=>r=.ok (.ret (.bool true))/\OldK s₁.heap s'.heap/\s'.os=s₁.os/\AllBare s'.gens) s₁:=by
 have rv:=mI hi;have Jy:=hi.length;have core:∀H:Hp,ED ts H->(∀T∈ts,H T=some (.qR #[]))->aH K H a (ns.map V.int)->j6 P w H s₁.heap->(∀b,H b≠none->b=a\/b∈ts)->(H a≠none->K.lookup a=none) ->
   codeAny (model P w) callerA (.call (.ref fa) ⟨[.ref a],[]⟩) (λr s'=>r=.ok (.ret (.bool true))/\OldK s₁.heap s'.heap/\s'.os=s₁.os/\AllBare s'.gens) s₁:=by
  intro H hO hT hS bQ hA hK;have jP:∀{b:Addr}{o:Obj},s₁.heap.get? b=some o->H b=none->(kI s₁.heap H).get? b=some o:=λe n=>v_ e n;have off:∀{b:Addr}{o:Obj},s₁.heap.get? b=some o->(∀aL n,o.data≠.seq aL n)->(∀fs,o.data≠.fields fs)->H b=none:=λ{b o} e d1 d2=>by
   cases q:H b with
   | none=>rfl
   | some u =>
    rcases hA b (by rw [q];simp) with e' | e'
    .subst e';rw [ha] at e;cases e;exact(d1 _ _ rfl).elim
    rw [(JJ b e').1] at e;cases e;exact(d2 _ rfl).elim
  have F2:∀{b:Addr}{m:Str->Option Value},s₁.heap.Ns b m->(kI s₁.heap H).Ns b m:=λ{b m} ⟨o,es,ep,e,d,r⟩=>⟨o,es,ep,jP e (off e (λ_ _ z=>by rw [d] at z;cases z) λ_ z=>by rw [d] at z;cases z),d,r⟩;have Nz:K.In (kI s₁.heap H):=λb o e=>jP (KX b o e) (by
   cases q:H b with
   | none=>rfl
   | some u =>
    rcases hA b (by rw [q];simp) with e' | e'
    .subst e';rw [hK (by rw [q];simp)] at e;cases e
    rw [(JJ b e').2.1] at e;cases e)
  have hM:Mod K mg (kI s₁.heap H):=⟨Nz,F2 r_,⟨mb,F2 hb,JZ⟩,let ⟨mc,h1,h2⟩:=JP;⟨mc,F2 h1,h2⟩⟩;have NA:qP mg (kI s₁.heap H):=by
   obtain⟨bm,ob,b1,b2,b3,b4,b5,b6⟩:=ZE;refine⟨bm,ob,b1,b2,λz=>?_,jP b3 (off b3 (λ_ _ z=>by rw [b6] at z;cases z) λ_ z=>by rw [b6] at z;cases z),b4,b5,b6⟩;obtain⟨o,es,ep,e,d,_⟩:=r_;rw [<-z,b3] at e;cases e;rw [b6] at d;cases d
  have e0:oA P w K mg (kI s₁.heap H) callerA [] s₁ H:=⟨rfl,hM,λb o e=>zZ e,Nat.le_of_eq (sf _ _),trivial,λb hb=>absurd (show b∈([]:List Addr) from hb) (by simp),bQ,.of_eq hg⟩;refine jj ((F _ Nz (F2 r_) NA).run callerA [] s₁ H ⟨[.ref a],[]⟩ [.ref a] [.ref a] _ _ hr e0 (lV s₁ (.ref a)) (.cons rfl .nil) (xf H hO hT hS)) λr s' h=>?_;cases r with
  | error e=>exact(J3 H e s' h).elim
  | ok fl =>
   cases fl with
   | next=>exact False.elim h
   | brk=>exact False.elim h
   | cont=>exact False.elim h
   | ret u =>
    obtain⟨v,H',os,bare,un,Ge,r',q⟩:=h;have q':v=.bl true:=q;subst q';obtain rfl:u=Value.bool true:=r';have each:∀b o,s₁.heap.get? b=some o->asItWas s₁.heap s'.heap b o/\∃o',s'.heap.get? b=some o':=λb o e=>by
     cases q:H b with
     | none =>
      have z:=un.keep b o e q (by intro z;exact absurd (show b∈([]:List Addr) from z) (by simp)) (by simp);exact⟨.inl z,o,z⟩
     | some u =>
      rcases hO b with z | ⟨ob,xs,z⟩ | ⟨BS,z⟩
      .rw [q] at z;cases z
      .have z2:=un.kJ b ob _ z;obtain⟨e1,_⟩:=bQ b _ z;obtain⟨e2,_⟩:=Ge b _ z2;rw [e] at e1;cases e1;exact⟨.inl e2,_,e2⟩
      obtain⟨more,z2⟩:=un.kT b _ z;have e2:s'.heap.get? b=some (tabObj (#[]++more)):=Ge b _ z2;rw [(JJ b BS).1] at e;cases e;obtain⟨c,hc⟩:=(JJ b BS).2.2;obtain⟨oc,Wz,file,tf,flags,tg,inF,text,tt,d1,d2,d3,d4,_⟩:=codeHd_of_K KX hc;exact⟨.inr (.inl ⟨⟨c,oc,Wz,d1,d2,d3,d4⟩,rfl,#[],more,rfl,e2⟩),_,e2⟩
    exact⟨rfl,⟨λb o e=>(each b o e).1,λb o e=>(each b o e).2⟩,os,bare⟩
 have na:a∉ts:=λz=>by
  have:=(JJ a z).1;rw [ha] at this;cases this
 cases hk:K.lookup a with
 | some o =>
  have e:=KX a o hk;rw [ha] at e;cases e;refine core (λb=>if b∈ts then some (.qR #[]) else none) (λb=>?_) (λT h=>av h) (.inr ⟨_,vs.toArray,_,hk,rfl,rfl,rfl,by rw [bO,Jy];exact hl,by simpa using rv⟩) (λb u z=>?_) (λb z=>?_) λz=>absurd (ax na) z
  .by_cases h:b∈ts
   .exact .inr (.inr ⟨h,av h⟩)
   exact .inl (ax h)
  .by_cases h:b∈ts
   .have z':=(av h).symm.trans z;cases z';exact(JJ b h).1
   have z':=(ax h).symm.trans z;cases z'
  by_cases h:b∈ts
  .exact .inr h
  exact absurd (ax h) z
 | none =>
  refine core (λb=>if b=a then some (.i_ { cls:=.type "list",data:=.seq vs.toArray } (.lst (ns.map V.int))) else if b∈ts then some (.qR #[]) else none) (λb=>?_) (λT h=>?_) (.inl (.inr ⟨{ cls:=.type "list",data:=.seq vs.toArray },av rfl⟩)) (λb u z=>?_) (λb z=>?_) λ_=>hk
  .by_cases hb:b=a
   .exact .inr (.inl ⟨_,_,av hb⟩)
   by_cases h:b∈ts
   .exact .inr (.inr ⟨h,(ax hb).trans (av h)⟩)
   exact .inl ((ax hb).trans (ax h))
  .exact(ax (λz:T=a=>na (z ▸ h))).trans (av h)
  .by_cases hb:b=a
   .have z':=(av hb).symm.trans z;cases z';subst hb;exact⟨ha,by rw [aB];exact hl,vs,_,rv,ha⟩
   by_cases h:b∈ts
   .have z':=((ax hb).trans (av h)).symm.trans z;cases z';exact(JJ b h).1
   have z':=((ax hb).trans (ax h)).symm.trans z;cases z'
  by_cases hb:b=a
  .exact .inl hb
  by_cases h:b∈ts
  .exact .inr h
  exact absurd ((ax hb).trans (ax h)) z
def Ca {l:OpenLaw}{n k:Nat}{q:Program}{loose:List Str}{XP:(Str->Option Value)->Heap->Prop}{YP:World->Heap->Prop}{d:DefRec}{K:Params->Frag}{CX:World->xp}{sp:World->Sp}{x:Str}{ts:List Addr}
  (hn:l.most=some n)(HJ:n<=sizeLine)(JV:d.params.defaults=[])(hr:dX k callerA)
  (hY:∀(w:World)(h:Heap),YP w h->(K w.params).In h/\∀T∈ts,h.get? T=some (tabObj #[]))
  (hK:∀w:World,∀T∈ts,(K w.params).lookup T=none/\∃c,codeHdIn (K w.params) c T=true)
  (F:∀(w:World)(mg:Str->Option Value)(fa:Addr)(h:Heap),(K w.params).In h->h.Ns mainGlobals mg->mg d.name=some (.ref fa) ->
   ∃fd:FuncData,(∀(s:Shared)(u:Value),BindsTo s fd ⟨[u],[]⟩ [(x,u)]) /\
    ∀base:Heap,(K w.params).In base->base.Ns mainGlobals mg->qP mg base->bI l.prog w (K w.params) mg base (CX w) k fa fd [x] (sp w))
  (xf:∀(w:World)(H:Hp)(a:Addr)(ns:List Int),ns.length<=n->ED ts H->(∀T∈ts,H T=some (.qR #[]))->aH (K w.params) H a (ns.map V.int)->sp w [.ref a] H (λv _=>v=.bl true) λ_ _ _=>False)
  (J3:∀(w:World)(H:Hp)(s:Shared)(e:Value)(s':Shared),CX w [] H s (λ_ _ _=>False) e s'->False) :
  WalkO q loose XP YP l.row.toRowW d [] (λf vs=>PySem.call f vs):=by
 refine Fb.om hn JV λw s₀ s₁ mg mb fa o pm cd doc a vs ns G Y ho hd uP JO DM hints bc hg=>?_;obtain⟨KX,TX⟩:=hY w _ Y;obtain⟨fd,hb,hF⟩:=F w mg fa _ KX G.T.g JO;exact A2 KX G.T.g G.T.b G.T.builtins G.T.nolimit G.T.bmain hg (λT hT=>⟨TX T hT,hK w T hT⟩) DM hints (cO bc HJ) hr hF hb (λH hO hT hS=>xf w H a ns bc hO hT hS) λH e s'=>J3 w H s₁ e s'
def br {X:Cx}{scope:Scope}{js:List (Nat×Str)}(h:(js.all λp=>X.N[p.1]? == some p.2 && X.env.scope.names.lookup p.2 == some .cell && scope.names.lookup p.2 == some .free)=true)
  (h2:(scope.names.all λy=>y.2 != .free || X.env.scope.names.lookup y.1 == some .cell)=true):G7 X scope js:=by
 refine⟨λp hp=>?_,λy hy=>?_⟩
 .have:=gb.mp h p hp;simp only [jf,beq_iff_eq] at this;exact⟨this.1.1,this.1.2,this.2⟩
 have:=gb.mp h2 _ hy;simpa using this
def vb {σ:St}{H:Hp}{A B:Hp->Prop}(h:A H):ix σ H λb H3=>if b=true then A H3 else B H3:=by
 show if true=true then A H else B H;exact kC h
def goN {i:Nat}{v:V}{σ:St}{H:Hp}{Q:St->Hp->Prop}(h:Q (σ.set i (some v)) H):dM i v σ H Q:=h
def dQ (x y:Str):(x++y).length=x.length+y.length:=by
 show (x.cps++y.cps).size=_;rw [Array.size_append];rfl
def wy (ns:List Int)(lo hi:Option Int):∃BN:List Int,ff (ns.map V.int) lo hi=BN.map V.int/\(∀n∈BN,n∈ns)/\BN.length<=ns.length :=
 ⟨(ns.drop (HT.jU (ns.map V.int).length 0 lo)).take (HT.jU (ns.map V.int).length (ns.map V.int).length hi - HT.jU (ns.map V.int).length 0 lo),by unfold ff;rw [<-List.map_drop,<-List.map_take],λn hn=>sZ (rq hn),by rw [eV,mC];omega⟩
def p_ {X:Cx}(K:aV)(hK:X.K=K:=by rfl):G4 X (Md K):=by
 subst hK;exact aS
def iS {X:Cx}{es:List Expr}{k:Nat}{t:Ie}{n:Nat}{pos:Pos}(K:aV)(hc:X.calm=true)(h:Oc X es t)(hK:X.K=K:=by rfl)
  (hn:(assignEach es X.env).length=n:=by rfl)(u_:(assignEach es X.env).findIdx? (·.1)=none:=by rfl):PG X (.Tuple es k pos) (Bc K n t):=by
 subst hK;exact d8 hc h hn u_
def z8 {n k:Nat}(h:k < n):DI n (k:Int)=some k:=by
 unfold DI;rw [av ∅,av ∅];simp
def Ak {ns:List Int}{k:Nat}(h:k < ns.length):jD (ns.map V.int) (k:Int)=some (.int ns[k]):=cw (by rw [bo,cQ h];rfl)
end L2
section
variable {P:PySem.Program}{w:PySem.World}{K:aV}{mg:PySem.Str->Option PySem.Value}{base:PySem.Heap}{f:PySem.Addr}{fd:PySem.FuncData}
namespace fh
open PySem L2
def top (i:Nat):Stmt:=PySem.Challenge.pw_wright_k16_parts_that_come_again.main.body.getD i (.Pass ⟨0,0,0,0⟩)
abbrev x8:Stmt:=top 11
abbrev xS:Stmt:=top 12
abbrev pT:Stmt:=top 16
abbrev ue:Stmt:=top 17
abbrev x9:Stmt:=top 18
abbrev CC:Stmt:=top 20
abbrev xU:Stmt:=top 21
abbrev IK:Stmt:=top 22
abbrev pR:Stmt:=top 24
abbrev uh:Stmt:=top 25
abbrev lg:Stmt:=top 26
abbrev uc:Stmt:=top 29
abbrev xT:Stmt:=top 30
abbrev IM:Stmt:=top 31
abbrev CF:Stmt:=top 38
abbrev CB:Stmt:=top 13
abbrev IL:Stmt:=top 14
abbrev lh:Stmt:=top 33
abbrev mQ:Stmt:=top 34
abbrev pS:Stmt:=top 35
abbrev W4:Stmt:=top 36
structure Txt (mg:Str->Option Value):Prop where
 len:mg "len"=none
 ES:mg "range"=none
 Yx:mg "isinstance"=none
 tup:mg "tuple"=none
 lst:mg "list"=none
 ve:mg "dict"=none
 all:mg "all"=none
 any:mg "any"=none
 str:mg "str"=none
 int:mg "int"=none
 boo:mg "bool"=none
 E3:mg "enumerate"=none
 sum:mg "sum"=none
 max:mg "max"=none
 min:mg "min"=none
section
def boot_all:bootBuiltins "all"=some (.builtin "all"):=by decide +kernel
def fK:bootBuiltins "list"=some (.type "list"):=by decide +kernel
def eP:bootBuiltins "dict"=some (.type "dict"):=by decide +kernel
def yi (zs:List Str):∀v∈zs.map V.str,qM v:=λv hv=>by
 obtain⟨z,_,rfl⟩:=cA.mp hv;exact .inl rfl
end
end fh
namespace L2
open PySem
def aN {K:aV}{H:Hp}{D a:Addr}{xs ys:List V}{o:HO}(hD:H D=some (.lst ys))(h:aW K H a xs):aW K (upd H D o) a xs:=by
 rcases h with (h | ⟨u,h⟩) | h
 .exact .inl (.inl (by rw [ai (λz=>by rw [z,hD] at h;cases h)];exact h))
 .exact .inl (.inr ⟨u,by rw [ai (λz=>by rw [z,hD] at h;cases h)];exact h⟩)
 exact .inr h
def uX (kvs:List (aI×V))(k:aI):(kvs.any λkv=>decide (kv.1=k))=true↔k∈kvs.map (·.1):=by
 rw [List.any_eq_true,cA];constructor
 .rintro⟨x,h1,h2⟩;exact⟨x,h1,cK h2⟩
 rintro⟨x,h1,h2⟩;exact⟨x,h1,dI h2⟩
def yg {kvs:List (aI×V)}{k:aI}{v:V}(h:k∈kvs.map (·.1)):(bj kvs k v).map (·.1)=kvs.map (·.1):=by
 unfold bj;rw [av ((uX kvs k).mpr h),g8];refine List.map_congr_left λx hx=>?_;show (if x.1=k then (x.1,v) else x).1=x.1
 split <;> rfl
def gI {kvs:List (aI×V)}{k:aI}{v:V}(h:¬k∈kvs.map (·.1)):(bj kvs k v).map (·.1)=kvs.map (·.1)++[k]:=by
 unfold bj;rw [ax (λz=>h ((uX kvs k).mp z)),bw];rfl
def dB (kvs:List (aI×V))(k:aI):(aY kvs k).isSome=true↔k∈kvs.map (·.1):=by
 rw [<-iw];exact uX kvs k
theorem cy {α β γ:Type}{F:α->β->Prop}{G:α->γ->Prop}{φ:β->γ}:∀{xs:List α}{ys:List β},Paired F xs ys->(∀a b,F a b->G a (φ b))->Paired G xs (ys.map φ)
 | _,_,.nil,_=>.nil
 | _,_,.cons h t,k=>.cons (k _ _ h) (cy t k)
def cv {z:Str}{l:List Str}:(Sum.inr z:aI)∈l.map Sum.inr↔z∈l:=by
 rw [cA];constructor
 .rintro⟨x,h1,h2⟩;rw [<-j7 h2];exact h1
 intro h;exact⟨z,h,rfl⟩
end L2
namespace M11
abbrev au:=PySem.Str×List PySem.Str
def gw (a:List PySem.Str)(h:PySem.Str):List PySem.Str:=if h∈a then a else a++[h]
def uS (bf hs:List PySem.Str):List PySem.Str:=hs.foldl gw bf
def addW (bH a:List PySem.Str)(p:PySem.Str):List PySem.Str:=if p∈bH then a else gw a p
def oB (bH bf ps:List PySem.Str):List PySem.Str:=ps.foldl (addW bH) bf
def K3 (aa:List au)(name:PySem.Str) (k:Nat):Bool:=decide ((aa[k]?.map (·.1))=some name)
def nums (aa:List au)(name:PySem.Str) (i:Nat):List Int:=((List.range i).filter (K3 aa name)).map λk:Nat=>(k:Int)
def AR (aa:List au)(name:PySem.Str) (i:Nat):nums aa name (i+1)=nums aa name i++(if K3 aa name i=true then [(i:Int)] else []):=by
 unfold nums;rw [List.range_succ,kQ,bw]
 congr 1
 by_cases h:K3 aa name i=true
 .rw [av h];simp [h]
 rw [ax h];simp [h]
def vO (aa:List au)(name:PySem.Str) (i:Nat):(nums aa name i).length<=i:=by
 unfold nums;rw [aB];have:=oU (K3 aa name) (List.range i);rw [oS] at this;exact this
def wQ (a:List PySem.Str)(h:PySem.Str):(gw a h).length<=a.length+1:=by
 unfold gw;split <;> simp
theorem hX:∀(hs bf:List PySem.Str),(uS bf hs).length<=bf.length+hs.length
 | [],bf=>by simp [uS]
 | h::r,bf=>by
  have:=hX r (gw bf h);have:=wQ bf h;show (uS (gw bf h) r).length<=_;rw [cX];omega
def Ep (bH a:List PySem.Str)(p:PySem.Str):(addW bH a p).length<=a.length+1:=by
 unfold addW;split
 .omega
 exact wQ a p
theorem tO (bH:List PySem.Str):∀(ps bf:List PySem.Str),(oB bH bf ps).length<=bf.length+ps.length
 | [],bf=>by simp [oB]
 | p::r,bf=>by
  have:=tO bH r (addW bH bf p);have:=Ep bH bf p;show (oB bH (addW bH bf p) r).length<=_;rw [cX];omega
end M11
namespace fh
open PySem L2 M11
def jy {bf:List (aI×V)}{as:List Str}(e:bf.map (·.1)=as.map Sum.inr)(h:Str){v:V}:(bj bf (Sum.inr h) v).map (·.1)=(gw as h).map Sum.inr:=by
 unfold gw;by_cases q:h∈as
 .rw [av q,yg (by rw [e];exact cv.mpr q),e]
 rw [ax q,gI (by rw [e];exact λz=>q (cv.mp z)),e,bw];rfl
theorem lQ:∀(hs:List Str)(bf:List (aI×V)) (as:List Str),bf.map (·.1)=as.map Sum.inr->(cE (hs.map λh=>((Sum.inr h:aI),V.bl true)) bf).map (·.1)=(uS as hs).map Sum.inr
 | [],bf,as,e=>e
 | h::r,bf,as,e=>by
  refine lQ r (bj bf (Sum.inr h) (.bl true)) (gw as h) ?_;exact jy e h
def keys_str {kvs:List (aI×V)}{zs:List Str}(e:kvs.map (·.1)=zs.map Sum.inr):(kvs.map λp=>kV p.1)=zs.map V.str:=by
 have e2:(kvs.map λp=>kV p.1)=(kvs.map (·.1)).map kV:=by rw [g8];rfl
 rw [e2,e,g8];rfl
section
def j4 (K:aV)(H:Hp)(r:Addr)(ru:au):Prop:=∃p,aW K H r [.str ru.1,.ref p]/\aW K H p (ru.2.map V.str)
def aR (K:aV)(H:Hp)(rs:List Addr)(aa:List au):Prop:=Paired (λr ru=>j4 K H r ru) rs aa
def aR.keep {H H':Hp}{rs:List Addr}{aa:List au}(h:aR K H rs aa)(k:∀a xs,aW K H a xs->aW K H' a xs):aR K H' rs aa:=Paired.gy h λr ru ⟨p,a,b⟩=>⟨p,k _ _ a,k _ _ b⟩
def aR.same {H H':Hp}{rs:List Addr}{aa:List au}(h:aR K H rs aa)(s:aC H H'):aR K H' rs aa:=h.keep λ_ _ z=>s.tup z
def aR.get {H:Hp}{rs:List Addr}{aa:List au}(h:aR K H rs aa){i:Nat}{r:Addr}(e:rs[i]?=some r):∃ru,aa[i]?=some ru/\j4 K H r ru:=by
 have l:=a9 h;have li:=(bA.mp e).1;have e2:aa[i]?=some (aa[i]'∅):=cQ ∅;obtain⟨x,e3,e4⟩:=Paired.at_ h i _ e2;rw [e] at e3;cases e3;exact⟨_,e2,e4⟩
def qB {H:Hp}{R D:Addr}{rs:List Addr}{aa:List au}{σ:St}{Qp:Hp->Prop}(hR:aH K H R (rs.map V.ref))(cR:aR K H rs aa)(bc:aa.length<=1000)(hD:H D=none)
  (q:∀ts H2,aC H H2->H2 D=some (.lst (ts.map V.ref))->Paired (λt h=>aW K H2 t [.str h,.bl true]) ts (aa.map (·.1))->Qp H2) :
  ∃W:Nat->Nat->List V->St->Hp->Prop,(∃m,W 0 m [] (dO ["head","parts"] [] σ) (upd H D (.lst []))) /\
 ∀i m ys σ' H,W i m ys σ' H->((j5 K R).stop i H/\Qp H)\/((j5 K R).go i H/\∃m',m' < m/\∀x H',(j5 K R).mh i H x H'->Bc K 2 (jA (dM 0) (jA (dM 1) DY)) x σ' H' λσ2 H2=>ix σ2 H2 λb H3 =>
  if b=true then qT (fq (fR 0) (fq (tC (.bl true)) pF)) σ2 H3 λy H4=>H4 D=some (.lst ys)/\ys.length < sizeLine/\W (i+1) m' (ys++[y]) σ2 (upd H4 D (.lst (ys++[y]))) else W (i+1) m' ys σ2 H3):=by
 have ll:=a9 cR;refine bT (xs:=rs.map V.ref) (λi ys σ2 H2=>∃ts:List Addr,ys=ts.map V.ref/\ts.length=i/\Paired (λt h=>aW K H2 t [.str h,.bl true]) ts ((aa.take i).map (·.1))/\(∃y0 y1,σ2=[y0,y1])/\aC H H2/\H2 D=some (.lst ys))
  ⟨[],rfl,rfl,.nil,⟨none,none,rfl⟩,af hD _,ae⟩ (λi ys σ2 H2 _ h=>?_) (λi x ys σ2 H2 ex h=>?_) (λys σ2 H2 h=>?_)
 .obtain⟨_,_,_,_,_,sm,_⟩:=h;exact sm.seq hR
 .obtain⟨ts,rfl,ht,hp,⟨y0,y1,rfl⟩,sm,hd⟩:=h;rw [bo] at ex;obtain⟨r,er,rfl⟩:=cg.mp ex;obtain⟨ru,e1,p,v1,v2⟩:=cR.get er;have li:=(bA.mp e1).1;refine⟨r,_,rfl,sm.tup v1,rfl,_,_,rfl,_,_,rfl,rfl,?_⟩;refine vb ?_;refine⟨_,rfl,gE,λt g7=>⟨?_,bF (by rw [aB];omega),ts++[t],?_,?_,?_,⟨_,_,rfl⟩,?_,ae⟩⟩
  .rw [ai (ao hd g7)];exact hd
  .rw [bw];rfl
  .rw [cu,ht];rfl
  .rw [cP,e1,bw];have gO:upd H2 t (.tup [.str ru.1,.bl true]) D=some (.lst (ts.map V.ref)):=by rw [ai (ao hd g7)];exact hd
   exact fj (Paired.gy hp λt' h' z=>aN gO ((af g7 _).tup z)) (aN gO (aW.of ae))
  intro b o hb;rw [ai (λz=>by rw [z,hD] at hb;cases hb)];exact af g7 _ _ _ (sm b o hb)
 obtain⟨ts,rfl,ht,hp,_,sm,hd⟩:=h;rw [aB,ll,cU] at hp;exact q ts H2 sm hd hp
def jF (K:aV):Sp:=λvs H Q _=>∃(R:Addr)(rs:List Addr)(aa:List au),vs=[.ref R]/\aH K H R (rs.map V.ref)/\aR K H rs aa/\aa.length<=1000 /\
 ∀D H',H D=none->aC H H'->H' D=some (.lst ((uS [] (aa.map (·.1))).map V.str))->Q (.ref D) H'
def Fo:aK ["rules"] ["rules"] (az x8):=iL rfl rfl rfl rfl nofun
def Dl (F:hZ K "heads_of" "heads_of" x8 f fd)(T:Txt mg):bI P w K mg base e_ 1 f fd ["rules"] (jF K):=by
 refine F.ok Fo (λvs H Q E h=>?_) (λdN A outer s H vs Q E hr h=>?_)
 .obtain⟨R,rs,aa,rfl,_⟩:=h;rfl
 obtain⟨R,rs,aa,rfl,hR,cR,bc,q⟩:=h;refine⟨_,aq (a_ (a7 (kK rfl) rfl T.lst fK (ab (a7 (dC rfl) rfl T.ve eP (ab
  (bG ["head","parts"] [] rfl (bq (pv 0)) (br rfl rfl) nofun rfl nofun
   (λ_ _ _ _ _=>iS (n:=2) K rfl (aD (ay (i:=0) (show (["head","parts"]:List Str).Nodup by decide +kernel) rfl (bJ rfl)) (aD (ay (i:=1) (show (["head","parts"]:List Str).Nodup by decide +kernel) rfl (bJ rfl)) cb))) (λ_ _ _ _ _=>b_)
   (λ_ _ _ _ _=>aP (ab (pv 0) (ab fO aj)))) aj)) aj))),?_⟩
 dsimp only [qx];refine⟨_,rfl,R,rfl,⟨_,hR⟩,λD hD=>qB hR cR bc hD λts H2 sm hd hp=>?_⟩;have kp:Paired (λt (kv:aI×V)=>aW K H2 t [kV kv.1,kv.2]) ts ((aa.map (·.1)).map λh=>((Sum.inr h:aI),V.bl true)):=cy hp λ_ _ z=>z;refine⟨D,ts,_,rfl,hd,kp,λd hd2=>?_⟩;refine⟨d,_,rfl,ae,λD2 jM=>?_⟩;rw [keys_str (lQ (aa.map (·.1)) [] [] rfl)];have nd:D2≠d:=λz=>by rw [z,ae] at jM;cases jM
 exact q D2 _ (sm.free (by rw [ai nd] at jM;exact jM)) (sm.trans ((af hd2 _).trans (af jM _))) ae
theorem iF:∀(aa:List au) (n:Nat),aa.length<=n->(∀ru∈aa,ru.2.length<=8)->(aa.flatMap (·.2)).length<=8 * n
 | [],n,_,_=>by simp
 | ru::r,n,hl,h=>by
  rw [cX] at hl;have:=iF r (n - 1) ∅ λx hx=>h x (bC _ hx);have:=h ru bp;rw [List.flatMap_cons,cu];omega
def hd (aa:List au):List Str:=uS [] (aa.map (·.1))
def zD (K:aV):Sp:=λvs H Q _=>∃(R:Addr)(rs:List Addr)(aa:List au),vs=[.ref R]/\aH K H R (rs.map V.ref)/\aR K H rs aa/\aa.length<=1000/\(∀ru∈aa,ru.2.length<=8) /\
 ∀D H',H D=none->aC H H'->H' D=some (.lst ((oB (hd aa) [] (aa.flatMap (·.2))).map V.str))->Q (.ref D) H'
def jG:aK ["rules","heads","words","head","parts","part"] ["rules"] (az xS):=iL rfl rfl rfl rfl nofun
def C9 (F:hZ K "words_in" "words_in" xS f fd)(T:Txt mg):bI P w K mg base e_ 1 f fd ["rules"] (zD K):=by
 refine F.ok jG (λvs H Q E h=>?_) (λdN A outer s H vs Q E hr h=>?_)
 .obtain⟨R,rs,aa,rfl,_⟩:=h;rfl
 obtain⟨R,rs,aa,rfl,hR,cR,bc,h8,q⟩:=h;have hu:=gu hr;refine⟨_,ak (aG (i:=1) jG.nd rfl (bJ rfl) (a7 (dC rfl) rfl T.ve eP (ab
  (bG ["head","parts"] [] rfl (bq (pv 0)) (br rfl rfl) nofun rfl nofun
   (λ_ _ _ _ _=>iS (n:=2) K rfl (aD (ay (i:=0) (show (["head","parts"]:List Str).Nodup by decide +kernel) rfl (bJ rfl)) (aD (ay (i:=1) (show (["head","parts"]:List Str).Nodup by decide +kernel) rfl (bJ rfl)) cb))) (λ_ _ _ _ _=>b_)
   (λ_ _ _ _ _=>aP (ab (pv 0) (ab fO aj)))) aj)))
  (ak (aG (i:=2) jG.nd rfl (bJ rfl) fI)
  (ak (b8 cx rfl (bq (pv 0)) (d8 rfl (aD (ay (i:=3) jG.nd rfl (bJ rfl)) (aD (ay (i:=4) jG.nd rfl (bJ rfl)) cb)))
   (aq (b8 cx rfl (gX (pv 4)) (ay (i:=5) jG.nd rfl (bJ rfl))
    (aq (cW (d7 (di hu (pv 5) (pv 1))) (aq (gJ hu (pv 2) (pv 5) fO rfl)) bB)))))
  (aq (a_ (a7 (kK rfl) rfl T.lst fK (ab (pv 2) aj)))))),?_⟩
 nofun
 refine⟨_,rfl,R,rfl,⟨_,hR⟩,λD hD=>qB hR cR bc hD λts H2 sm hd2 hp=>?_⟩;have kp:Paired (λt (kv:aI×V)=>aW K H2 t [kV kv.1,kv.2]) ts ((aa.map (·.1)).map λh=>((Sum.inr h:aI),V.bl true)):=cy hp λ_ _ z=>z;refine⟨D,ts,_,rfl,hd2,kp,λd Zt=>?_⟩;have HA:(cE ((aa.map (·.1)).map λh=>((Sum.inr h:aI),V.bl true)) []).map (·.1)=(hd aa).map Sum.inr:=lQ (aa.map (·.1)) [] [] rfl;generalize cE ((aa.map (·.1)).map λh=>((Sum.inr h:aI),V.bl true)) []=kH at HA ⊢;have KU:=sm.trans (af Zt (.dK kH));have gO:upd H2 d (.dK kH) d=some (.dK kH):=ae;generalize upd H2 d (.dK kH)=H3 at KU gO;intro e he;have Zs:∀o,upd H3 e o d=some (.dK kH):=λo=>by rw [ai (ao gO he)];exact gO
 have zO:∀o,aC H (upd H3 e o):=λo=>KU.trans (af he o);have ll:=a9 cR
 let zi:zj:=λi σ H5=>∃(kvs:List (aI×V))(y3 y4 y5:Option V),σ=[bz R,bz d,bz e,y3,y4,y5]/\H5=upd H3 e (.dK kvs) /\
  kvs.map (·.1)=(oB (hd aa) [] ((aa.take i).flatMap (·.2))).map Sum.inr
 refine⟨_,rfl,R,rfl,⟨_,(zO _).seq hR⟩,dW (xs:=rs.map V.ref) zi ⟨[],none,none,none,rfl,rfl,rfl⟩ ?_ ?_ ?_⟩
 .rintro i σ H5 _ ⟨kvs,y3,y4,y5,rfl,rfl,_⟩;exact(zO _).seq hR
 .rintro i x σ H5 ex ⟨kvs,y3,y4,y5,rfl,rfl,hk⟩
  ac_nf0
  rw [bo] at ex;obtain⟨r,er,rfl⟩:=cg.mp ex;obtain⟨ru,e1,p,v1,v2⟩:=cR.get er;have li:=(bA.mp e1).1;have La:=h8 ru (bZ e1);have eT:(aa.take (i+1)).flatMap (·.2)=(aa.take i).flatMap (·.2)++ru.2:=by
   rw [cP,e1,rm];simp
  have lA:((aa.take i).flatMap (·.2)).length<=8 * i:=iF (aa.take i) i (by rw [eV];omega) λru eE=>h8 ru (rq eE);refine⟨r,_,rfl,(zO _).tup v1,rfl,_,_,rfl,_,_,rfl,rfl,?_⟩
  let G3:zj:=λj σ H6=>∃(kvs:List (aI×V))(y5:Option V),σ=[bz R,bz d,bz e,some (.str ru.1),bz p,y5]/\H6=upd H3 e (.dK kvs) /\
   kvs.map (·.1)=(oB (hd aa) [] ((aa.take i).flatMap (·.2)++ru.2.take j)).map Sum.inr
  refine⟨_,rfl,p,rfl,⟨_,(zO _).tup v2⟩,oN (xs:=ru.2.map V.str) G3 ⟨kvs,_,rfl,rfl,by rw [List.take_zero,eF];exact hk⟩ ?_ ?_ ?_⟩
  .rintro j σ H6 _ ⟨kvs,y5,rfl,rfl,_⟩;exact(zO _).tup v2
  .rintro j x σ H6 Ed ⟨kvs,y5,rfl,rfl,A8⟩
   ac_nf0
   rw [bo] at Ed;obtain⟨z,ez,rfl⟩:=cg.mp Ed;have lj:=(bA.mp ez).1;have eS:oB (hd aa) [] ((aa.take i).flatMap (·.2)++ru.2.take (j+1))=addW (hd aa) (oB (hd aa) [] ((aa.take i).flatMap (·.2)++ru.2.take j)) z:=by
    rw [cP,ez,<-gh];exact pd
   have lk:kvs.length<=8 * i+8:=by
    have h1:kvs.length=(oB (hd aa) [] ((aa.take i).flatMap (·.2)++ru.2.take j)).length:=by
     have:=congrArg List.length A8;rw [aB,aB] at this;exact this
    have h2:=tO (hd aa) ((aa.take i).flatMap (·.2)++ru.2.take j) [];rw [cu,eV] at h2;simp only [i0] at h2;omega
   have mem:(aY kH (Sum.inr z)).isSome=true↔z∈hd aa:=by rw [dB,HA];exact cv
   refine⟨_,rfl,_,rfl,d,_,rfl,bX.k (k:=Sum.inr z) (Zs _),_,rfl,?_⟩;refine dj (λc=>?_) (λc=>?_)
   .have nm:z∉hd aa:=λh=>by rw [mem.mpr h] at c;exact absurd c nofun
    refine⟨_,rfl,_,rfl,e,_,rfl,mf.k (k:=Sum.inr z) ae (bF ∅),?_⟩;refine⟨bj kvs (Sum.inr z) (.bl true),_,rfl,by rw [iM],?_⟩;rw [eS];unfold addW;rw [ax nm];exact jy A8 z
   have im:z∈hd aa:=mem.mp (by
    cases h:(aY kH (Sum.inr z)).isSome with
    | true=>rfl
    | false=>exact absurd (by rw [h];rfl) c)
   refine⟨kvs,_,rfl,rfl,?_⟩;rw [eS];unfold addW;rw [av im];exact A8
  rintro σ H6 ⟨kvs,y5,rfl,rfl,A8⟩;rw [aB,cU,<-eT] at A8;exact⟨kvs,_,_,_,rfl,rfl,A8⟩
 rintro σ H5 ⟨kvs,y3,y4,y5,rfl,rfl,hk⟩;rw [aB,ll,cU] at hk;refine⟨_,rfl,e,_,rfl,ae,λD2 jM=>?_⟩;rw [keys_str hk];exact q D2 _ ((zO _).free jM) ((zO _).trans (af jM _)) ae
end
end fh
namespace L2
open PySem
section
variable {K:aV}{a D:Addr}{xs:List V}{ts:List Str}{js:List (Nat×Str)}{g:TG}{tif:TT}{te:TE}{R:Hp->Prop}{σ:St}{H:Hp}
def iG (Pv:Nat->List V->St->Hp->Prop)(h0:Pv 0 [] (dO ts js σ) (upd H D (.lst [])))(hl:∀i ys σ H,i<=xs.length->Pv i ys σ H->aW K H a xs)
  (hs:∀i x ys σ H,xs[i]?=some x->Pv i ys σ H->g x σ H λσ2 H2=>tif σ2 H2 λb H3=>if b=true then te σ2 H3 λy H4=>H4 D=some (.lst ys)/\ys.length < sizeLine/\Pv (i+1) (ys++[y]) σ2 (upd H4 D (.lst (ys++[y]))) else Pv (i+1) ys σ2 H3)
  (hd:∀ys σ H,Pv xs.length ys σ H->R H) :
  ∃W:Nat->Nat->List V->St->Hp->Prop,(∃m,W 0 m [] (dO ts js σ) (upd H D (.lst []))) /\
 ∀i m ys σ' H,W i m ys σ' H->((qN K a).stop i H/\R H)\/((qN K a).go i H/\∃m',m' < m/\∀x H',(qN K a).mh i H x H'->g x σ' H' λσ2 H2=>tif σ2 H2 λb H3 =>
  if b=true then te σ2 H3 λy H4=>H4 D=some (.lst ys)/\ys.length < sizeLine/\W (i+1) m' (ys++[y]) σ2 (upd H4 D (.lst (ys++[y]))) else W (i+1) m' ys σ2 H3):=by
 refine⟨λi m ys σ H=>m=xs.length - i/\i<=xs.length/\Pv i ys σ H,⟨xs.length,by simp,cT _,h0⟩,?_⟩;rintro i m ys σ' H ⟨rfl,hi,p⟩;have q:=hl i ys σ' H hi p;by_cases gZ:i < xs.length
 .refine .inr ⟨⟨xs,xs[i],q,by simp [gZ]⟩,xs.length - (i+1),∅,λx H' y=>?_⟩;obtain⟨e,y⟩:=y;subst e;have z:=hs i x ys σ' _ (y xs q) p;have h1:(i+1<=xs.length)=True:=eq_true gZ;simp only [h1,true_and];exact z
 have e:i=xs.length:=by omega
 subst e;exact .inl ⟨⟨xs,q,aF _⟩,hd ys σ' H p⟩
def wI (Pv:Nat->List V->St->Hp->Prop)(h0:Pv 0 [] (dO ts js σ) (upd H D (.lst [])))(hl:∀i ys σ H,i<=xs.length->Pv i ys σ H->aW K H a xs)
  (hs:∀i x ys σ H t,xs[i]?=some x->Pv i ys σ H->H t=none->g (.ref t) σ (upd H t (.tup [.int (i:Int),x])) λσ2 H2=>tif σ2 H2 λb H3=>if b=true then te σ2 H3 λy H4=>H4 D=some (.lst ys)/\ys.length < sizeLine/\Pv (i+1) (ys++[y]) σ2 (upd H4 D (.lst (ys++[y]))) else Pv (i+1) ys σ2 H3)
  (hd:∀ys σ H,Pv xs.length ys σ H->R H) :
  ∃W:Nat->Nat->List V->St->Hp->Prop,(∃m,W 0 m [] (dO ts js σ) (upd H D (.lst []))) /\
 ∀i m ys σ' H,W i m ys σ' H->((qO K a).stop i H/\R H)\/((qO K a).go i H/\∃m',m' < m/\∀x H',(qO K a).mh i H x H'->g x σ' H' λσ2 H2=>tif σ2 H2 λb H3 =>
  if b=true then te σ2 H3 λy H4=>H4 D=some (.lst ys)/\ys.length < sizeLine/\W (i+1) m' (ys++[y]) σ2 (upd H4 D (.lst (ys++[y]))) else W (i+1) m' ys σ2 H3):=by
 refine⟨λi m ys σ H=>m=xs.length - i/\i<=xs.length/\Pv i ys σ H,⟨xs.length,by simp,cT _,h0⟩,?_⟩;rintro i m ys σ' H ⟨rfl,hi,p⟩;have q:=hl i ys σ' H hi p;by_cases gZ:i < xs.length
 .refine .inr ⟨⟨xs,xs[i],q,by simp [gZ]⟩,xs.length - (i+1),∅,λx H' y=>?_⟩;obtain⟨t,y0,rfl,ht,rfl,y⟩:=y;have z:=hs i y0 ys σ' _ t (y xs q) p ht;have h1:(i+1<=xs.length)=True:=eq_true gZ;simp only [h1,true_and];exact z
 have e:i=xs.length:=by omega
 subst e;exact .inl ⟨⟨xs,q,aF _⟩,hd ys σ' H p⟩
end
def jB {K:aV}{a:Addr}{xs:List V}{g:TG}{tb:TS}{D:Ends}{σ:St}{H:Hp}(Pv:Nat->St->Hp->Prop)(h0:Pv 0 σ H)(hl:∀i σ H,i<=xs.length->Pv i σ H->aH K H a xs)
  (hs:∀i x σ H t,xs[i]?=some x->Pv i σ H->H t=none->g (.ref t) σ (upd H t (.tup [.int (i:Int),x])) λσ2 H2=>tb { D with nx:=Pv (i+1),ct:=Pv (i+1),bk:=D.nx } σ2 H2)(hd:∀σ H,Pv xs.length σ H->D.nx σ H) :
  ∃W:Nat->Nat->St->Hp->Prop,(∃m,W 0 m σ H)/\∀i m σ H,W i m σ H ->
   ((Og K a).stop i H/\D.nx σ H)\/((Og K a).go i H/\∃N:St->Hp->Prop,(∀σ' H',N σ' H'->∃m',m' < m/\W (i+1) m' σ' H')/\∀x H',(Og K a).mh i H x H'->g x σ H' λσ2 H2=>tb { D with nx:=N,ct:=N,bk:=D.nx } σ2 H2):=by
 refine⟨λi m σ H=>m=xs.length - i/\i<=xs.length/\Pv i σ H,⟨xs.length,by simp,cT _,h0⟩,?_⟩;rintro i m σ H ⟨rfl,hi,p⟩;have q:=hl i σ H hi p;by_cases gZ:i < xs.length
 .refine .inr ⟨⟨xs,xs[i],q,by simp [gZ]⟩,Pv (i+1),λσ' H' p'=>⟨xs.length - (i+1),∅,rfl,gZ,p'⟩,λx H' y=>?_⟩;obtain⟨t,y0,rfl,ht,rfl,y⟩:=y;exact hs i y0 σ _ t (y xs q) p ht
 have e:i=xs.length:=by omega
 subst e;exact .inl ⟨⟨xs,q,aF _⟩,hd σ H p⟩
def nr {K:aV}{a:Addr}{xs:List V}{g:TG}{tb:TS}{D:Ends}{σ:St}{H:Hp}(Pv:Nat->St->Hp->Prop)(h0:Pv 0 σ H)(hl:∀i σ H,i<=xs.length->Pv i σ H->aW K H a xs)
  (hs:∀i x σ H t,xs[i]?=some x->Pv i σ H->H t=none->g (.ref t) σ (upd H t (.tup [.int (i:Int),x])) λσ2 H2=>tb { D with nx:=Pv (i+1),ct:=Pv (i+1),bk:=D.nx } σ2 H2)(hd:∀σ H,Pv xs.length σ H->D.nx σ H) :
  ∃W:Nat->Nat->St->Hp->Prop,(∃m,W 0 m σ H)/\∀i m σ H,W i m σ H ->
   ((qO K a).stop i H/\D.nx σ H)\/((qO K a).go i H/\∃N:St->Hp->Prop,(∀σ' H',N σ' H'->∃m',m' < m/\W (i+1) m' σ' H')/\∀x H',(qO K a).mh i H x H'->g x σ H' λσ2 H2=>tb { D with nx:=N,ct:=N,bk:=D.nx } σ2 H2):=by
 refine⟨λi m σ H=>m=xs.length - i/\i<=xs.length/\Pv i σ H,⟨xs.length,by simp,cT _,h0⟩,?_⟩;rintro i m σ H ⟨rfl,hi,p⟩;have q:=hl i σ H hi p;by_cases gZ:i < xs.length
 .refine .inr ⟨⟨xs,xs[i],q,by simp [gZ]⟩,Pv (i+1),λσ' H' p'=>⟨xs.length - (i+1),∅,rfl,gZ,p'⟩,λx H' y=>?_⟩;obtain⟨t,y0,rfl,ht,rfl,y⟩:=y;exact hs i y0 σ _ t (y xs q) p ht
 have e:i=xs.length:=by omega
 subst e;exact .inl ⟨⟨xs,q,aF _⟩,hd σ H p⟩
section
variable {prog:Program}{w:World}{K:Type} [DecidableEq K] {knd:KeyKind prog w K}{A:Around}{E:Value->Shared->Prop}
def q8 {s:Shared}{d l:Addr}{items:Array Value}{n:Nat}{kvs more:List (K×Value)}{Q:Value->Shared->Prop}(hh:A.handled=none)(sh:s.heap.DictOf knd d kvs)(hx:s.heap.get? l=some { cls:=.type "list",data:=.seq items n })
  (hi:items.size=more.length)(hp:∀(m:Nat) kv,more[m]?=some kv->∃u,items[m]?=some u/\kM knd s.heap u kv)(hz:kvs.length+more.length<=sizeLine)
  (h:∀h' t',h'.DictOf knd d (more.foldl (λa p=>stored a p.1 p.2) kvs)->(∀b o,b≠d->s.heap.get? b=some o->h'.get? b=some o)->Q .none { s with heap:=h',toks:=t' }) :
  wpAny (model prog w) A (call (.builtin "dict.update") [.ref d,.ref l]) Q E s:=by
 refine ji (pj xu.plain PySem.F.entry_dict_update (xu.check _ _ _ _ _ _ _ _ sh.typeIs (PySem.F.args_dict_update_2 _ _) ?_));unfold Builtin.«dict.update»;refine aJ ?_;unfold Builtin.Dict.selfAndRest;refine aJ (wpAny_notOrdered_dict sh.typeIs ?_);show wpAny _ _ (pure (d,[Value.ref l])) _ _ s;refine aZ ?_;show wpAny _ _ (Builtin.Dict.updateFrom "dict.update" d (.ref l) [] .none) _ _ s;unfold Builtin.Dict.updateFrom;refine aJ (mj (T := "list") ⟨_,hx,rfl⟩ ?_);rw [av xK];refine aJ (mZ hx hh λh1 t1 k1=>?_);refine aJ (wpAny_rule ?_);have l1:=k1 _ _ hx;refine aJ (kP ⟨_,l1,rfl,_,rfl⟩ ?_);have k2:∀b o,s.heap.get? b=some o->(h1.push { cls:=.type "list_iterator",data:=.fields #[.ref l,.int 0 0] }).get? b=some o:=λb o q=>bS _ (k1 _ _ q);refine aZ ⟨mn dZ _,Ei (knd:=knd) (A:=A) (l:=l) (items:=items) hh more 0 _ kvs _ _ (by rw [hi,mq]) ?_ ⟨_,cV _ rfl,rfl,rfl⟩ ⟨_,k2 _ _ hx,rfl,n,rfl⟩ (λm kv e=>?_) hz λh' t' hd k3=>?_⟩
 .obtain⟨o,es,ep,q,r⟩:=sh;exact⟨o,es,ep,k2 _ _ q,r⟩
 .obtain⟨u,e1,e2⟩:=hp m kv e;exact⟨u,by rw [mq];exact e1,e2.keep λb o _ q=>k2 b o q⟩
 exact h h' t' hd λb o n q=>k3 b o n (bM (ba (k1 _ _ q))) (k2 b o q)
end
section
variable {X:Cx}{o e:Expr}{apos eK:Pos}{td ty:TE}
def LN (K:aV)(td ty:TE):TE:=λσ H Q=>td σ H λx H1=>∃a,x=.ref a/\Pj H1 a/\ty σ H1 λy H2=>∃l ts kvs more,y=.ref l/\H2 a=some (.dK kvs)/\H2 l=some (.lst (ts.map V.ref)) /\
 Paired (λt kv=>aW K H2 t [kV kv.1,kv.2]) ts more/\kvs.length+more.length<=sizeLine/\Q .eJ (upd H2 a (.dK (cE more kvs)))
def FP (hc:X.calm=true)(ho:PE X o td)(he:PE X e ty)(m:M1 X o "update" apos e eK):PE X (.Call (.Attribute o "update" apos) [e] [] eK) (LN X.K td ty):=by
 intro ah s σ H Q I h;refine wpAny_Call_method m.base m.Gs m.line xr xu PySem.F.type_dict_update (cD (ho ah s σ H _ I h) λu s1 a8=>?_);obtain⟨x,H1,I1,rx,a,ex,d,q1⟩:=a8;subst ex;obtain rfl:u=Value.ref a:=rx;obtain⟨t1,t2,_⟩:=yH I1 d;refine⟨t1,t2,?_⟩;rw [m.trees];refine sY rfl (sR (mD (cD (he ah s1 σ H1 _ I1 q1) λiv s2 a8=>?_)));obtain⟨y,H2,I2,ry,l,ts,kvs,more,ey,ea,el,p,hz,q2⟩:=a8;refine Calls.spliced_nil ?_;subst ey;cases (show iv=Value.ref l from ry);obtain⟨z,U2,vs,rel,dd⟩:=wo I2.bQ ea;obtain⟨z2,aL,n,rv,hl⟩:=(show bY X.prog X.w H2 s2.heap l (.lst _) from I2.bQ l _ el);obtain⟨ms,r1,r2⟩:=pairs_at I2 p rv;have l1:=a9 r2;have l2:=r1.length;have l3:=a9 p;refine q8 (I2.ok.hd hc) dd hl (by simpa using l1) (λm kv em=>?_) (by rw [<-rel.length,<-l2];exact hz) λh' t' hd kk=>?_
 .obtain⟨u,e1,e2⟩:=Paired.at_ r2 m kv em;exact⟨u,by simpa using e1,e2⟩
 have hn:(cE more kvs).length<=sizeLine:=cO (qr more kvs) hz;have he:∃q,h'.get? a=some q:=let ⟨q,_,_,hq,_⟩:=hd;⟨q,hq⟩;exact⟨.eJ,_,I2.write (x:=a) (e:=a) (by rw [ea];exact True.intro) (.inl rfl) (λb q hb z=>kk b q hb z) he (qw hn U2 (qp r1 rel) hd),rfl,q2⟩
def su {X:Cx}:eZ X (.builtin "len") (λxs H Q=>∃a kvs,xs=[.ref a]/\H a=some (.dK kvs)/\Q (.int kvs.length) H):=by
 intro ah s σ H xs us Q I r h;obtain⟨a,kvs,rfl,e,q⟩:=h;obtain⟨u,rfl,rx⟩:=vals1 r;cases (show u=Value.ref a from rx);exact NT I (.inl e) λt s' I'=>⟨.int _,H,I',⟨_,rfl⟩,q⟩
end
theorem v7:∀{us:List Value}{ns:List Int},PyProof.Rows.IntsAre us ns->∀ys:List (Int×Tok),us=ys.map (λp=>Value.int p.1 p.2)->ys.map (·.1)=ns
 | _,_,.nil,ys,e=>by
  cases ys with
  | nil=>rfl
  | cons _ _=>cases e
 | _,_,.cons n t h,ys,e=>by
  cases ys with
  | nil=>cases e
  | cons y r =>
   rw [bu] at e;injection e with e1 e2;injection e1 with e3 e4;rw [bu,v7 h r e2,e3]
def sr {X:Cx}(hc:X.calm=true):eZ X (.builtin "sum") (λxs H Q=>∃a ns,xs=[.ref a]/\aH X.K H a (List.map V.int ns)/\Q (.int ns.sum) H):=by
 intro ah s σ H xs us Q I r h;obtain⟨a,ns,rfl,hq,q⟩:=h;obtain⟨u,rfl,rx⟩:=vals1 r;cases rx;obtain⟨aL,rv,pl,hz⟩:=I.list hq;have hi:=intsAre_of rv;have ox:AllInts aL.toArray:=hi.allInts;obtain⟨xs,e⟩:=ox.items;have hl:=pl.isList;rw [e] at hl;refine sum_intListG (I.ok.hd hc) hl λh' tk t' hk=>⟨.int _,H,I.kept hk,⟨_,rfl⟩,?_⟩;have e5:xs.toList.map (·.1)=ns:=v7 hi xs.toList (by
  have:=congrArg Array.toList e;simpa [intItems] using this)
 have e6:preSum (numAt xs) xs.size=ns.sum:=by
  rw [preSum_eq,e5,List.take_of_length_le (by rw [<-e5];simp)]
 rw [e6];exact q
open PySem PySem.Spec PyProof.Rows
def Kk (o:Obj):Nat:=match o.data with
 | .dict _ ep=>ep
 | _=>0
def Oh (d:Addr)(o:Obj)(kvs:List (aI×V)):It :=
 ⟨λi H=>H d=some (.i_ o (.dK kvs))/\i < kvs.length,λi H x H'=>H'=H/\∃kv,kvs[i]?=some kv/\x=kV kv.1,λi H=>H d=some (.i_ o (.dK kvs))/\kvs.length<=i⟩
def yQ {X:Cx}{ah:List (Addr×Obj)}{σ:St}{H:Hp}{s:Shared}{d:Addr}{o:Obj}{kvs:List (aI×V)}(I:Inv X ah σ H s)(e:H d=some (.i_ o (.dK kvs))) :
  (d == sysModules)=false/\∃vs,KV kvs vs/\s.heap.DictAt (aU X.prog X.w) d vs (Kk o):=by
 obtain⟨ho,hz,hs,vs,r,o',es,ep,h1,h2,h3,h4⟩:=(show bY X.prog X.w H s.heap d (.i_ o (.dK kvs)) from I.bQ d _ e);rw [ho] at h1;cases h1;refine⟨hs,vs,r,o,es,ho,h2,?_,h4⟩;unfold Kk;rw [h3]
def Av {P:Program}{w:World}{K:aV}{tg:Expr}(d it:Addr)(o:Obj)(kvs:List (aI×V)):Turn P w K tg (Oh d o kvs) [it] it (λi h=>h.IsKeyIter it d i kvs.length (Kk o)) where
 mem:=by simp
 obj:=λi h st b hb=>by
  have e:b=it:=by simpa using hb
  subst e;obtain⟨o,e,c,d⟩:=st;exact⟨o,e,λv z=>by rw [d] at z;cases z⟩
 keep:=λi h h' st k=>let ⟨o,e,r⟩:=st;⟨o,k it (by simp) o e,r⟩
 item:=by
  intro X hP hw hK hc i ah s σ H E I hf st hg;subst hP hw hK;obtain⟨hq,hi⟩:=hg;obtain⟨hs,vs,r,da⟩:=yQ I hq;have l:=r.length;obtain⟨kv,O3⟩:∃kv,kvs[i]?=some kv:=⟨kvs[i],cQ hi⟩;obtain⟨q,eq⟩:∃q,vs[i]?=some q:=⟨vs[i]'∅,cQ ∅⟩;have ek:kv.1=q.1:=by
   have:=congrArg (λl:List aI=>l[i]?) r.keys;simp only [bo,O3,eq] at this;exact f_ this
  obtain⟨f0,f1,f2,f3,f4,f5⟩:=hf it (by simp);rw [l] at st;refine wpAny_pyNext_dict_item (k:=q.1) (v:=q.2) st da eq λkey h' hk u5 sb=>?_;have I1:Inv X ah σ H { s with heap:=h' }:=I.turned (t':=s.toks) (λb o hb e=>(sb.2 b hb).trans e) f0 f1 f3 f4 f5;obtain⟨o2,e,c,dd⟩:=id u5;rw [<-l] at u5;exact⟨key,rfl,z9 (s:={ s with heap:=h' }) e c dd nofun ⟨kV kv.1,H,I1,by rw [ek];exact HE hk,⟨rfl,kv,O3,rfl⟩,u5,λb hb=>(hf b hb).1⟩⟩
 done:=by
  intro X hP hw hK hc i ah s σ H E I hf st hg;subst hP hw hK;obtain⟨hq,hi⟩:=hg;obtain⟨hs,vs,r,da⟩:=yQ I hq;have l:=r.length;obtain⟨f0,f1,f2,f3,f4,f5⟩:=hf it (by simp);rw [l] at st;exact wpAny_pyNext_dict_end (I.ok.hd hc) st da (tq ∅) λh' eb=>⟨rfl,I.turned (t':=s.toks) (λb o hb e=>eb b o hb e) f0 f1 f3 f4 f5⟩
 self:=λ_ _ _ _ _ st h=>wpAny_pyIter_keyiter st h
def MY (tl:TE):TI:=λσ H R=>tl σ H λx H1=>∃d kvs,x=.ref d/\H1 d=some (.dK kvs)/\∀o,R (Oh d o kvs) (upd H1 d (.i_ o (.dK kvs)))
def zW {X:Cx}{tg l:Expr}{tl:TE}(hl:PE X l tl):PI X tg l (MY tl):=by
 intro ah s σ H R I h;refine cD (hl ah s σ H _ I h) λv s1 a8=>?_;obtain⟨x,H1,I1,r1,q1⟩:=a8;obtain⟨d,kvs,e,hd,q⟩:=q1;subst e;cases r1;obtain⟨hz,hs,vs,r,o,es,ep,h1,h2⟩:=(show bY X.prog X.w H1 s1.heap d (.dK kvs) from I1.bQ d _ hd);have I2:Inv X ah σ (upd H1 d (.i_ o (.dK kvs))) { s1 with heap:=s1.heap,toks:=s1.toks }:=I1.write (x:=d) (e:=d) (by rw [hd];exact True.intro) (.inl rfl) (λb u _ e=>e) ⟨o,h1⟩ ⟨h1,hz,hs,vs,r,o,es,ep,h1,h2⟩;have e2:upd H1 d (.i_ o (.dK kvs)) d=some (.i_ o (.dK kvs)):=ae;obtain⟨_,TU,r2,da⟩:=yQ I2 e2;have q2:=q o;generalize upd H1 d (.i_ o (.dK kvs))=H2 at I2 e2 q2;refine wpAny_pyIter_dict hs da ?_;refine⟨s1.heap.objs.size,[s1.heap.objs.size],_,_,H2,rfl,I2.kept (t':=s1.toks) λb o e=>bS _ e,Av d _ o kvs,⟨_,cV _ rfl,rfl,by rw [r2.length];rfl⟩,λb hb=>?_,q2⟩;have e:b=s1.heap.objs.size:=by simpa using hb
 subst e;exact I2.qk (aF _) (I2.bQ.fresh (aF _))
section
variable {d D:Addr}{o:Obj}{kvs:List (aI×V)}{ts:List Str}{js:List (Nat×Str)}{g:TG}{tif:TT}{te:TE}{R:Hp->Prop}{σ:St}{H:Hp}
def qD (Pv:Nat->List V->St->Hp->Prop)(h0:Pv 0 [] (dO ts js σ) (upd H D (.lst [])))(hl:∀i ys σ H,i<=kvs.length->Pv i ys σ H->H d=some (.i_ o (.dK kvs)))
  (hs:∀i kv ys σ H,kvs[i]?=some kv->Pv i ys σ H->g (kV kv.1) σ H λσ2 H2=>tif σ2 H2 λb H3=>if b=true then te σ2 H3 λy H4=>H4 D=some (.lst ys)/\ys.length < sizeLine/\Pv (i+1) (ys++[y]) σ2 (upd H4 D (.lst (ys++[y]))) else Pv (i+1) ys σ2 H3)
  (hd:∀ys σ H,Pv kvs.length ys σ H->R H) :
  ∃W:Nat->Nat->List V->St->Hp->Prop,(∃m,W 0 m [] (dO ts js σ) (upd H D (.lst []))) /\
 ∀i m ys σ' H,W i m ys σ' H->((Oh d o kvs).stop i H/\R H)\/((Oh d o kvs).go i H/\∃m',m' < m/\∀x H',(Oh d o kvs).mh i H x H'->g x σ' H' λσ2 H2=>tif σ2 H2 λb H3 =>
  if b=true then te σ2 H3 λy H4=>H4 D=some (.lst ys)/\ys.length < sizeLine/\W (i+1) m' (ys++[y]) σ2 (upd H4 D (.lst (ys++[y]))) else W (i+1) m' ys σ2 H3):=by
 refine⟨λi m ys σ H=>m=kvs.length - i/\i<=kvs.length/\Pv i ys σ H,⟨kvs.length,by simp,cT _,h0⟩,?_⟩;rintro i m ys σ' H ⟨rfl,hi,p⟩;have q:=hl i ys σ' H hi p;by_cases gZ:i < kvs.length
 .refine .inr ⟨⟨q,gZ⟩,kvs.length - (i+1),∅,λx H' y=>?_⟩;obtain⟨e,kv,O3,rfl⟩:=y;subst e;have z:=hs i kv ys σ' _ O3 p;have h1:(i+1<=kvs.length)=True:=eq_true gZ;simp only [h1,true_and];exact z
 have e:i=kvs.length:=by omega
 subst e;exact .inl ⟨⟨q,aF _⟩,hd ys σ' H p⟩
end
def so {A:Around}{s:Shared}{l b:Addr}{ys xs:List Int}{aL d_:List Value}(r:aT (ys.map V.int) aL)(r2:aT (xs.map V.int) d_)(hl:s.heap.IsList l aL.toArray)(hb:s.heap.IsList b d_.toArray)(ne:l≠b)(hu:A.units < cLine) :
  SeqAt.EqAt A s (.ref l) (.ref b) (decide (ys=xs)):=by
 have l1:=r.length;have l2:=r2.length;rw [aB] at l1 l2;by_cases bc:ys.length=xs.length
 .have h:=SeqAt.RcAt.lists (A:=A) (e:=λj=>decide (ys[j]?=xs[j]?)) hl hb (by simp only [bO];omega) hu λj h1 h2=>?_
  .have e:((List.range aL.toArray.size).all λj=>decide (ys[j]?=xs[j]?))=decide (ys=xs):=by
    rw [ij,gb,decide_eq_true_iff];constructor
    .intro h;refine List.ext_getElem? λj=>?_;by_cases c:j < ys.length
     .exact cK (h j (j_.mpr (by simp only [bO];omega)))
     rw [tq ∅,tq ∅]
    intro h j _;rw [h];exact dI rfl
   rw [e] at h;exact .of_refs ne h
  have k1:j < aL.length:=by simpa using h1
  have k2:j < d_.length:=by simpa using h2
  have e1:ys[j]?=some (ys[j]'∅):=cQ ∅;have e2:xs[j]?=some (xs[j]'∅):=cQ ∅;obtain⟨u1,f1,q1⟩:=r.get (show (ys.map V.int)[j]?=some (.int (ys[j]'∅)) by rw [bo,e1];rfl);obtain⟨u2,f2,q2⟩:=r2.get (show (xs.map V.int)[j]?=some (.int (xs[j]'∅)) by rw [bo,e2];rfl);have g1:aL.toArray[j]=u1:=by
   have:=(bA.mp f1).2;simpa using this
  have g2:d_.toArray[j]=u2:=by
   have:=(bA.mp f2).2;simpa using this
  rw [g1,g2,e1,e2];obtain⟨t1,rfl⟩:=q1;obtain⟨t2,rfl⟩:=q2;have:=SeqAt.EqAt.int_int (A:=A.in1) (s:=s) (ys[j]'∅) t1 (xs[j]'∅) t2;have e3:(ys[j]'∅ == xs[j]'∅)=decide (some (ys[j]'∅)=some (xs[j]'∅)):=by
   rw [ij,beq_iff_eq,decide_eq_true_iff,sQ]
  rw [e3] at this;exact this
 have h:=SeqAt.RcAt.lists_lengths (A:=A) hl hb (by simp only [bO,bne_iff_ne];omega) hu;rw [fN (λz=>bc (by rw [z]))];exact .of_refs ne h
def AH {X:Cx}(hu:X.A.units+1 < cLine):md X (compareOp .In) (λx y H Q=>∃t a l1 l2 xs ys zs,x=.ref a/\y=.ref t/\aW X.K H t [.ref l1,.ref l2]/\aH X.K H a (List.map V.int xs)/\aH X.K H l1 (List.map V.int ys)/\aH X.K H l2 (List.map V.int zs)/\l1≠a/\l2≠a /\
  Q (.bl (decide (ys=xs) || decide (zs=xs))) H):=by
 intro ah s σ H x y v u Q I rx ry h;obtain⟨t,a,l1,l2,xs,ys,zs,rfl,rfl,ht,ha,h1,h2,n1,n2,q⟩:=h;cases rx;cases ry;obtain⟨aL,r,pl,hz⟩:=I.tuple ht;obtain⟨u1,u2,rfl,q1,q2⟩:=vals2 r;cases (show u1=Value.ref l1 from q1);cases (show u2=Value.ref l2 from q2);obtain⟨xa,ra,pa,za⟩:=I.list ha;obtain⟨x1,r1,p1,z1⟩:=I.list h1;obtain⟨x2,r2,p2,z2⟩:=I.list h2;have e1:=so (A:=X.A.in1) (s:=s) r1 ra p1.isList pa.isList n1 hu;have e2:=so (A:=X.A.in1) (s:=s) r2 ra p2.isList pa.isList n2 hu;refine SeqAt.in_tupleAt (λy=>if y == .ref l1 then decide (ys=xs) else decide (zs=xs)) (show s.heap.IsTuple t #[.ref l1,.ref l2] from pl) (λy hy=>?_) ?_
 .have OP:y=.ref l1\/y=.ref l2:=by simpa using hy
  by_cases c:y=.ref l1
  .subst c;rw [av (oQ _)];exact e1
  rcases OP with z | z
  .exact absurd z c
  subst z;rw [ax (λq=>c (eq_of_beq q))];exact e2
 refine⟨.bl (decide (ys=xs) || decide (zs=xs)),H,I,?_,q⟩
 show Value.bool _=Value.bool _
 congr 1
 by_cases c:l2=l1
 .subst c;have e3:=I.lM h1 h2;have e4:ys=zs:=by
   have:=congrArg (List.map λv:V=>match v with | .int n=>n | _=>0) e3
   simpa [g8,Function.comp_def] using this
  subst e4;simp
 simp [c]
def g_ {X:Cx}{elt iter tg:Expr}{iy:Nat}{y:Str}{py LV:Pos}{ifs:List Expr}{scope:Scope}{pos:Pos}{wi:TI}{g:TG}{tif:TT}{te:TE}(ts:List Str)(js:List (Nat×Str))(hN:X.N.Nodup)(Zc:X.N[iy]?=some y)(hy:X.env.scope.names.lookup y=some .local)(hc:X.calm=true)(hi:PI X tg iter wi)
  (cp:G7 X scope js)(iD:∀y∈scope.names,y.2≠.cell)(iC:scope.kind=.function)
  (yJ:∀y∈scope.names,y.2=.local->scope.names.lookup y.1=some .local)
  (hg:∀cl C s1 H1 fp,PG (qy X scope cl C s1 H1 (ts++js.map (·.2)) fp) tg g)
  (RJ:∀cl C s1 H1 fp,BG (qy X scope cl C s1 H1 (ts++js.map (·.2)) fp) ifs tif)(he:∀cl C s1 H1 fp,PE (qy X scope cl C s1 H1 (ts++js.map (·.2)) fp) elt te)
  (YU:swapsWith (.ListComp elt [⟨tg,iter,ifs,0⟩] scope pos) (some (.Name y py)) LV.line X.env=pure true:=by rfl)(hs:∀x,foldedSetIterable iter X.env x=pure x:=by intro _;rfl) :
  PS X (.Assign [.Name y py] (.ListComp elt [⟨tg,iter,ifs,0⟩] scope pos) LV) (IE (Ce wi ts js g tif te) (dM iy)):=by
 intro ah s σ H DD I h;rw [exec_Assign_Name_used _ _ _ _ YU];refine aJ (wpAny_standAt (aJ ?_));show wpAny _ _ (do let _ <-comprehension (.ListComp elt [⟨tg,iter,ifs,0⟩] scope pos) scope X.env _ (newList []) false (eval iter X.env) (some (assign (.Name y py) X.env))) _ _ s;obtain⟨cl,mi⟩:=uT (env:=X.env) (scope:=scope) λy hy=>I.ok.has y (.inl (cp.all y hy));refine aJ (cJ (wpAny_comprehension_free (use:=some (assign (.Name y py) X.env)) (Q:=λ_ s'=>SP X ah DD .next s') rfl hs mi.eq iC yJ (cD (hi ah s σ H _ I h) λv s1 h1=>cD h1 λOO s2 h2=>?_)) (λ_ s' hq=>aZ (aZ hq)) λ_ _ e=>e);obtain⟨it,fp,tn,J,H2,e,I2,T,EM,f2,h2⟩:=h2;subst e;obtain⟨W,⟨m0,w0⟩,turn⟩:=h2 s2.heap.objs.size I2.fresh;have DR:∀b∈fp,b < s2.heap.objs.size:=λb hb=>by obtain⟨o,e,_⟩:=T.obj _ _ EM b hb;exact ba e
 refine o7 (wpAny_newFunctionEnv iD (by intro y hy;simp at hy) (λh₁ yI uL=>?_) iC);dsimp only at yI uL ⊢;generalize J1:s2.heap.push { cls:=.type "list",dict:=none,data:=.seq ([]:List Value).toArray }=G2 at yI uL ⊢;have Gp:G2.objs.size=s2.heap.objs.size+1:=by rw [<-J1,jm]
 have R9:s2.heap.objs.size≠G2.objs.size:=by rw [Gp];exact bM (kO _)
 have old:∀b o,s2.heap.get? b=some o->h₁.get? b=some o:=λb o e =>
  uL.extBut b o (by rw [Gp];exact bM (sP (ba e))) (bS _ (J1 ▸ bS _ e))
 have Bb:h₁.get? s2.heap.objs.size=some { cls:=.type "list",data:=.seq ([]:List Value).toArray 0 }:=uL.extBut _ _ R9 (bS _ (J1 ▸ cV _ rfl));generalize lW:qy X scope cl G2.objs.size s2 H2 (ts++js.map (·.2)) fp=X2;have I4:Inv X2 [] (dO ts js σ) (upd H2 s2.heap.objs.size (.lst [])) { s2 with heap:=h₁,toks:=s2.toks+([]:List (Str×Value)).length }:=by
  rw [<-lW];exact rZ I2 f2 DR iC iD cp mi (by rw [Gp];exact kO _) rfl rfl old yI Bb
 have x1:X2.prog=X.prog:=by rw [<-lW];rfl
 have x2:X2.w=X.w:=by rw [<-lW];rfl
 have x3:X2.K=X.K:=by rw [<-lW];rfl
 have x4:X2.calm=true:=by rw [<-lW];exact hc
 have x5:X2.A=X.A:=by rw [<-lW];rfl
 have x6:X2.env=compEnvC scope cl G2.objs.size X.env:=by rw [<-lW];rfl
 have x7:X2.xe=λ_ _=>False:=by rw [<-lW];rfl
 have RM:PG X2 tg g:=by rw [<-lW];exact hg _ _ _ _ _
 have JQ:BG X2 ifs tif:=by rw [<-lW];exact RJ _ _ _ _ _
 have Gj:PE X2 elt te:=by rw [<-lW];exact he _ _ _ _ _
 have LS:tn 0 h₁:=T.keep _ _ _ EM λb _ o e=>old b o e;have pI:∀{H':Hp}{i6:List (Addr×Obj)},(∀b∈fp,H' b=none)->(∀p∈i6,p.1∉fp)->∀b∈fp,u0 X2 i6 H' b:=λ{H' i6} hn hp b hb=>by
  have o4:=I4.ok;subst lW;exact⟨hn b hb,(o4.Lg b hb).1,o4.Bi b hb,.inl hb,(o4.Lg b hb).2,λp kF=>by
   have ng:p∈([]:List (Addr×Obj))++i6:=kF;rw [nP] at ng;intro z;exact hp p ng (by rw [z];exact hb)⟩
 have fin:∀{s':Shared}{σ':St}{H':Hp},Inv X2 [] σ' H' s'->DD.nx (σ.set iy (some (.ref s2.heap.objs.size))) H' ->
   compPost (model X.prog X.w) X.A X.xe (some (assign (.Name y py) X.env)) (λ_ s'=>SP X ah DD .next s') (.ref s2.heap.objs.size) G2.objs.size (.ok .next) s':=λ{s' σ' H'} J' q=>by
  subst lW;obtain⟨m',Nj,_⟩:=J'.loc;have I5:Inv X ah σ H' s':=I2.HY (s':=s') J'.os J'.base J'.bQ J'.bare λb hb=>by
   obtain⟨_,f1,_,f3,f4,f5⟩:=f2 b hb;exact⟨f3,f1,f4,f5⟩
  obtain⟨f0,f1,_,f3,f4,f5⟩:=I2.qk (H':=H') (b:=G2.objs.size) (by rw [Gp];exact ja _) J'.free;show wpAny _ _ (assign (.Name y py) X.env (.ref s2.heap.objs.size)) _ _ s';refine wpAny_assign_Name (rF I5 hN Zc (.inl hy) (v:=.ref s2.heap.objs.size) rfl (λL_ I6 a8=>?_) (.inr hy));obtain⟨a,sb,ha⟩:=a8;have XT:G2.objs.size≠a:=by
   rcases ha with ha | ha
   .rw [ha];exact f1
   exact(f4 _ _ ha).symm
  refine⟨m',Nj.sameBut sb XT,λh' K5=>?_⟩;exact⟨_,H',I6.turned (t':=L_.toks) (λb o hb e=>(K5.2 b hb).trans e) f0 f1 f3 f4 f5,q⟩
 have loop:∀s₃:Shared,s₃={ s2 with heap:=h₁,toks:=s2.toks+([]:List (Str×Value)).length } ->
   codeAny (model X.prog X.w) X.A (.compLoop (.ListComp elt [⟨tg,iter,ifs,0⟩] scope pos) 0 (.ref it) (.ref s2.heap.objs.size) (compEnvC scope cl G2.objs.size X.env))
    (compPost (model X.prog X.w) X.A X.xe (some (assign (.Name y py) X.env)) (λ_ s'=>SP X ah DD .next s') (.ref s2.heap.objs.size) G2.objs.size) s₃:=by
  rintro s₃ rfl;subst lW;refine oj (λn s'=>∃i ys σ' H',Inv (qy X scope cl G2.objs.size s2 H2 (ts++js.map (·.2)) fp) [] σ' H' s'/\tn i s'.heap/\(∀b∈fp,H' b=none)/\W i n ys σ' H') ?_ m0
   ⟨0,[],_,_,I4,LS,λb hb=>by rw [ai (bM (DR b hb))];exact(f2 b hb).1,w0⟩
  rintro n s' ⟨i,ys,σ0,H',J',u5,ND,w'⟩;rcases turn i n ys σ0 H' w' with ⟨stop,q⟩ | ⟨go,m',hm,step⟩
  .refine cJ (T.done (qy X scope cl G2.objs.size s2 H2 (ts++js.map (·.2)) fp) rfl rfl rfl hc i [] s' _ H' (λ_ _=>False) J' (pI ND (by simp)) u5 stop) (λr s4 ⟨hr,J4⟩=>?_) λ_ _ z=>z;subst hr;exact fin J4 q
  refine cJ (T.item (qy X scope cl G2.objs.size s2 H2 (ts++js.map (·.2)) fp) rfl rfl rfl hc i [] s' _ H' (λ_ _=>False) J' (pI ND (by simp)) u5 go) (λr s4 ⟨u,hr,h4⟩=>?_) λ_ _ z=>z;subst hr;refine cJ h4 (λ_ s5 a8=>?_) λ_ _ z=>z;obtain⟨xv,H5,J5,r5,y5,Ax,NC⟩:=a8;have TB:=J5.pinned (pI NC (by simp)) (T.obj _ _ Ax);have back:∀{s7:Shared}{σ7:St}{H7:Hp},Inv (qy X scope cl G2.objs.size s2 H2 (ts++js.map (·.2)) fp) ([]++mT fp s5.heap) σ7 H7 s7->Inv (qy X scope cl G2.objs.size s2 H2 (ts++js.map (·.2)) fp) [] σ7 H7 s7/\tn (i+1) s7.heap/\∀b∈fp,H7 b=none:=λ{s7 σ7 H7} J7=>by
   refine⟨J7.jo,T.keep _ _ _ Ax λb hb o e=>(J7.pin (b,o) (eX _ (eX _ (fX hb e)))).1,λb hb=>?_⟩;obtain⟨o,e,d⟩:=T.obj _ _ Ax b hb;exact(J7.pin (b,o) (eX _ (eX _ (fX hb e)))).2.1
  show wpAny _ _ (assign tg (qy X scope cl G2.objs.size s2 H2 (ts++js.map (·.2)) fp).env u) _ _ s5;refine cJ (RM _ s5 _ H5 xv u _ TB r5 (step xv H5 y5)) (λ_ s6 a8=>?_) λ_ _ z=>z;obtain⟨σ6,H6,J6,q6⟩:=a8;refine cJ (JQ _ s6 _ H6 _ J6 q6) (λb s7 a8=>?_) λ_ _ z=>z;obtain⟨H7,J7,q7⟩:=a8;cases b with
  | false =>
   rw [ax eG] at q7 ⊢;obtain⟨J8,PY,Si⟩:=back J7;exact⟨m',hm,i+1,ys,σ6,H7,J8,PY,Si,q7⟩
  | true =>
   rw [av rfl] at q7 ⊢;refine cJ (Gj _ s7 _ H7 _ J7 q7) (λyv s8 a8=>?_) λ_ _ z=>z;obtain⟨y,H8,J8,r8,R_,Q6,w8⟩:=a8;refine cJ (cq (X:=qy X scope cl G2.objs.size s2 H2 (ts++js.map (·.2)) fp) _ s8 _ H8 (.ref s2.heap.objs.size) [y] (.ref s2.heap.objs.size) [yv] (λv H'=>W (i+1) m' (ys++[y]) σ6 H') J8 rfl (.cons r8 .nil) ⟨s2.heap.objs.size,ys,y,rfl,rfl,R_,Q6,w8⟩)
    (λ_ s9 ⟨_,H9,J9,_,w9⟩=>?_) λ_ _ z=>z
   obtain⟨TC,IF,Kd⟩:=back J9;exact⟨m',hm,i+1,ys++[y],σ6,H9,TC,IF,Kd,w9⟩
 exact codeAny_compStart_list (loop _ rfl) (T.self _ _ _ _ _ LS (loop _ rfl))
section
variable {prog:Program}{w:World}{A:Around}{E:Value->Shared->Prop}{s:Shared}
def wO (a b c:Value):argsOk "min" ⟨[a],[("key",b),("default",c)]⟩:=by unfold argsOk;kernel_rfl
def q9 {l:Addr}{kf dv:Value}{Q:Value->Shared->Prop}(hh:A.handled=none)(hl:s.heap.IsList l #[])(h:∀h' tk,(∀b o,s.heap.get? b=some o->h'.get? b=some o)->Q dv { s with heap:=h',toks:=tk }) :
  wpAny (model prog w) A (call (.builtin "min") [.ref l] [("key",kf),("default",dv)]) Q E s:=by
 have DN:(toString "min" ++ toString ".loop":String) = "min.loop" := by decide
 refine ji (pj F.plain_min F.entry_min ?_);have core:wpAny (model prog w) A.in1 (Builtin.«min» ⟨[.ref l],[("key",kf),("default",dv)]⟩) (λfin s'=>match fin with
   | .done f=>(match (Except.ok f:Result) with | .ok (.ret v)=>Q v s' | .ok _=>False | .error e=>E e s')
   | .again c'=>c'.quiet=true/\codeAny (model prog w) A c' (λr s'=>match r with | .ok (.ret v)=>Q v s' | .ok _=>False | .error e=>E e s') s') E s:=by
  show wpAny _ A.in1 (Builtin.Builtins.bindParams "min" ["key","default"] 0 ⟨[],[("key",kf),("default",dv)]⟩ >>= _) _ _ s;refine aJ (wpAny_of_eq (show Builtin.Builtins.bindParams "min" ["key","default"] 0 ⟨[],[("key",kf),("default",dv)]⟩=pure [some kf,some dv] from rfl) ?_);refine aJ (aZ ?_);refine aJ (kP hl ?_);refine aJ (o7 ?_);rw [DN];obtain⟨ol,h1,h2⟩:=id hl;generalize hG:s.heap.push { cls:=.type "list_iterator",data:=.fields #[.ref l,.int 0 0] }=G;have k1:∀b o,s.heap.get? b=some o->G.get? b=some o:=λb o e=>by rw [<-hG];exact bS _ e
  have hi:G.get? s.heap.objs.size=some { cls:=.type "list_iterator",data:=.fields #[.ref l,.int 0 0] }:=by rw [<-hG];exact cV _ rfl
  refine aZ ⟨mn F.plain_min_loop _,mr F.entry_min_loop ?_⟩;rw [ph F.plain_min_loop _];show wpAny _ A.in1 (seqItems? (.ref G.objs.size) >>= _) _ _ _;refine aJ (oX (cV _ rfl) rfl ?_);show wpAny _ A.in1 (tryCatch (pyNext (.ref s.heap.objs.size)) _ >>= _) _ _ _;refine aJ (wpAny_tryCatch (sX (show A.in1.handled=none from hh) ⟨_,bS _ hi,rfl,rfl⟩ ⟨ol,bS _ (k1 _ _ h1),h2⟩ (by simp) λh' eb=>?_));refine aJ (wpAny_rule (aZ ?_));exact h h' _ λb o e=>eb b o (bM (ba e)) (bS _ (k1 b o e))
 simp only [checkBuiltinCall,F.kind_min];cases Rj:Manifest.signature? "min" with
 | none=>exact aZ core
 | some sig =>
  have ZJ:Bind.checkArgs "min" sig ⟨[.ref l],[("key",kf),("default",dv)]⟩=pure ():=by have:=wO (.ref l) kf dv;simpa only [argsOk,Rj] using this
  simp only [ZJ];exact aZ core
end
def LG (K:aV)(t:TA)(td:TE):TE:=λσ H Q=>t σ H λvs H1=>td σ H1 λdv H2=>∃a,vs=[.ref a]/\aH K H2 a []/\Q dv H2
def FN {X:Cx}{p pos lp QY DE:Pos}{e e2:Expr}{t:TA}{td:TE}(hc:X.calm=true)(hg:Gl X "min")(hm:X.mg "min"=none)(RL:Gl X "len")(RD:X.mg "len"=none)(ha:PA X [e] t)(hd:PE X e2 td)
  (he:backTo pos (starEach [e] X.env)=(false,eval e X.env)::backTo pos (starEach [] X.env):=by rfl)(hp:(backTo pos (starEach [e] X.env)).any (·.1)=false:=by rfl) :
  PE X (.Call (.Name "min" p) [e] [⟨some "key",.Name "len" lp,QY⟩,⟨some "default",e2,DE⟩] pos) (LG X.K t td):=by
 intro ah s σ H Q I h;refine nV (ig I hg hm boot_min ?_);refine callWith_kw (cD (ha pos ah s σ H _ I h) λus s1 a8=>?_) he hp rfl rfl;obtain⟨vs,H1,I1,r1,q1⟩:=a8;refine kws_cons (ig I1 RL RD gP (kws_cons (cD (hd ah s1 σ H1 _ I1 q1) λu2 s2 a8=>?_)));obtain⟨dv,H2,I2,r2,a,ev,hs,q⟩:=a8;refine kws_nil ?_;subst ev;obtain⟨u,rfl,rx⟩:=vals1 r1;cases (show u=Value.ref a from rx);obtain⟨aL,rv,pl,hz⟩:=I2.list hs;cases rv;exact q9 (I2.ok.hd hc) pl.isList λh' tk kk=>⟨dv,H2,I2.kept (t':=tk) kk,r2,q⟩
def tY (z:Str)(lo hi:Option Int):Str:=if ((slicePicked z (lo.map λi=>(i,0)) (hi.map λi=>(i,0)) none).length == z.length)=true then z else ⟨((slicePicked z (lo.map λi=>(i,0)) (hi.map λi=>(i,0)) none).filterMap (z.cps[·]?)).toArray⟩
def Ct (z:Str)(lo hi:Option Int):(tY z lo hi).length<=z.length:=by
 unfold tY
 split
 .exact aF _
 show (List.toArray _).size<=_;rw [bO];exact cO (tK _ _) (show (slicePicked z _ _ none).length<=z.length from by unfold slicePicked;exact sliceIndices_le _ _ _)
def Qh:V->Option Int->Option Int->Hp->VK->Prop:=λx lo hi H Q=>∃z:Str,x=.str z/\z.length<=sizeLine/\Q (.str (tY z lo hi)) H
def oF {X:Cx}{ah:List (Addr×Obj)}{s:Shared}{σ:St}{H:Hp}{Q:VK}{z:Str}{t:Tok}(I:Inv X ah σ H s)(hz:z.length<=sizeLine)(l u:Option (Int×Tok))(q:Q (.str (tY z (l.map (·.1)) (u.map (·.1)))) H) :
  (sliceMade z t l u none).post (EP X ah σ Q) s:=by
 have e:slicePicked z ((l.map (·.1)).map λi=>(i,(0:Tok))) ((u.map (·.1)).map λi=>(i,(0:Tok))) none=slicePicked z l u none:=by
  cases l <;> cases u <;> rfl
 unfold tY at q;rw [e] at q;unfold sliceMade;by_cases c:((slicePicked z l u none).length == z.length)=true
 .rw [av c] at q;rw [av (by rw [c];rfl)];exact⟨.str z,H,I,⟨_,rfl⟩,q⟩
 rw [ax c] at q;rw [ax (by rw [nS.mpr c];decide)];have le:((slicePicked z l u none).filterMap (z.cps[·]?)).length<=z.length:=cO (tK _ _) (show (slicePicked z l u none).length<=z.length from by unfold slicePicked;exact sliceIndices_le _ _ _);refine⟨?_,.str _,H,I.tok _,⟨_,rfl⟩,q⟩;show (List.toArray _).size<=sizeLine;rw [bO];exact cO le hz
def oG {X:Cx}:KJ X Qh:=by
 intro ah s σ H x v vl vu lo hi sl Q I rx hs pl pu h;obtain⟨z,rfl,hz,q⟩:=h;obtain⟨t,rfl⟩:=rx;refine⟨"str",_,F.slot_str_getitem.lookup,typeIs_str s z t,?_⟩;cases pl with
 | none =>
  cases pu with
  | none=>exact tG (l:=none) (u:=none) (st:=none) hs rfl (oF I hz none none q)
  | int j tu=>exact tG (l:=none) (u:=some (j,tu)) (st:=none) hs rfl (oF I hz none (some (j,tu)) q)
 | int i ti =>
  cases pu with
  | none=>exact tG (l:=some (i,ti)) (u:=none) (st:=none) hs rfl (oF I hz (some (i,ti)) none q)
  | int j tu=>exact tG (l:=some (i,ti)) (u:=some (j,tu)) (st:=none) hs rfl (oF I hz (some (i,ti)) (some (j,tu)) q)
theorem kW:∀(tk:Nat) (ts:List Str),aT (ts.map V.str) (strsFrom tk ts)
 | _,[]=>.nil
 | tk,z::ts=>.cons ⟨tk,rfl⟩ (kW (tk+1) ts)
def I0:V->List V->Hp->VK->Prop:=λx vs H Q=>∃z y:Str,x=.str z/\vs=[.str y]/\y.length≠0/\z.length+2<=sizeLine/\∀l,H l=none->Q (.ref l) (upd H l (.lst ((Txt.split z y).map V.str)))
def vS {X:Cx}:Ih X "str.split" I0:=by
 intro ah s σ H x vs v us Q I rx rv h;obtain⟨z,y,rfl,rfl,hy,hz,q⟩:=h;obtain⟨t,rfl⟩:=rx;obtain⟨u,rfl,ru⟩:=rv.one;obtain⟨tu,rfl⟩:=ru;have hle:=split_le z y;have hsz:z.length<=sizeLine:=by omega
 have OP:(y.length == 0)=false:=by simpa using hy
 have fin:∀(aL:List Value) (tk:Nat),aT ((Txt.split z y).map V.str) aL ->
   wants (EP X ah σ Q) X.xe (.ok (.ret (.ref s.heap.objs.size))) { s with toks:=tk,heap:=s.heap.push { cls:=.type "list",data:=.seq aL.toArray } }:=λaL tk r =>
  ⟨.ref s.heap.objs.size,_,I.laid (t':=tk) (λb o e=>bS _ e) (aF _) (show bY X.prog X.w _ _ _ (.lst _) from ⟨by rw [aB];omega,aL,_,r,cV _ rfl⟩),rfl,q _ (I.bQ.fresh (aF _))⟩
 cases h1:(decide (z.length < y.length) || decide (Builtin.Str.strKind z < Builtin.Str.strKind y))
 .cases hf:(Builtin.Str.occurrences z y 0 z.length (z.length+1)).isEmpty
  .have e:Txt.split z y=Builtin.Str.partsBetween z (Builtin.Str.occurrences z y 0 z.length (z.length+1)) y.length:=by
    unfold Txt.split;rw [ax (by rw [h1];decide),ax (by rw [hf];decide)]
   refine call_meets F.slot_str_split (typeIs_str _ _ _) F.entry_str_split (F.args_str_split_2 _ _) (meets_str_split_sep z y t tu h1 OP hf hsz (by rw [<-e];omega)) ?_;rw [<-e];exact fin _ _ (kW _ _)
  have e:Txt.split z y=[z]:=by
   unfold Txt.split;rw [ax (by rw [h1];decide),av hf]
  exact call_meets F.slot_str_split (typeIs_str _ _ _) F.entry_str_split (F.args_str_split_2 _ _) (meets_str_split_not_found z y t tu h1 OP hf)
   (fin [.str z t] s.toks (by rw [e];exact .cons ⟨t,rfl⟩ .nil))
 have e:Txt.split z y=[z]:=by
  unfold Txt.split;rw [av h1]
 exact call_meets F.slot_str_split (typeIs_str _ _ _) F.entry_str_split (F.args_str_split_2 _ _) (meets_str_split_cannot_occur z y t tu h1)
  (fin [.str z t] s.toks (by rw [e];exact .cons ⟨t,rfl⟩ .nil))
def sg (z:Str):List Nat:=z.cps.toList
def Cv {a b:Str}(h:sg a=sg b):a=b:=Str.ext' (Array.toList_inj.mp h)
def sp (c:Nat):List Nat->List (List Nat)
 | []=>[[]]
 | a::r=>if a=c then []::sp c r else (a::(sp c r).headD [])::(sp c r).tail
def Hc (c:Nat):∀l,∃h t,sp c l=h::t
 | []=>⟨_,_,rfl⟩
 | a::r=>by
  unfold sp
  split
  .exact⟨_,_,rfl⟩
  exact⟨_,_,rfl⟩
theorem oC {c:Nat}:∀{l:List Nat},c∉l->sp c l=[l]
 | [],_=>rfl
 | a::r,h=>by
  have h1:¬a=c:=λe=>h (e ▸ bp);have h2:sp c r=[r]:=oC λe=>h (bC _ e);unfold sp;rw [ax h1,h2];rfl
theorem xO (c:Nat):∀(a b:List Nat),sp c (a++c::b)=sp c a++sp c b
 | [],b=>by
  show sp c (c::b)=[[]]++sp c b;rw [sp,av rfl];rfl
 | x::a,b=>by
  show sp c (x::(a++c::b))=sp c (x::a)++sp c b;rw [sp,sp,xO c a b]
  split
  .rfl
  obtain⟨h,t,e⟩:=Hc c a;rw [e];rfl
def jn (c:Nat):List (List Nat)->List Nat
 | []=>[]
 | [x]=>x
 | x::y::r=>x++c::jn c (y::r)
theorem Ck {c:Nat}:∀{ps:List (List Nat)},ps≠[]->(∀p∈ps,c∉p)->sp c (jn c ps)=ps
 | [],h,_=>absurd rfl h
 | [x],_,h=>oC (h x bp)
 | x::y::r,_,h=>by
  show sp c (x++c::jn c (y::r))=_;rw [xO,oC (h x bp),Ck (by simp) λp hp=>h p (bC _ hp)];rfl
def gR (a b:Str):sg (a++b)=sg a++sg b:=pq
theorem tZ (c:Nat):∀ts:List Str,sg (Str.join ⟨#[c]⟩ ts)=jn c (ts.map sg)
 | []=>rfl
 | [x]=>rfl
 | x::y::r=>by
  show sg (x++⟨#[c]⟩++Str.join ⟨#[c]⟩ (y::r))=sg x++c::jn c ((y::r).map sg);rw [gR,gR,tZ c (y::r),gh];rfl
def vE (c:Nat) (ts:List Str):sg (Txt.join ⟨#[c]⟩ ts)=jn c (ts.map sg):=by
 rw [<-tZ];exact congrArg sg (nY _ _)
def kX (c:Nat)(z:Str):(Txt.split z ⟨#[c]⟩).map sg=sp c (sg z):=by
 have h1:=StrLaws.join_split z ⟨#[c]⟩;have h2:=StrLaws.split_free z c;have h3:=split_pos z ⟨#[c]⟩;have h4:sg z=jn c ((Txt.split z ⟨#[c]⟩).map sg):=by rw [<-tZ,h1]
 rw [h4,Ck]
 .intro e;rw [List.map_eq_nil_iff] at e;rw [e] at h3;exact absurd h3 nofun
 intro p hp;obtain⟨q,hq,rfl⟩:=cA.mp hp;exact h2 q hq
def wd (l:List Nat):List (List Nat):=(sp 32 l).filter (·≠[])
def mH (a b:List Nat):wd (a++32::b)=wd a++wd b:=by
 unfold wd;rw [xO,kQ]
def pB {l:List Nat}(h:32∉l)(hn:l≠[]):wd l=[l]:=by
 unfold wd;rw [oC h];simp [hn]
def B_:wd []=[]:=rfl
def B9 (k:Nat)(b:List Nat):wd (List.replicate k 32++b)=wd b:=by
 induction k with
 | zero=>rfl
 | succ k ih =>
  show wd ([]++32::(List.replicate k 32++b))=_;rw [mH,ih];rfl
def Ot (k:Nat)(b:List Nat):wd (b++List.replicate k 32)=wd b:=by
 cases k with
 | zero=>rw [List.replicate_zero,eF]
 | succ k =>
  show wd (b++32::List.replicate k 32)=_;have:=B9 k [];rw [eF] at this;rw [mH,this,B_,eF]
def Jc {X:Cx}{o e:Expr}{es:List Expr}{to:TE}{t:TA}{name:Str}{apos eK:Pos}{T id:String}{r:V->List V->Hp->VK->Prop}(K:aV)(pa:PlainAttrs T)(slot:Slot T name id)(Rc:typeOf (.builtin id)=pure (.type "method_descriptor"))(hm:Lp X id r)(ho:PE X o to)(ha:PA X (e::es) t)(hK:X.K=K:=by rfl)
  (DU:attributeBase o name X.env (eval o X.env)=eval o X.env:=by rfl)
  (JT:((backTo eK (starEach (e::es) X.env)).all (λx=>!x.1) && (backToKw eK (keywordEach [] X.env)).all (λx=>x.1.isSome)
   && decide ((e::es).length+([]:List Keyword).length+(if ([]:List Keyword).isEmpty then 0 else 1) < 30))=true:=by rfl)
  (DO:(apos.endLine == eK.line)=true:=by rfl)(hs:starEach (e::es) X.env=(false,eval e X.env)::starEach es X.env:=by rfl)(qe:(backTo eK (starEach es X.env)).any (·.1)=false:=by rfl) :
  PE X (.Call (.Attribute o name apos) (e::es) [] eK) (T6 K T r to t):=by
 subst hK;exact dJ pa slot Rc hm ho ha DU JT DO hs qe
def Ij (K:aV)(H:Hp):Nat->V->V->Prop
 | 0,x,y=>x=y/\qM x
 | n+1,x,y=>(x=y/\qM x)\/∃a b xs ys,x=.ref a/\y=.ref b/\((aH K H a xs/\aH K H b ys)\/(aW K H a xs/\aW K H b ys))/\Paired (Ij K H n) xs ys
def Ij.self {K:aV}{H:Hp}{x:V}(h:qM x):∀n,Ij K H n x x
 | 0=>⟨rfl,h⟩
 | _+1=>.inl ⟨rfl,h⟩
def nv {A:Around}{s:Shared}{F:V->V->Prop}{xs ys:List V}{aL d_:List Value}(r:aT xs aL)(r2:aT ys d_)(p:Paired F xs ys)(hF:∀x y u v,F x y->RelV x u->RelV y v->SeqAt.EqAt A s u v true) (j:Nat)(h1:j < aL.toArray.size)(h2:j < d_.toArray.size) :
  SeqAt.EqAt A s aL.toArray[j] d_.toArray[j] true:=by
 have l1:=r.length;have l2:=r2.length;have k1:j < aL.length:=by simpa using h1
 have k2:j < d_.length:=by simpa using h2
 have g2:ys[j]?=some (ys[j]'∅):=cQ ∅;obtain⟨x,g1,fx⟩:=Paired.at_ p j _ g2;obtain⟨u1,e1,q1⟩:=r.get g1;obtain⟨u2,e2,q2⟩:=r2.get g2;have f1:aL.toArray[j]=u1:=by
  have:=(bA.mp e1).2;simpa using this
 have f2:d_.toArray[j]=u2:=by
  have:=(bA.mp e2).2;simpa using this
 rw [f1,f2];exact hF _ _ _ _ fx q1 q2
theorem yW {X:Cx}{ah:List (Addr×Obj)}{σ:St}{H:Hp}{s:Shared}(I:Inv X ah σ H s):∀(n:Nat)(A:Around)(x y:V)(u v:Value),Ij X.K H n x y->RelV x u->RelV y v->A.units+n < cLine->SeqAt.EqAt A s u v true
 | 0,A,x,y,u,v,⟨e,h⟩,ru,rv,_=>by subst e;exact qt h ru rv
 | n+1,A,x,y,u,v,.inl ⟨e,h⟩,ru,rv,_=>by subst e;exact qt h ru rv
 | n+1,A,x,y,u,v,.inr ⟨a,b,xs,ys,ex,ey,hs,p⟩,ru,rv,hu=>by
  subst ex;subst ey;cases (show u=Value.ref a from ru);cases (show v=Value.ref b from rv);by_cases e:a=b
  .subst e;exact .same _
  refine .of_refs e ?_;have lp:=a9 p;rcases hs with ⟨ha,hb⟩ | ⟨ha,hb⟩
  .obtain⟨aL,r,pl,_⟩:=I.list ha;obtain⟨d_,r2,zU,_⟩:=I.list hb;have l1:=r.length;have l2:=r2.length;have q:=SeqAt.RcAt.lists (A:=A) (s:=s) (e:=λ_=>true) pl.isList zU.isList (by simp only [bO];omega) ∅ (λj h1 h2=>nv r r2 p (λx y u v d r1 r2=>yW I n A.in1 x y u v d r1 r2 (by rw [Around.in1_units];omega)) j h1 h2);have e:((List.range aL.toArray.size).all λ_=>true)=true:=by simp
   rw [e] at q;exact q
  obtain⟨aL,r,pl,_⟩:=I.tuple ha;obtain⟨d_,r2,zU,_⟩:=I.tuple hb;have l1:=r.length;have l2:=r2.length;have q:=SeqAt.RcAt.tuples (A:=A) (s:=s) (e:=λ_=>true) pl zU ∅ (λj h1 h2=>nv r r2 p (λx y u v d r1 r2=>yW I n A.in1 x y u v d r1 r2 (by rw [Around.in1_units];omega)) j h1 h2);have e1:((List.range (min aL.toArray.size d_.toArray.size)).all (λ_=>true) && aL.toArray.size == d_.toArray.size)=true:=by
   have:aL.toArray.size=d_.toArray.size:=by simp only [bO];omega
   rw [this];simp
  rw [e1] at q;exact q
def Me (K:aV)(b:Bool) (n:Nat):V->V->Hp->VK->Prop:=λx y H Q=>∃p q xs ys,x=.ref p/\y=.ref q/\aH K H p xs/\aH K H q ys/\Paired (Ij K H n) xs ys/\Q (.bl b) H
theorem lt_trans:∀a b c:List Nat,ltCps b a=false->ltCps c b=false->ltCps c a=false
 | [],b,[],_,_=>ltCps.eq_1
 | [],b,_::_,_,_=>ltCps.eq_3 _ _
 | x::r,[],c,h,_=>by rw [ltCps.eq_2] at h;cases h
 | x::r,y::t,[],_,k=>by rw [ltCps.eq_2] at k;cases k
 | x::r,y::t,z::u,h,k=>by
  rw [ltCps.eq_4,Bool.or_eq_false_iff,decide_eq_false_iff_not] at h k ⊢;refine⟨∅,?_⟩;by_cases e:z=x
  .have e1:y=x:=by omega
   subst e;subst e1;have h2:=h.2;have k2:=k.2;rw [oQ,j9] at h2 k2 ⊢;exact lt_trans r t u h2 k2
  rw [i3.mpr e,Bool.false_and]
def Fz:V->List V->Hp->VK->Prop:=λx vs H Q=>∃z y:Str,x=.str z/\vs=[.str y]/\Q (.bl (Txt.startswith z y)) H
def AU {X:Cx}:Ih X "str.startswith" Fz:=by
 intro ah s σ H x vs v us Q I rx rv h;obtain⟨z,y,rfl,rfl,q⟩:=h;obtain⟨t,rfl⟩:=rx;obtain⟨u,rfl,ru⟩:=rv.one;obtain⟨tu,rfl⟩:=ru;exact SC.startswith ⟨.bl _,H,I,rfl,q⟩
def rG (z:Str) (c:Nat):Txt.startswith z ⟨#[c]⟩=((sg z).head? == some c):=by
 obtain⟨⟨l⟩⟩:=z;unfold Txt.startswith Builtin.Str.subAt sg Str.length;cases l with
 | nil=>rfl
 | cons a l=>simp [ij]
def Fy:V->List V->Hp->VK->Prop:=λx vs H Q=>∃z y:Str,x=.str z/\vs=[.str y]/\z.length<=sizeLine/\Q (.str (Txt.rstripChars z y)) H
def AV {X:Cx}:Ih X "str.rstrip" Fy:=by
 intro ah s σ H x vs v us Q I rx rv h;obtain⟨z,y,rfl,rfl,hz,q⟩:=h;obtain⟨t,rfl⟩:=rx;obtain⟨u,rfl,ru⟩:=rv.one;obtain⟨tu,rfl⟩:=ru;exact SC.rstripChars (λt' k=>⟨.str _,H,I.tok _,⟨_,rfl⟩,q⟩) hz
def lB {z y:Str}{b:Nat}(h:Txt.rstripChars z y=⟨#[b]⟩):(sg z).head?=some b:=by
 obtain⟨j,hj,e⟩:=rstripChars_is_prefix z y;rw [e] at h;have h2:sg (Builtin.Str.strSub z 0 j)=[b]:=by rw [h];rfl
 unfold sg at h2 ⊢;rw [StrLaws.strSub_toList,List.drop_zero,Nat.sub_zero] at h2;cases e3:z.cps.toList with
 | nil=>rw [e3] at h2;simp at h2
 | cons a l =>
  rw [e3] at h2;cases j with
  | zero=>simp at h2
  | succ j =>
   rw [sW] at h2;injection h2 with h3 _;rw [h3];rfl
def Bw (n:Nat):Str:=⟨(List.replicate n 32).toArray⟩
def IG (n:Nat):sg (Bw n)=List.replicate n 32:=by unfold sg Bw;rw [List.toList_toArray]
def OH {X:Cx}:md X (binaryOp .Mult) (λa b H Q=>∃n,a=.str ⟨#[32]⟩/\b=.int ((n:Nat):Int)/\n<=3/\Q (.str (Bw n)) H):=by
 intro ah s σ H a b v u Q I ra rb h;obtain⟨n,rfl,rfl,hn,q⟩:=h;obtain⟨t,rfl⟩:=ra;obtain⟨t2,rfl⟩:=rb
 match n,hn,q with
 | 0,_,q=>exact PySem.P.mul_str_none nofun nofun ⟨.str (Bw 0),H,I.tok _,⟨_,rfl⟩,q⟩
 | 1,_,q =>
  refine PySem.P.mul_str nofun (λ_ h=>by simp at h) (λ_ h=>by simp at h) ?_;rw [ax nofun,av (by rfl)];exact⟨.str (Bw 1),H,I,⟨_,rfl⟩,q⟩
 | 2,_,q =>
  refine PySem.P.mul_str nofun (λ_ _=>by decide) (λ_ _=>by decide) ?_;rw [ax nofun,ax nofun];exact⟨nofun,⟨.str (Bw 2),H,I.tok _,⟨s.toks,rfl⟩,q⟩⟩
 | 3,_,q =>
  refine PySem.P.mul_str nofun (λ_ _=>by decide) (λ_ _=>by decide) ?_;rw [ax nofun,ax nofun];exact⟨nofun,⟨.str (Bw 3),H,I.tok _,⟨s.toks,rfl⟩,q⟩⟩
theorem vp (k:Nat):∀ts:List Str,wd (sg (Str.join (Bw (k+1)) ts))=(ts.map λt=>wd (sg t)).flatten
 | []=>rfl
 | [x]=>by simp [Str.join]
 | x::y::r=>by
  show wd (sg (x++Bw (k+1)++Str.join (Bw (k+1)) (y::r)))=wd (sg x)++((y::r).map λt=>wd (sg t)).flatten;rw [gR,gR,IG,<-vp k (y::r),gh];show wd (sg x++32::(List.replicate k 32++_))=_;rw [mH,B9]
def B7 {ps:List (List Nat)}(h:∀p∈ps,32∉p):(ps.map wd).flatten=ps.filter (·≠[]):=by
 induction ps with
 | nil=>rfl
 | cons p ps ih =>
  rw [bu,List.flatten_cons,ih λq hq=>h q (bC _ hq)];by_cases hp:p=[]
  .subst hp;simp [B_]
  rw [pB (h p bp) hp];simp [hp]
def Oq (k:Nat)(z:Str):wd (sg (Txt.join (Bw (k+1)) (Txt.split z ⟨#[32]⟩)))=wd (sg z):=by
 have e:Txt.join (Bw (k+1)) (Txt.split z ⟨#[32]⟩)=Str.join (Bw (k+1)) (Txt.split z ⟨#[32]⟩):=nY _ _;rw [e,vp];have h2:=StrLaws.split_free z 32;have e2:((Txt.split z ⟨#[32]⟩).map λt=>wd (sg t))=((Txt.split z ⟨#[32]⟩).map sg).map wd:=by rw [g8];rfl
 rw [e2,B7 λp hp=>by
  obtain⟨q,hq,rfl⟩:=cA.mp hp;exact h2 q hq]
 rw [kX];rfl
def CN (K:aV):V->List V->Hp->VK->Prop:=λx vs H Q=>∃z a ts,x=.str z/\vs=[.ref a]/\aW K H a (ts.map V.str)/\(ts.map (·.length)).sum+ts.length * z.length<=16777216/\Q (.str (Txt.join z ts)) H
def vT {X:Cx}:Ih X "str.join" (CN X.K):=by
 intro ah s σ H x vs v us Q I rx rv h;obtain⟨z,a,ts,rfl,rfl,hq,hz,q⟩:=h;obtain⟨t,rfl⟩:=rx;obtain⟨u,rfl,ru⟩:=rv.one;cases (show u=Value.ref a from ru);obtain⟨aL,r,pl,_⟩:=I.tuple hq;exact join_tuple pl (by simpa using tS r) hz λt' k=>⟨.str _,H,I.tok _,⟨_,rfl⟩,q⟩
end L2
namespace fh
open PySem L2 M11
abbrev ug:Stmt:=top 46
abbrev ya:Stmt:=top 47
section
def AX:List Str:=["*","+","?"]
def My:Str:=Txt.join "" AX
def dU (z:Str):Bool:=decide ((z.length:Int)<=14) && !BP (.str (Txt.rstripChars z My)) [.str ":",.str "|"]
def pM:Sp:=λvs H Q _=>∃z:Str,vs=[.str z]/\z.length<=sizeLine/\∀H',aC H H'->Q (.bl (dU z)) H'
def Cz:aK ["word"] ["word"] (az ug):=iL rfl rfl rfl rfl nofun
def AN {tm:Tok}{am:Addr}(F:hZ K "is_part" "is_part" ug f fd)(T:Txt mg)(hM:mg "MOST_SIGNS"=some (.int 14 tm))(hK:mg "MARKS"=some (.ref am))(hS:∀H,aW K H am (AX.map V.str)):bI P w K mg base e_ 1 f fd ["word"] pM:=by
 refine F.ok Cz (λvs H Q E h=>?_) (λdN A outer s H vs Q E hr h=>?_)
 .obtain⟨z,rfl,_⟩:=h;rfl
 obtain⟨z,rfl,hz,q⟩:=h;refine⟨_,aq (a_ (ki (hU Mi (bR iX rfl T.len gP (ab (pv 0) aj)) (lH (v:=.int 14) rfl hM ⟨tm,rfl⟩) (bL _))
  (pV (hU lJ (dJ nZ PySem.F.slot_str_rstrip PySem.F.type_str_rstrip AV (pv 0) (ab (dJ nZ tD tE vT cm (ab (lH (v:=.ref am) rfl hK rfl) aj)) aj)) (aP (ab cm (ab cm aj))) rfl)))),?_⟩
 dsimp only [qx];refine⟨_,rfl,z,rfl,hz,_,_,rfl,rfl,_,rfl,?_⟩;refine dj (λc=>?_) (λc=>?_)
 .refine⟨_,rfl,rfl,rfl,"",am,AX,rfl,rfl,hS H,nofun,z,My,rfl,rfl,hz,nofun,λp hp=>⟨p,_,rfl,.inr (aW.of ae),rfl,rfl,?_⟩⟩;have e:dU z=!BP (.str (Txt.rstripChars z My)) [.str ":",.str "|"]:=by unfold dU;rw [c];rfl
  have h:=q _ (af hp (.tup [.str ":",.str "|"]));rw [e] at h;exact h
 have e:dU z=false:=by unfold dU;rw [nS.mpr c];rfl
 have h:=q H λ_ _ h=>h;rw [e] at h;exact h
def A6 {z:Str}(h:z.length<=14)(h1:(sg z).head?≠some 58)(h2:(sg z).head?≠some 124):dU z=true:=by
 unfold dU;rw [dI ∅,j9,Bool.not_eq_true'];unfold BP;rw [List.any_eq_false];intro y hy e;rcases aQ.mp hy with rfl | hy
 .exact h1 (lB (eq_of_beq (show ((":":Str) == Txt.rstripChars z My)=true from e)).symm)
 rw [bx.mp hy] at e;exact h2 (lB (eq_of_beq (show (("|":Str) == Txt.rstripChars z My)=true from e)).symm)
def again (z:Str):Bool:=decide ((1:Int) < (z.length:Int)) && ((sg z).getLast? == some 42 || (sg z).getLast? == some 43 || (sg z).getLast? == some 63)
def tU:Sp:=λvs H Q _=>∃z:Str,vs=[.str z]/\z.length<=sizeLine/\Q (.bl (again z)) H
def Fs:aK ["part"] ["part"] (az ya):=iL rfl rfl rfl rfl nofun
def Dq {am:Addr}(F:hZ K "comes_again" "comes_again" ya f fd)(T:Txt mg)(hK:mg "MARKS"=some (.ref am))(hS:∀H,aW K H am (AX.map V.str)):bI P w K mg base e_ 1 f fd ["part"] tU:=by
 refine F.ok Fs (λvs H Q E h=>?_) (λdN A outer s H vs Q E hr h=>?_)
 .obtain⟨z,rfl,_⟩:=h;rfl
 obtain⟨z,rfl,hz,q⟩:=h;refine⟨_,aq (a_ (ki (hU pY (bR iX rfl T.len gP (ab (pv 0) aj)) ar (bL _))
  (pV (hU rS (aO jz (pv 0) (iA fQ ar) (λ_ _=>rfl)) (lH (v:=.ref am) rfl hK rfl) rfl)))),?_⟩
 dsimp only [qx];refine⟨_,rfl,z,rfl,hz,_,_,rfl,rfl,_,rfl,?_⟩;refine dj (λc=>?_) (λc=>?_)
 .have c':=cK c;obtain⟨x,ex⟩:∃x,(sg z).getLast?=some x:=by
   cases e:(sg z).getLast? with
   | some x=>exact⟨x,rfl⟩
   | none =>
    have e2:z.cps.toList=[]:=tN.mp e;have e3:z.length=0:=by show z.cps.size=0;rw [<-kR,e2];rfl
    omega
  have e0:again z=BP (.str ⟨#[x]⟩) (AX.map V.str):=by
   unfold again;rw [c,ex,j9];show ((some x == some 42) || (some x == some 43) || (some x == some 63))=(((⟨#[42]⟩:Str) == ⟨#[x]⟩) || (((⟨#[43]⟩:Str) == ⟨#[x]⟩) || (((⟨#[63]⟩:Str) == ⟨#[x]⟩) || false)))
   rw [PyProof.Rows.one_beq,PyProof.Rows.one_beq,PyProof.Rows.one_beq,Bool.or_false,Bool.or_assoc,ij];simp only [Bool.or_eq_true,beq_iff_eq,sQ,decide_eq_true_eq];omega
  rw [e0] at q;refine⟨_,rfl,1,rfl,z,-1,x,rfl,rfl,hz,?_,am,_,rfl,.inr (hS H),rfl,nofun,q⟩;obtain⟨l,el⟩:=vk.mp ex;rw [show z.cps.toList=l++[x] from el];exact iI _ _
 have e:again z=false:=by unfold again;rw [nS.mpr c];rfl
 rw [e] at q;exact q
end
end fh
namespace L2
open PySem
def qF {X:Cx}(K:aV)(hK:X.K=K:=by rfl):eZ X (.type "tuple") (λxs H Q=>∃p ys,xs=[.ref p]/\((aH K H p ys/\∀l,H l=none->Q (.ref l) (upd H l (.tup ys)))\/(aW K H p ys/\Q (.ref p) H))):=by
 subst hK;exact eM
end L2
namespace fh
open PySem L2 M11
abbrev kc:Stmt:=top 45
section
def cM (d:List (List Str)) (c:List Str):List Str->Option (List (List Str))
 | []=>some (d++[c])
 | w::ws=>if w=("|":Str) then cM (d++[c]) [] ws else if dU w=true then cM d (c++[w]) ws else none
def Ez (R:Addr)(H H':Hp):Prop:=∀b o,b≠R->H b=some o->H' b=some o
def n5 (K:aV):Sp:=λvs H Q _=>∃(h:Str)(W R:Addr) (ws:List Str)(rs:List Addr)(aa:List au),vs=[.str h,.ref W,.ref R]/\aH K H W (ws.map V.str)/\ws.length<=100000/\(∀z∈ws,z.length<=sizeLine) /\
 H R=some (.lst (rs.map V.ref))/\aR K H rs aa/\rs.length<=100000/\(cM [] [] ws=none->∀H',aC H H'->Q (.bl false) H') /\
 (∀rws,cM [] [] ws=some rws->∀Fu H',Fu.length=rws.length->Ez R H H'->H' R=some (.lst ((rs++Fu).map V.ref))->aR K H' (rs++Fu) (aa++rws.map λp=>(h,p))->Q (.bl true) H')
theorem vJ {α β:Type}{F:α->β->Prop}:∀{xs:List α}{ys:List β},Paired F xs ys->∀{i:Nat}{x:α},xs[i]?=some x->∃y,ys[i]?=some y/\F x y
 | _,_,.nil,i,x,e=>by cases i <;> cases e
 | _,_,.cons h t,0,x,e=>by cases e;exact⟨_,rfl,h⟩
 | _,_,.cons h t,i+1,x,e=>vJ t e
theorem vK {α β:Type}{F:α->β->Prop}:∀{xs:List α}{ys:List β}{BM:List α}{Lw:List β},Paired F xs ys->Paired F BM Lw->Paired F (xs++BM) (ys++Lw)
 | _,_,_,_,.nil,h=>h
 | _,_,_,_,.cons h t,h2=>.cons h (vK t h2)
structure EB (H:Hp)(A0:Addr) (ws:List Str) (i:Nat)(H2:Hp)(d:List (List Str)) (c:List Str)(jZ:List Addr)(ca:Addr):Prop where
 sm:aC H H2
 hA:H2 A0=some (.lst ((jZ++[ca]).map V.ref))
 hd:Paired (λa l=>H2 a=some (.lst (List.map V.str l))) jZ d
 hc:H2 ca=some (.lst (c.map V.str))
 fr:∀a∈jZ++[ca],H a=none/\a≠A0
 fA:H A0=none
 nc:ca∉jZ
 ld:d.length<=i
 lc:c.length<=i
 eq:cM d c (ws.drop i)=cM [] [] ws
def EB.same {H H2 H3:Hp}{A0 ca:Addr}{ws:List Str}{i:Nat}{d:List (List Str)}{c:List Str}{jZ:List Addr}(v:EB H A0 ws i H2 d c jZ ca)(s:aC H2 H3):EB H A0 ws i H3 d c jZ ca :=
 ⟨v.sm.trans s,s _ _ v.hA,Paired.gy v.hd λ_ _ z=>s _ _ z,s _ _ v.hc,v.fr,v.fA,v.nc,v.ld,v.lc,v.eq⟩
theorem rR {H2:Hp}:∀{jZ:List Addr}{d:List (List Str)},Paired (λa l=>H2 a=some (.lst (List.map V.str l))) jZ d->∀a∈jZ,H2 a≠none
 | _,_,.cons h t,a,ha=>by
  rcases aQ.mp ha with rfl | ha
  .rw [h];exact λz=>by cases z
  exact rR t a ha
theorem lI {H2:Hp}{p:Addr}{o:HO}:∀{jZ:List Addr}{d:List (List Str)},p∉jZ->Paired (λa l=>H2 a=some (.lst (List.map V.str l))) jZ d->Paired (λa l=>upd H2 p o a=some (.lst (List.map V.str l))) jZ d
 | _,_,_,.nil=>.nil
 | _,_,hp,.cons h t=>.cons (by rw [ai λz=>hp (by rw [<-z];exact bp)];exact h) (lI (λz=>hp (bC _ z)) t)
def EB.cut {H H2:Hp}{A0 ca p:Addr}{ws:List Str}{i:Nat}{d:List (List Str)}{c:List Str}{jZ:List Addr}(v:EB H A0 ws i H2 d c jZ ca)(ex:ws[i]?=some ("|":Str))(hp:H2 p=none) :
  EB H A0 ws (i+1) (upd (upd H2 p (.lst [])) A0 (.lst ((jZ++[ca]).map V.ref++[.ref p]))) (d++[c]) [] (jZ++[ca]) p:=by
 have U_:p≠A0:=λz=>by rw [z,v.hA] at hp;cases hp
 have Vk:H p=none:=v.sm.free hp;have Uw:p∉jZ++[ca]:=λhm=>by
  rcases bN.mp hm with hm | hm
  .exact rR v.hd p hm hp
  rw [bx.mp hm,v.hc] at hp;cases hp
 have nA:A0∉jZ++[ca]:=λhm=>(v.fr _ hm).2 rfl;obtain⟨hi,e⟩:=bA.mp ex;refine⟨λb o hb=>?_,by rw [ae,bw (l₁:=jZ++[ca])];rfl,?_,?_,?_,v.fA,Uw,by rw [cu];have:=v.ld;simp;omega,cT _,?_⟩
 .rw [ai (ao hb v.fA),ai (ao hb Vk)];exact v.sm b o hb
 .refine lI nA (lI Uw ?_);exact fj v.hd v.hc
 .rw [ai U_,ae];rfl
 .intro a ha;rcases bN.mp ha with ha | ha
  .exact v.fr a ha
  rw [bx.mp ha];exact⟨Vk,U_⟩
 rw [<-v.eq,tM hi,e];show _=cM d c (("|":Str)::_);rw [cM,av rfl]
def EB.put {H H2:Hp}{A0 ca:Addr}{ws:List Str}{i:Nat}{d:List (List Str)}{c:List Str}{jZ:List Addr}{w:Str}(v:EB H A0 ws i H2 d c jZ ca)(ex:ws[i]?=some w)(hw:w≠("|":Str))(hi:dU w=true) :
  EB H A0 ws (i+1) (upd H2 ca (.lst (c.map V.str++[.str w]))) d (c++[w]) jZ ca:=by
 have hf:=v.fr ca (eX _ (bx.mpr rfl));obtain⟨hl,e⟩:=bA.mp ex;refine⟨λb o hb=>?_,by rw [ai hf.2.symm];exact v.hA,lI v.nc v.hd,by rw [ae,bw];rfl,v.fr,v.fA,v.nc,sO v.ld,by rw [cu];have:=v.lc;simp;omega,?_⟩
 .rw [ai (ao hb hf.1)];exact v.sm b o hb
 rw [<-v.eq,tM hl,e];rw [cM,ax hw,av hi]
def jt:aK ["head","words","rules","rows","word"] ["head","words","rules"] (az kc):=iL rfl rfl rfl rfl nofun
def uB (F:hZ K "read_rules" "read_rules" kc f fd)(T:Txt mg)(GP:aE P w K mg base 1 "is_part" ["word"] pM):bI P w K mg base e_ 2 f fd ["head","words","rules"] (n5 K):=by
 refine F.ok jt (λvs H Q E h=>?_) (λdN A outer s H vs Q E hr h=>?_)
 .obtain⟨h,W,R,ws,rs,aa,rfl,_⟩:=h;rfl
 obtain⟨h,W,R,ws,rs,aa,rfl,hW,hl,hz,hR,cR,Ro,q0,q1⟩:=h;refine⟨_,ak (aG (i:=3) jt.nd rfl (bJ rfl) (bD (ab (bD aj) aj)))
  (ak (b8 cx rfl (bq (pv 1)) (ay (i:=4) jt.nd rfl (bJ rfl))
   (aq (cW (bU n_ (pv 4) cm (bL _)) (aq (cC (dJ gC iq ir cq (pv 3) (ab (bD aj) aj))))
    (aq (cW (iR (bE GP hr rfl (ab (pv 4) aj))) (aq (cC (dJ gC iq ir cq (aO aS (pv 3) (iA fQ ar) (λ_ _=>rfl)) (ab (pv 4) aj))))
     (aq (a_ fO)))))))
  (ak (cC (dJ gC xw xx mV (pv 2) (ab (bG ["parts"] [(0,"head")] rfl (bq (pv 3)) (br rfl rfl) nofun rfl nofun
    (λ_ _ _ _ _=>ay (i:=0) (show (["parts","head"]:List Str).Nodup by decide +kernel) rfl (bJ rfl)) (λ_ _ _ _ _=>b_) (λ_ _ _ _ _=>aP (ab (pv 1) (ab (a7 (qF K) rfl T.tup vj (ab (pv 0) aj)) aj)))) aj)))
  (aq (a_ fO)))),?_⟩
 dsimp only [qx];refine⟨qQ,λc0 Nw=>⟨BK,λA0 OY=>?_⟩⟩;have nA:A0≠c0:=λz=>by rw [z,ae] at OY;cases OY
 have fA:H A0=none:=by rw [ai nA] at OY;exact OY
 have v0:EB H A0 ws 0 (upd (upd H c0 (.lst [])) A0 (.lst [.ref c0])) [] [] [] c0:=by
  refine⟨λb o hb=>by rw [ai (ao hb fA),ai (ao hb Nw)];exact hb,ae,.nil,by rw [ai nA.symm,ae];rfl,λa ha=>?_,fA,(λz=>by cases z),aF _,aF _,rfl⟩;rw [bx.mp ha];exact⟨Nw,nA.symm⟩
 generalize upd (upd H c0 (.lst [])) A0 (.lst [.ref c0])=H1 at v0;refine⟨_,rfl,W,rfl,⟨_,v0.sm.seq hW⟩,dW (xs:=ws.map V.str) (λi σ H2=>∃d c jZ ca y,σ=[some (.str h),bz W,bz R,bz A0,y]/\EB H A0 ws i H2 d c jZ ca) ⟨_,_,_,_,none,rfl,v0⟩ ?_ ?_ ?_⟩
 .rintro i σ H2 _ ⟨d,c,jZ,ca,y,_,v⟩;exact v.sm.seq hW
 .rintro i x σ H2 ex ⟨d,c,jZ,ca,y,rfl,v⟩;rw [bo] at ex;obtain⟨z,ez,rfl⟩:=cg.mp ex;have hi:=(bA.mp ez).1;have ld:=v.ld;have lc:=v.lc;have ll:=a9 v.hd;refine goN ?_;refine⟨_,rfl,rfl,_,rfl,?_⟩;refine dj (λe=>?_) (λe=>?_)
  .have e':z=("|":Str):=by
    have:=cK e;injection this
   subst e';refine⟨_,rfl,.inl ⟨rfl,_,aH.of v.hA⟩,qQ,λp hp=>⟨A0,(jZ++[ca]).map V.ref,_,rfl,rfl,?_,?_,?_⟩⟩
   .rw [ai (ao v.hA hp)];exact v.hA
   .exact bF (by rw [aB,cu,ll];simp;omega)
   exact⟨_,_,_,_,_,rfl,v.cut ez hp⟩
  have e':z≠("|":Str):=λhh=>e (dI (congrArg V.str hh));refine⟨_,rfl,z,rfl,hz z (bZ ez),λH3 s3=>⟨_,rfl,?_⟩⟩;have v3:=v.same s3;refine dj (λhp=>?_) (λhp=>?_)
  .refine⟨_,rfl,1,rfl,A0,_,_,.ref ca,rfl,rfl,aH.of v3.hA,?_,.inl ⟨rfl,_,aH.of v3.hc⟩,_,rfl,ca,_,_,rfl,rfl,v3.hc,?_,?_⟩
   .rw [bw];exact iI _ _
   .exact bF (by rw [aB];omega)
   exact⟨_,_,_,_,_,rfl,v3.put ez e' hp⟩
  refine q0 ?_ H3 v3.sm;rw [<-v.eq,tM hi,(bA.mp ez).2,cM,ax e',ax hp]
 rintro σ H2 ⟨d,c,jZ,ca,y,rfl,v⟩;have ld:=v.ld;have ll:=a9 v.hd;rw [aB] at v ld;have e0:cM [] [] ws=some (d++[c]):=by rw [<-v.eq,List.drop_length];rfl
 have pr:Paired (λa l=>H2 a=some (.lst (List.map V.str l))) (jZ++[ca]) (d++[c]):=fj v.hd v.hc;have lp:=a9 pr;have lb:(d++[c]).length<=100001:=by rw [cu];simp;omega
 refine⟨_,rfl,.inl ⟨rfl,_,aH.of (v.sm _ _ hR)⟩,_,rfl,A0,rfl,⟨_,aH.of v.hA⟩,λD hD=>bT (xs:=(jZ++[ca]).map V.ref) (λi ys σ2 H3=>∃ts:List Addr,ys=ts.map V.ref/\ts.length=i/\aR K H3 ts (((d++[c]).take i).map λp=>(h,p))/\(∃y0,σ2=[y0,some (.str h)])/\aC H2 H3/\H3 D=some (.lst ys))
  ⟨[],rfl,rfl,.nil,⟨none,rfl⟩,af hD _,ae⟩ (λi ys σ2 H3 _ h=>?_) (λi x ys σ2 H3 ex h=>?_) (λys σ2 H3 h=>?_)⟩
 .obtain⟨_,_,_,_,_,sm,_⟩:=h;exact sm.seq (aH.of v.hA)
 .obtain⟨ts,rfl,ht,hp,⟨y0,rfl⟩,sm,hd⟩:=h;rw [bo] at ex;obtain⟨a,ea,rfl⟩:=cg.mp ex;obtain⟨l,el,ha⟩:=vJ pr ea;have ZI:=sm _ _ ha;have li:i<=100001:=by have:=(bA.mp el).1;omega
  refine goN (vb ?_);refine⟨_,rfl,_,rfl,a,_,rfl,.inl ⟨aH.of ZI,λp ng=>⟨gE,λt g7=>?_⟩⟩⟩;have Vo:upd H3 p (.tup (l.map V.str)) D=some (.lst (ts.map V.ref)):=by rw [ai (ao hd ng)];exact hd
  have uO:upd (upd H3 p (.tup (l.map V.str))) t (.tup [.str h,.ref p]) D=some (.lst (ts.map V.ref)):=by rw [ai (ao Vo g7)];exact Vo
  have s4:=(af ng (.tup (l.map V.str))).trans (af g7 (.tup [.str h,.ref p]));have tp:aW K (upd (upd H3 p (.tup (l.map V.str))) t (.tup [.str h,.ref p])) p (l.map V.str):=(af g7 (.tup [.str h,.ref p])).tup (aW.of ae);refine⟨uO,bF (by rw [aB];omega),ts++[t],?_,?_,?_,⟨_,rfl⟩,?_,ae⟩
  .rw [bw];rfl
  .rw [cu,ht];rfl
  .rw [cP,el,bw];exact fj ((hp.same s4).keep λ_ _ z=>aN uO z) ⟨p,aN uO (aW.of ae),aN uO tp⟩
  intro b o hb;rw [ai (λz=>by rw [z,hD] at hb;cases hb)];exact s4 _ _ (sm b o hb)
 obtain⟨ts,rfl,ht,hp,_,sm,hd⟩:=h;rw [aB,lp] at ht hp;rw [cU] at hp;have R5:=sm _ _ (v.sm _ _ hR);have sH:=v.sm.trans sm;refine⟨R,D,_,_,rfl,rfl,R5,hd,fits (by rw [aB,aB];show rs.length+ts.length<=1000000;omega),?_⟩;refine q1 _ e0 ts _ ht (λb o hb hh=>by rw [ai hb];exact sH _ _ hh) (by rw [ae,bw]) ?_;exact vK ((cR.same sH).keep λ_ _ z=>aN R5 z) (hp.keep λ_ _ z=>aN R5 z)
end
end fh
namespace L2
open PySem PySem.Spec PyProof.Rows
section
variable {prog:Program}{w:World}{A:Around}{E:Value->Shared->Prop}{s:Shared}
abbrev EH (h:Heap)(z:Addr)(f0 f1:Value)(TI TO:Addr):Prop:=h.get? z=some { cls:=.type "zip",data:=.fields #[f0,f1,.bool false,.ref TI,.ref TO] }
end
structure To (h:Heap)(z TI TO i1 i2 l1 l2:Addr)(xs ys:Array Value) (i:Nat):Prop where
 hz:∃f0 f1,EH h z f0 f1 TI TO/\(f0=.none\/∃T:Nat,f0=rawInt T)
 hI:IsPair h TI (.ref i1) (.ref i2)
 hO:∃a b,IsPair h TO a b
 h1:h.IsTupleIter i1 l1 i
 h2:h.IsTupleIter i2 l2 i
 t1:h.IsTuple l1 xs
 t2:h.IsTuple l2 ys
def vw {h h':Heap}{l:Addr}{xs:Array Value}(t:h.IsTuple l xs)(k:∀o,h.get? l=some o->h'.get? l=some o):h'.IsTuple l xs:=by
 obtain⟨o,a,b,c⟩:=t;exact⟨o,k o a,b,c⟩
def sM (h:Heap) (N:Nat)(xs ys bf:Array Value):Prop:=∃Ts:List Nat,bf.toList=Ts.map Value.ref/\Ts.Pairwise (· < ·)/\∀(j T:Nat),Ts[j]?=some T->N<=T/\∃x y:Value,IsPair h T x y/\xs[j]?=some x/\ys[j]?=some y
def sM.keep {h h':Heap}{N:Nat}{xs ys bf:Array Value}(a:sM h N xs ys bf)(k:∀(T:Nat) o,N<=T->h.get? T=some o->h'.get? T=some o):sM h' N xs ys bf:=by
 obtain⟨Ts,e1,e2,e3⟩:=a;refine⟨Ts,e1,e2,λj T hj=>?_⟩;obtain⟨l,x,y,p,q⟩:=e3 j T hj;exact⟨l,x,y,k T _ l p,q⟩
def sM.more {h:Heap}{N T0:Nat}{xs ys bf:Array Value}{x y:Value}(a:sM h N xs ys bf)(lt:∀(Ts:List Nat),bf.toList=Ts.map Value.ref->∀T∈Ts,T < T0)(hN:N<=T0)(p:IsPair h T0 x y)(hx:xs[bf.size]?=some x)(hy:ys[bf.size]?=some y):sM h N xs ys (bf.push (.ref T0)):=by
 obtain⟨Ts,e1,e2,e3⟩:=a;have el:Ts.length=bf.size:=by
  have:=congrArg List.length e1;rw [aB] at this;rw [<-this];simp
 refine⟨Ts++[T0],by rw [Array.toList_push,e1,bw];rfl,List.pairwise_append.mpr ⟨e2,by simp,λT hT b hb=>by rw [bx.mp hb];exact lt Ts e1 T hT⟩,λj T hj=>?_⟩;by_cases c:j < Ts.length
 .rw [oV c] at hj;exact e3 j T hj
 rw [oW ∅] at hj;have c2:j - Ts.length=0:=by
  have:=(bA.mp hj).1;simp at this;omega
 rw [c2] at hj;cases hj;have:j=bf.size:=by omega
 rw [this];exact⟨hN,x,y,p,hx,hy⟩
def To.keep {h h':Heap}{z TI TO i1 i2 l1 l2:Addr}{xs ys:Array Value}{i:Nat}(st:To h z TI TO i1 i2 l1 l2 xs ys i)(k:∀b o,h.get? b=some o->h'.get? b=some o):To h' z TI TO i1 i2 l1 l2 xs ys i:=by
 obtain⟨⟨f0,f1,a,b⟩,hI,⟨c,d,hO⟩,h1,h2,t1,t2⟩:=st;exact⟨⟨f0,f1,k _ _ a,b⟩,k _ _ hI,⟨c,d,k _ _ hO⟩,h1.at λo q=>k _ _ q,h2.at λo q=>k _ _ q,vw t1 λo q=>k _ _ q,vw t2 λo q=>k _ _ q⟩
end L2
namespace HT
open PySem PyProof.Rows
section
variable {prog:Program}{w:World}{A:Around}{E:Value->Shared->Prop}{s:Shared}
end
end HT
namespace L2
open PySem PySem.Spec PyProof.Rows
open PySem
section
variable {prog:Program}{w:World}{A:Around}{E:Value->Shared->Prop}{s:Shared}
end
structure ZTn (h:Heap)(z TI TO i1 i2 l1 l2:Addr) (i:Nat):Prop where
 hz:∃f0 f1,EH h z f0 f1 TI TO/\(f0=.none\/∃T:Nat,f0=rawInt T)
 hI:IsPair h TI (.ref i1) (.ref i2)
 hO:∃a b,IsPair h TO a b
 h1:h.IsTupleIter i1 l1 i
 h2:h.IsTupleIter i2 l2 i
end L2
namespace HT
open PySem PySem.Spec PyProof.Rows
section
variable {prog:Program}{w:World}{A:Around}{E:Value->Shared->Prop}{s:Shared}
end
end HT
namespace L2
open PySem PySem.Spec PyProof.Rows
section
variable {prog:Program}{w:World}{A:Around}{E:Value->Shared->Prop}{s:Shared}
end
def Gv:List V->List V->Bool
 | [],[]=>true
 | x::xs,y::ys=>wk x y && Gv xs ys
 | _,_=>false
theorem nu:∀(xs ys:List V),((List.range (min xs.length ys.length)).all (λj=>wk (xs.getD j .eJ) (ys.getD j .eJ)) && (xs.length == ys.length))=Gv xs ys
 | [],[]=>rfl
 | [],y::ys=>by simp [Gv]
 | x::xs,[]=>by simp [Gv]
 | x::xs,y::ys=>by
  have ih:=nu xs ys;show _=(wk x y && Gv xs ys);rw [<-ih,cX,cX,Nat.succ_min_succ,List.range_succ_eq_map,List.all_cons,List.all_map];simp only [Function.comp_def,List.getD_cons_zero,List.getD_cons_succ,Nat.succ_eq_add_one];rw [Bool.and_assoc]
  congr 2
  simp
def yR {A:Around}{s:Shared}{xs ys:List V}{aL d_:List Value}(r:aT xs aL)(r2:aT ys d_)(fx:xs.all gY=true)(fy:ys.all gY=true) (j:Nat)(h1:j < aL.toArray.size)(h2:j < d_.toArray.size) :
  SeqAt.EqAt A s aL.toArray[j] d_.toArray[j] (wk (xs.getD j .eJ) (ys.getD j .eJ)):=by
 have l1:=r.length;have l2:=r2.length;have k1:j < aL.length:=by simpa using h1
 have k2:j < d_.length:=by simpa using h2
 have g1:xs[j]?=some (xs[j]'∅):=cQ ∅;have g2:ys[j]?=some (ys[j]'∅):=cQ ∅;obtain⟨u1,e1,q1⟩:=r.get g1;obtain⟨u2,e2,q2⟩:=r2.get g2;have f1:aL.toArray[j]=u1:=by
  have:=(bA.mp e1).2;simpa using this
 have f2:d_.toArray[j]=u2:=by
  have:=(bA.mp e2).2;simpa using this
 rw [f1,f2];have d1:xs.getD j .eJ=xs[j]'∅:=by rw [vm,g1];rfl
 have d2:ys.getD j .eJ=ys[j]'∅:=by rw [vm,g2];rfl
 rw [d1,d2];exact yT q1 q2 (gb.mp fx _ (nR _)) (gb.mp fy _ (nR _))
def jR (l:Addr)(items:Array Value)(RO:(items.size:Int) < 2 ^ 63) :
  Meets (Builtin.«bool.__new__» ⟨[.type "bool",.ref l],[]⟩) (λ_ R s=>s.heap.IsList l items/\R (.ok (.ret (.bool (!items.isEmpty)))) { s with toks:=s.toks+1+1 }) :=
 Meets.of_wp λprog w A R s hs=>by
  obtain⟨hl,hs⟩:=hs;obtain⟨hp,g,d,tk,os⟩:=s;have f1:=F.conv_sub_bool
  repeat (any_goals (first | assumption | (with_reducible refine wpAny_truthy_list hl RO ?_) | wp_step))
  all_goals first | exact⟨_,rfl,hs⟩ | exact hs | skip
def zc {X:Cx}:eZ X (.type "bool") (λxs H Q=>∃p ys,xs=[.ref p]/\aH X.K H p ys/\Q (.bl (!ys.isEmpty)) H):=by
 intro ah s σ H xs us Q I r h;obtain⟨p,ys,rfl,hq,q⟩:=h;obtain⟨u,rfl,rx⟩:=vals1 r;cases (show u=Value.ref p from rx);obtain⟨aL,rv,pl,hz⟩:=I.list hq;have l1:=rv.length;have hn:=jw;refine call_bool_1 (jR p aL.toArray (by simp only [bO];omega)) ⟨pl.isList,rfl,?_⟩;have e:(aL.toArray.isEmpty)=ys.isEmpty:=by
  cases aL with
  | nil=>cases ys with
   | nil=>rfl
   | cons _ _=>cases l1
  | cons _ _=>cases ys with
   | nil=>cases l1
   | cons _ _=>rfl
 rw [e];exact⟨.bl _,H,I.tok _,rfl,q⟩
def Xb (K:aV):R2:=λx y H Q=>∃a b xs ys,x=.ref a/\y=.ref b/\aH K H a xs/\aH K H b ys/\xs.all gY=true/\ys.all gY=true/\Q (.bl (Gv xs ys)) H
def FU {X:Cx}(hu:X.A.units < cLine):md X (compareOp .Eq) (Xb X.K):=by
 intro ah s σ H x y v u Q I rx ry h;obtain⟨a,b,xs,ys,rfl,rfl,ha,hb,fx,fy,q⟩:=h;cases rx;cases ry;obtain⟨aL,r,pl,hz⟩:=I.list ha;obtain⟨d_,r2,zU,UU⟩:=I.list hb;have l1:=r.length;have l2:=r2.length;by_cases hl:xs.length=ys.length
 .refine SeqAt.eq_listAt (e:=λj=>wk (xs.getD j .eJ) (ys.getD j .eJ)) pl.isList zU.isList (by simp only [bO];omega) hu (λj h1 h2=>yR r r2 fx fy j h1 h2) ?_;have e:((List.range aL.toArray.size).all (λj=>wk (xs.getD j .eJ) (ys.getD j .eJ)))=Gv xs ys:=by
   rw [<-nu,hl,Nat.min_self,oQ,Bool.and_true,bO,<-l1,hl]
  rw [e];exact⟨.bl _,H,I,rfl,q⟩
 have e:Gv xs ys=false:=by
  rw [<-nu,beq_false_of_ne hl,Bool.and_false]
 rw [e] at q;refine SeqAt.eq_list_lengthsAt pl.isList zU.isList ?_ hu ⟨.bl false,H,I,rfl,q⟩;rw [bO,bO,<-l1,<-l2]
 first | exact hl | exact beq_false_of_ne hl | simpa using hl
end L2
namespace fh
open PySem L2 M11
abbrev pQ:Stmt:=top 44
section
def oP (ns:List Str) (k:Nat):ff (ns.map V.str) (some (k:Int)) none=(ns.drop k).map V.str:=by
 have e1:HT.jU (ns.map V.str).length 0 (some (k:Int))=min k ns.length:=by
  unfold HT.jU;rw [aB];simp;omega
 have e2:HT.jU (ns.map V.str).length (ns.map V.str).length none=ns.length:=by
  unfold HT.jU;rw [aB]
 unfold ff;rw [e1,e2,<-List.map_drop];have h3:ns.drop (min k ns.length)=ns.drop k:=by
  by_cases h:k<=ns.length
  .rw [Nat.min_eq_left h]
  rw [Nat.min_eq_right ∅,List.drop_length,List.drop_of_length_le ∅]
 rw [h3,List.take_of_length_le];rw [aB,mC];omega
def HX:∀ns:List Str,ff (ns.map V.str) (some 1) (some 2)=((ns.drop 1).take 1).map V.str
 | []=>rfl
 | [_]=>rfl
 | a::b::r=>by
  have e1:HT.jU ((a::b::r).map V.str).length 0 (some (1:Int))=1:=by
   unfold HT.jU;rw [aB];simp
  have e2:HT.jU ((a::b::r).map V.str).length ((a::b::r).map V.str).length (some (2:Int))=2:=by
   unfold HT.jU;rw [aB];simp
  unfold ff;rw [e1,e2];rfl
theorem pW {α β:Type}{F:α->β->Prop}:∀{ys:List β}{y:β}{xs:List α},Paired F xs (ys++[y])->∃zs z,xs=zs++[z]/\Paired F zs ys/\F z y
 | [],y,_,.cons r .nil=>⟨[],_,rfl,.nil,r⟩
 | _::ys,y,_,.cons r t=>by
  obtain⟨zs,z,rfl,h1,h2⟩:=pW (ys:=ys) t;exact⟨_::zs,z,rfl,.cons r h1,h2⟩
def nJ (x:Str) (r:List Str):jD ((x::r).map V.str) 0=some (.str x):=cw (j:=0) rfl
def Ez.tup {R:Addr}{H H':Hp}{ys:List V}(e:Ez R H H')(hR:H R=some (.lst ys)){a:Addr}{xs:List V}(h:aW K H a xs):aW K H' a xs:=by
 rcases h with (h | ⟨u,h⟩) | h
 .exact .inl (.inl (e _ _ (λz=>by rw [z,hR] at h;cases h) h))
 .exact .inl (.inr ⟨u,e _ _ (λz=>by rw [z,hR] at h;cases h) h⟩)
 exact .inr h
def pC:List Str:=["left","right","none"]
def Ey (R S:Addr)(H H':Hp):Prop:=∀b o,b≠R->b≠S->H b=some o->H' b=some o
inductive sL (aa mM:List au):List Str->List au->List au->Prop
 | more (h:Str) (ps:List Str) (rest:List Str)(rws:List (List Str))(e:aa.getLast?=some (h,ps))(er:cM [] [] rest=some rws):sL aa mM (("|":Str)::rest) (aa++rws.map λp=>(h,p)) mM
 | head (h:Str) (rest:List Str)(rws:List (List Str))(hn:h≠("|":Str))(hp:dU h=true)(ha:again h=false)(er:cM [] [] rest=some rws):sL aa mM (h::(":":Str)::rest) (aa++rws.map λp=>(h,p)) mM
 | way (z:Str) (rest:List Str)(hz:z∈pC)(hr:rest≠[])(hc:rest.head?≠some (":":Str))(hp:∀p∈rest,dU p=true):sL aa mM (z::rest) aa (mM++[(z,rest)])
def Io:∀z∈pC,z≠("|":Str):=by decide
def Ip:∀z∈pC,BP (.str z) (pC.map V.str)=true:=by decide
def rH (K:aV):Sp:=λvs H Q _=>∃(W R S:Addr) (ws:List Str)(rs ss:List Addr)(aa mM uk Fg:List au),vs=[.ref W,.ref R,.ref S]/\aH K H W (ws.map V.str)/\ws.length<=100000/\(∀z∈ws,z.length<=sizeLine) /\
 H R=some (.lst (rs.map V.ref))/\aR K H rs aa/\rs.length<=100000/\H S=some (.lst (ss.map V.ref))/\aR K H ss mM/\ss.length<=100000/\R≠S/\sL aa mM ws uk Fg /\
 (∀OD OA H',Ey R S H H'->H' R=some (.lst (OD.map V.ref))->aR K H' OD uk->H' S=some (.lst (OA.map V.ref))->aR K H' OA Fg->Q (.bl true) H')
def Az:aK ["words","rules","strengths"] ["words","rules","strengths"] (az pQ):=iL rfl rfl rfl rfl nofun
def yp {aw:Addr}(F:hZ K "read_row" "read_row" pQ f fd)(T:Txt mg)(hW:mg "WAYS"=some (.ref aw))(hS:∀H,aW K H aw (pC.map V.str))(GP:aE P w K mg base 1 "is_part" ["word"] pM)(GA:aE P w K mg base 1 "comes_again" ["part"] tU)
  (GR:aE P w K mg base 2 "read_rules" ["head","words","rules"] (n5 K)):bI P w K mg base e_ 3 f fd ["words","rules","strengths"] (rH K):=by
 refine F.ok Az (λvs H Q E h=>?_) (λdN A outer s H vs Q E hr h=>?_)
 .obtain⟨W,R,S,ws,rs,ss,aa,mM,uk,Fg,rfl,_⟩:=h;rfl
 obtain⟨W,R,S,ws,rs,ss,aa,mM,uk,Fg,rfl,yL,hl,hz,hR,cR,Ro,OX,xg,hss,Jp,ok,q⟩:=h;have hu:=nW (Nat.le_add_right _ 64) hr.units;refine⟨_,ak (cW (bU n_ (aO aS (pv 0) ar (λ_ _=>rfl)) cm (bL _))
   (aq (a_ (ki (a7 zc rfl T.boo PyProof.Rows.boot_bool (ab (pv 1) aj)) (pV (bE GR hr rfl (ab (aO cH (aO aS (pv 1) (iA fQ ar) (λ_ _=>rfl)) ar (λ_ _=>rfl)) (ab (de gH (pv 0) (cY ar) gK) (ab (pv 1) aj)))))))) bB)
  (ak (cW (bU (FU hu) (de gH (pv 0) (cY ar) (cY ar)) (bD (ab cm aj)) (bL _))
   (aq (a_ (ki (bE (GP.mono (by decide:1<=2)) hr rfl (ab (aO aS (pv 0) ar (λ_ _=>rfl)) aj)) (ki (Jb (bE (GA.mono (by decide:1<=2)) hr rfl (ab (aO aS (pv 0) ar (λ_ _=>rfl)) aj)))
    (pV (bE GR hr rfl (ab (aO aS (pv 0) ar (λ_ _=>rfl)) (ab (de gH (pv 0) (cY ar) gK) (ab (pv 1) aj))))))))) bB)
  (ak (cW (PW.pt (iQ (bU rS (aO aS (pv 0) ar (λ_ _=>rfl)) (lH (v:=.ref aw) rfl hW rfl) rfl) (iQ (bU pY (bR cI rfl T.len gP (ab (pv 0) aj)) ar (bL _))
    (jK (iR (bR (nF rfl) rfl T.all boot_all (ab (bG ["word"] [] rfl (bq (de gH (pv 0) (cY ar) gK)) (br rfl rfl) nofun rfl nofun
     (λ_ _ _ _ _=>ay (i:=0) (show (["word"]:List Str).Nodup by decide +kernel) rfl (bJ rfl)) (λ_ _ _ _ _=>b_) (λ_ _ _ _ _=>bE (GP.mono (by decide:1<=2)) hr rfl (ab (pv 0) aj))) aj)))))))
   (ak (cC (dJ gC iq ir cq (pv 2) (ab (aP (ab (aO aS (pv 0) ar (λ_ _=>rfl)) (ab (a7 eM rfl T.tup vj (ab (de gH (pv 0) (cY ar) gK) aj)) aj))) aj)))
   (aq (a_ fO))) bB)
  (aq (a_ fO)))),?_⟩
 dsimp only [qx];have RC:ws≠[]:=by
  cases ok <;> exact List.cons_ne_nil _ _
 cases ok with
 | more h ps rest rws e er =>
  obtain⟨r0,e0⟩:=vk.mp e;subst e0;have lp:=a9 cR;obtain⟨KZ,rl,rfl,BQ,⟨pa,v1,v2⟩⟩:∃KZ rl,rs=KZ++[rl]/\aR K H KZ r0/\j4 K H rl (h,ps):=pW cR;refine⟨_,rfl,W,_,_,_,rfl,rfl,yL,nJ _ _,rfl,true,rfl,?_⟩;refine kC ?_;refine⟨_,rfl,R,_,rfl,aH.of hR,true,by rw [bw];simp,?_⟩;refine kC ?_;refine⟨_,rfl,1,rfl,R,_,_,.ref rl,rfl,rfl,aH.of hR,by rw [bw];exact iI _ _,rl,_,_,_,rfl,rfl,v1,rfl,_,rfl,1,rfl,W,_,rfl,yL,λp hp=>⟨_,rfl,?_⟩⟩;have s1:=af hp (.lst (ff (List.map V.str (("|":Str)::rest)) (some 1) none));have BR:upd H p (.lst (ff (List.map V.str (("|":Str)::rest)) (some 1) none)) p=some (.lst (rest.map V.str)):=by
   rw [ae,show ((1:Int))=((1:Nat):Int) from rfl,oP];rfl
  generalize upd H p (.lst (ff (List.map V.str (("|":Str)::rest)) (some 1) none))=H1 at s1 BR;refine⟨h,p,R,rest,KZ++[rl],r0++[(h,ps)],rfl,aH.of BR,by simp at hl;omega,λz MZ=>hz z (bC _ MZ),s1 _ _ hR,cR.same s1,Ro,λe'=>(by rw [er] at e';cases e'),λQd e' Fu H' l2 sb wb qX=>?_⟩;rw [er] at e';cases e';exact q _ ss H' (λb o hb _ ho=>sb b o hb (s1 _ _ ho)) wb qX (sb _ _ Jp.symm (s1 _ _ OX)) ((xg.same s1).keep λ_ _ z=>sb.tup (s1 _ _ hR) z)
 | head h rest rws hn hp ha er =>
  have HH:=hz h bp;refine⟨_,rfl,W,_,_,_,rfl,rfl,yL,nJ _ _,rfl,false,by rw [fN (λz=>hn (V.str.inj z))],?_⟩;refine iW ?_;refine⟨_,rfl,1,rfl,2,rfl,W,_,rfl,yL,λp BR=>⟨BK,λp2 ng=>?_⟩⟩;rw [HX] at ng ⊢;have s1:=af BR (.lst (List.map V.str (((h::(":":Str)::rest).drop 1).take 1)));have e1:upd H p (.lst (List.map V.str (((h::(":":Str)::rest).drop 1).take 1))) p=some (.lst [.str ":"]):=ae;generalize upd H p (.lst (List.map V.str (((h::(":":Str)::rest).drop 1).take 1)))=H1 at s1 e1 ng;have s2:=s1.trans (af ng (.lst [.str ":"]));have e2:=af ng (.lst [.str ":"]) _ _ e1;have e3:upd H1 p2 (.lst [.str ":"]) p2=some (.lst [.str ":"]):=ae;generalize upd H1 p2 (.lst [.str ":"])=H2 at s2 e2 e3;refine⟨p,p2,_,_,rfl,rfl,aH.of e2,aH.of e3,rfl,rfl,true,rfl,?_⟩;refine kC ?_;refine⟨_,rfl,W,_,_,_,rfl,rfl,s2.seq yL,nJ _ _,h,rfl,HH,λH3 s3=>?_⟩;have s4:=s2.trans s3;rw [hp];refine⟨_,rfl,?_⟩;refine kC ?_;refine⟨_,rfl,W,_,_,_,rfl,rfl,s4.seq yL,nJ _ _,h,rfl,HH,?_⟩;rw [ha];refine⟨_,rfl,_,rfl,?_⟩;refine kC ?_;refine⟨_,rfl,W,_,_,_,rfl,rfl,s4.seq yL,nJ _ _,_,rfl,2,rfl,W,_,rfl,s4.seq yL,λp3 Rv=>⟨_,rfl,?_⟩⟩;have s5:=s4.trans (af Rv (.lst (ff (List.map V.str (h::(":":Str)::rest)) (some 2) none)));have e5:upd H3 p3 (.lst (ff (List.map V.str (h::(":":Str)::rest)) (some 2) none)) p3=some (.lst (rest.map V.str)):=by
   rw [ae,show ((2:Int))=((2:Nat):Int) from rfl,oP];rfl
  generalize upd H3 p3 (.lst (ff (List.map V.str (h::(":":Str)::rest)) (some 2) none))=H5 at s5 e5;refine⟨h,p3,R,rest,rs,aa,rfl,aH.of e5,by simp at hl;omega,λz MZ=>hz z (bC _ (bC _ MZ)),s5 _ _ hR,cR.same s5,Ro,λe'=>(by rw [er] at e';cases e'),λQd e' Fu H' l2 sb wb qX=>?_⟩;rw [er] at e';cases e';exact q _ ss H' (λb o hb _ ho=>sb b o hb (s5 _ _ ho)) wb qX (sb _ _ Jp.symm (s5 _ _ OX)) ((xg.same s5).keep λ_ _ z=>sb.tup (s5 _ _ hR) z)
 | way z rest HH BQ hc hp =>
  have lr:(z::rest).length<=100000:=hl;rw [cX] at lr;have l0:0 < rest.length:=List.length_pos_iff.mpr BQ;refine⟨_,rfl,W,_,_,_,rfl,rfl,yL,nJ _ _,rfl,false,by rw [fN (λe=>Io z HH (V.str.inj e))],?_⟩;refine iW ?_;refine⟨_,rfl,1,rfl,2,rfl,W,_,rfl,yL,λp BR=>⟨BK,λp2 ng=>?_⟩⟩;rw [HX] at ng ⊢;have s1:=af BR (.lst (List.map V.str (((z::rest).drop 1).take 1)));have e1:upd H p (.lst (List.map V.str (((z::rest).drop 1).take 1))) p=some (.lst (List.map V.str (rest.take 1))):=ae;generalize upd H p (.lst (List.map V.str (((z::rest).drop 1).take 1)))=H1 at s1 e1 ng;have s2:=s1.trans (af ng (.lst [.str ":"]));have e2:=af ng (.lst [.str ":"]) _ _ e1;have e3:upd H1 p2 (.lst [.str ":"]) p2=some (.lst [.str ":"]):=ae;generalize upd H1 p2 (.lst [.str ":"])=H2 at s2 e2 e3;have ef:Gv (List.map V.str (rest.take 1)) [.str ":"]=false:=by
   cases rest with
   | nil=>rfl
   | cons a r =>
    show ((a == (":":Str)) && true)=false;rw [Bool.and_true,i3];exact λe=>hc (by rw [e];rfl)
  refine⟨p,p2,_,_,rfl,rfl,aH.of e2,aH.of e3,?_,rfl,false,by rw [ef],?_⟩
  .rw [gb];intro x hx;obtain⟨y,_,rfl⟩:=cA.mp hx;rfl
  refine iW ?_;refine⟨_,rfl,W,_,_,_,rfl,rfl,s2.seq yL,nJ _ _,aw,_,rfl,.inr (hS _),rfl,nofun,true,by rw [ax nofun,Ip z HH],?_⟩;refine kC ?_;refine⟨_,rfl,W,_,rfl,.inl (s2.seq yL),_,_,rfl,rfl,true,congrArg V.bl (dI (by rw [aB,cX];omega)),?_⟩;refine kC ?_;refine⟨_,rfl,1,rfl,W,_,rfl,s2.seq yL,λp3 Rv=>?_⟩;have s3:=s2.trans (af Rv (.lst (ff (List.map V.str (z::rest)) (some 1) none)));have e4:upd H2 p3 (.lst (ff (List.map V.str (z::rest)) (some 1) none)) p3=some (.lst (rest.map V.str)):=by
   rw [ae,show ((1:Int))=((1:Nat):Int) from rfl,oP];rfl
  generalize upd H2 p3 (.lst (ff (List.map V.str (z::rest)) (some 1) none))=H3 at s3 e4;refine⟨p3,rfl,⟨_,aH.of e4⟩,λD hD=>bT (xs:=rest.map V.str) (λi ys σ2 H4=>ys=(List.replicate i true).map V.bl/\(∃y0,σ2=[y0])/\aC H3 H4/\H4 D=some (.lst ys))
   ⟨rfl,⟨none,rfl⟩,af hD _,ae⟩ (λi ys σ2 H4 _ h=>h.2.2.1.seq (aH.of e4)) (λi x ys σ2 H4 ex h=>?_) (λys σ2 H4 h=>?_)⟩
  .obtain⟨rfl,⟨y0,rfl⟩,sm,hd⟩:=h;rw [bo] at ex;obtain⟨y,ey,rfl⟩:=cg.mp ex;have hm:=bZ ey;have li:=(bA.mp ey).1;refine goN (vb ?_);refine⟨_,rfl,y,rfl,hz y (bC _ hm),λH5 s5=>?_⟩;rw [hp y hm];refine⟨s5 _ _ hd,bF (by rw [aB,List.length_replicate];omega),by rw [List.replicate_succ',bw];rfl,⟨_,rfl⟩,λb o hb=>?_,ae⟩;rw [ai (λe=>by rw [e,hD] at hb;cases hb)];exact s5 _ _ (sm b o hb)
  obtain⟨rfl,_,sm,hd⟩:=h;have s6:=s3.trans sm;refine⟨D,_,rfl,aH.of hd,true,by rw [List.all_replicate];simp,?_⟩;refine kC ?_;refine⟨_,rfl,.inl ⟨rfl,_,aH.of (s6 _ _ OX)⟩,_,rfl,W,_,_,_,rfl,rfl,s6.seq yL,nJ _ _,_,rfl,1,rfl,W,_,rfl,s6.seq yL,λp4 YZ=>?_⟩;have s7:=s6.trans (af YZ (.lst (ff (List.map V.str (z::rest)) (some 1) none)));have e7:upd H4 p4 (.lst (ff (List.map V.str (z::rest)) (some 1) none)) p4=some (.lst (rest.map V.str)):=by
   rw [ae,show ((1:Int))=((1:Nat):Int) from rfl,oP];rfl
  generalize upd H4 p4 (.lst (ff (List.map V.str (z::rest)) (some 1) none))=H7 at s7 e7;refine⟨p4,_,rfl,.inl ⟨aH.of e7,λt ht=>⟨gE,λt2 g7=>?_⟩⟩⟩;have s8:=(af ht (.tup (rest.map V.str))).trans (af g7 (.tup [.str z,.ref t]));have t8:aW K (upd (upd H7 t (.tup (rest.map V.str))) t2 (.tup [.str z,.ref t])) t (rest.map V.str):=(af g7 (.tup [.str z,.ref t])).tup (aW.of ae);have t9:aW K (upd (upd H7 t (.tup (rest.map V.str))) t2 (.tup [.str z,.ref t])) t2 [.str z,.ref t]:=aW.of ae;generalize upd (upd H7 t (.tup (rest.map V.str))) t2 (.tup [.str z,.ref t])=H8 at s8 t8 t9;have s9:=s7.trans s8;have Ny:=s9 _ _ OX;refine⟨S,_,_,rfl,rfl,Ny,bF (by rw [aB];omega),?_⟩;refine q rs (ss++[t2]) _ (λb o _ hb ho=>by rw [ai hb];exact s9 _ _ ho) (by rw [ai Jp];exact s9 _ _ hR) ((cR.same s9).keep λ_ _ y=>aN Ny y) (by rw [ae,bw];rfl) ?_;exact fj ((xg.same s9).keep λ_ _ y=>aN Ny y) ⟨t,aN Ny t9,aN Ny t8⟩
end
end fh
namespace L2
open PySem PySem.Spec PyProof.Rows
def bK (z:Str):Str:=⟨(sg z).dropLast.toArray⟩
def oH (z:Str):sg (bK z)=(sg z).dropLast:=by simp [sg,bK]
def AF (n:Nat)(h:1<=n):Builtin.Str.strSliceIndices none (some (-1)) 1 n=List.range (n - 1):=by
 unfold Builtin.Str.strSliceIndices sliceRange;simp only [show (1:Int) > 0 by decide,if_true,show (-1:Int) < 0 by decide,Int.ediv_one];have e:(max 0 (min (-1+(n:Int)) (n:Int)))=((n - 1:Nat):Int):=by omega
 rw [e];by_cases c:n - 1=0
 .rw [c];rfl
 rw [av ∅];have e2:(((n - 1:Nat):Int) - 0+1 - 1).toNat=n - 1:=by omega
 rw [e2];have:∀k:Nat,((0:Int)+1 * (k:Int)).toNat=k:=λk=>by omega
 simp only [this,List.map_id']
def AE (l:List Nat) (m:Nat)(h:m<=l.length):(List.range m).filterMap (λi=>l[i]?)=l.take m:=by
 induction m with
 | zero=>simp
 | succ m ih =>
  have hm:m < l.length:=by omega
  rw [List.range_succ,List.filterMap_append,ih ∅,cP]
  congr 1
def vD {z:Str}(h:1<=z.length):tY z none (some (-1))=bK z:=by
 have e:slicePicked z (none:Option (Int×Tok)) (some (-1,0)) none=List.range (z.length - 1):=AF z.length h;unfold tY;rw [show (Option.map (λi:Int=>(i,(0:Tok))) none)=(none:Option (Int×Tok)) from rfl,show (Option.map (λi:Int=>(i,(0:Tok))) (some (-1)))=some (-1,0) from rfl,e,oS];rw [ax (by
  intro hb;have:=eq_of_beq hb;omega)]
 unfold bK sg
 congr 2
 rw [List.dropLast_eq_take,kR];have:=AE z.cps.toList (z.cps.size - 1) (by rw [kR];omega);rw [<-this];show List.filterMap _ (List.range (z.cps.size - 1))=_
 congr 1
 funext i
 simp
def lL {z:Str}:(bK z).length=z.length - 1:=by
 show (List.toArray _).size=z.cps.size - 1;rw [bO,List.length_dropLast];unfold sg;rw [kR]
end L2
namespace fh
open PySem L2 M11
def fc (p:Str):List au :=
 if (sg p).getLast?=some 42 then [(p,[]),(p,[p,bK p])]
 else if (sg p).getLast?=some 43 then [(p,[bK p]),(p,[p,bK p])]
 else [(p,[]),(p,[bK p])]
def IZ (p:Str):(fc p).length=2:=by
 unfold fc
 split
 .rfl
 split <;> rfl
def lE {p:Str}{ru:au}(h:ru∈fc p):ru.1=p:=by
 unfold fc at h
 split at h
 .rcases aQ.mp h with rfl | h
  .rfl
  rw [bx.mp h]
 split at h
 .rcases aQ.mp h with rfl | h
  .rfl
  rw [bx.mp h]
 rcases aQ.mp h with rfl | h
 .rfl
 rw [bx.mp h]
def uo {p x:Str}{ru:au}(h:ru∈fc p)(hx:x∈ru.2):x=p\/x=bK p:=by
 unfold fc at h
 split at h
 .rcases aQ.mp h with rfl | h
  .cases hx
  rw [bx.mp h] at hx;simpa using hx
 split at h
 .rcases aQ.mp h with rfl | h
  .exact .inr (by simpa using hx)
  rw [bx.mp h] at hx;simpa using hx
 rcases aQ.mp h with rfl | h
 .cases hx
 rw [bx.mp h] at hx;exact .inr (by simpa using hx)
def Fx {p:Str}{ru:au}(h:ru∈fc p):ru.2.length<=2:=by
 unfold fc at h
 split at h
 .rcases aQ.mp h with rfl | h
  .exact cT _
  rw [bx.mp h];exact aF _
 split at h
 .rcases aQ.mp h with rfl | h
  .exact ja _
  rw [bx.mp h];exact aF _
 rcases aQ.mp h with rfl | h
 .exact cT _
 rw [bx.mp h];exact ja _
def mS (s:List Str)(p:Str):List Str:=if (again p && decide (p∉s))=true then s++[p] else s
def pr (s:List Str) (ps:List Str):List Str:=ps.foldl mS s
def zT {s:List Str}{p x:Str}(h:x∈s):x∈mS s p:=by
 unfold mS
 split
 .exact jh _ h
 exact h
theorem CS:∀{ps s:List Str}{x:Str},x∈s->x∈pr s ps
 | [],_,_,h=>h
 | p::r,s,x,h=>CS (s:=mS s p) (ps:=r) (zT h)
def FD (s:List Str)(p:Str):s <+: mS s p:=by
 unfold mS
 split
 .exact List.prefix_append _ _
 exact o_ _
theorem uw:∀(ps s:List Str),s <+: pr s ps
 | [],s=>o_ _
 | p::r,s=>(FD s p).trans (uw r (mS s p))
def uv (s ps:List Str){i:Nat}{p:Str}(h:ps[i]?=some p):pr s (ps.take (i+1))=mS (pr s (ps.take i)) p:=by
 unfold pr;rw [cP,h,pd];rfl
def ux {s:List Str}{p:Str}(h:again p=true->p∈s):mS s p=s:=by
 unfold mS;rw [ax];intro c;rw [jf] at c;exact cK c.2 (h c.1)
theorem CU:∀{ps s:List Str}{p:Str},p∈ps->again p=true->p∈pr s ps
 | [],_,_,h,_=>by cases h
 | q::r,s,p,h,a=>by
  rcases aQ.mp h with rfl | h
  .refine CS (s:=mS s p) (ps:=r) ?_;unfold mS;by_cases c:p∈s
   .split
    .exact jh _ c
    exact c
   rw [av (by rw [a,dI c];rfl)];exact eX _ (bx.mpr rfl)
  exact CU (s:=mS s q) h a
theorem uu:∀{ps s:List Str},(∀p∈ps,again p=true->p∈s)->pr s ps=s
 | [],_,_=>rfl
 | q::r,s,h=>by
  show pr (mS s q) r=s;rw [ux (h q bp)];exact uu λp hp=>h p (bC _ hp)
theorem pU:∀{ps s:List Str}{x:Str},x∈pr s ps->x∈s\/(x∈ps/\again x=true/\x∉s)
 | [],_,_,h=>.inl h
 | q::r,s,x,h=>by
  have h:x∈pr (mS s q) r:=h;rcases pU h with h | ⟨h1,h2,h3⟩
  .unfold mS at h
   split at h
   .rename_i c
    rw [jf] at c;rcases bN.mp h with h | h
    .exact .inl h
    rw [bx.mp h];exact .inr ⟨bp,c.1,cK c.2⟩
   exact .inl h
  exact .inr ⟨bC _ h1,h2,λh=>h3 (zT h)⟩
theorem Hr:∀{ps s:List Str},s.Nodup->(pr s ps).Nodup
 | [],_,h=>h
 | q::r,s,h=>by
  refine Hr (s:=mS s q) (ps:=r) ?_;unfold mS
  split
  .rename_i c
   rw [jf] at c;rw [ik];refine⟨h,by simp,λa ha b hb e=>?_⟩;rw [bx.mp hb] at e;exact cK c.2 (e ▸ ha)
  exact h
def FE (s:List Str)(p:Str):(mS s p).length<=s.length+1:=by
 unfold mS
 split
 .rw [cu];exact aF _
 exact ja _
theorem CT:∀(ps s:List Str),(pr s ps).length<=s.length+ps.length
 | [],s=>aF _
 | q::r,s=>by
  have h:=CT r (mS s q);have h2:=FE s q;show (pr (mS s q) r).length<=s.length+(r.length+1);omega
def aA (r0:List au) (s:List Str):List au:=r0++s.flatMap fc
def gT (r0:List au) (s:List Str):(aA r0 s).length=r0.length+2 * s.length:=by
 unfold aA;rw [cu]
 congr 1
 induction s with
 | nil=>rfl
 | cons p r ih=>rw [List.flatMap_cons,cu,ih,IZ,cX];omega
def gp {r0:List au}{s s':List Str}(h:s <+: s'):aA r0 s <+: aA r0 s':=by
 obtain⟨t,rfl⟩:=h;unfold aA;rw [rm,<-gh];exact List.prefix_append _ _
def rM (r0:List au) (s:List Str)(p:Str):aA r0 (s++[p])=aA r0 s++fc p:=by
 unfold aA;rw [rm,<-gh]
 congr 1
 simp
def ur {α:Type}{l m:List α}(h:l <+: m){i:Nat}{x:α}(e:l[i]?=some x):m[i]?=some x:=by
 obtain⟨t,rfl⟩:=h;rw [oV (bA.mp e).1];exact e
def bW (r0:List au):Nat->List Str
 | 0=>[]
 | n+1=>match (aA r0 (bW r0 n))[n]? with
  | some ru=>pr (bW r0 n) ru.2
  | none=>bW r0 n
def dq {r0:List au}{n:Nat}{ru:au}(h:(aA r0 (bW r0 n))[n]?=some ru):bW r0 (n+1)=pr (bW r0 n) ru.2:=by
 show (match (aA r0 (bW r0 n))[n]? with | some ru=>pr (bW r0 n) ru.2 | none=>bW r0 n)=_
 rw [h]
def fM {r0:List au}{n:Nat}(h:(aA r0 (bW r0 n))[n]?=none):bW r0 (n+1)=bW r0 n:=by
 show (match (aA r0 (bW r0 n))[n]? with | some ru=>pr (bW r0 n) ru.2 | none=>bW r0 n)=_
 rw [h]
def En (r0:List au) (n:Nat):bW r0 n <+: bW r0 (n+1):=by
 cases h:(aA r0 (bW r0 n))[n]? with
 | none=>rw [fM h];exact o_ _
 | some ru=>rw [dq h];exact uw _ _
def fZ (r0:List au){i j:Nat}(h:i<=j):bW r0 i <+: bW r0 j:=by
 induction j with
 | zero=>rw [Nat.le_zero.mp h];exact o_ _
 | succ j ih =>
  by_cases c:i=j+1
  .rw [c];exact o_ _
  exact(ih ∅).trans (En r0 j)
def Ai {r0:List au}{n:Nat}(h:(aA r0 (bW r0 n)).length<=n):∀m,n<=m->bW r0 m=bW r0 n:=by
 intro m hm
 induction m with
 | zero=>rw [Nat.le_zero.mp hm]
 | succ m ih =>
  by_cases c:n=m+1
  .rw [c]
  have e:=ih ∅;rw [fM (by rw [e];exact tq ∅),e]
def qI {r0:List au}{n k:Nat}{ru:au}(hk:k < n)(h:(aA r0 (bW r0 n))[k]?=some ru){p:Str}(hp:p∈ru.2)(ha:again p=true):p∈bW r0 n:=by
 cases e:(aA r0 (bW r0 k))[k]? with
 | none =>
  have l:=xy.mp e;have e2:=Ai l n ∅;rw [e2,e] at h;cases h
 | some u6 =>
  have h2:=ur (gp (fZ r0 (show k<=n by omega))) e;rw [h] at h2;cases h2;have h3:p∈bW r0 (k+1):=by rw [dq e];exact CU hp ha
  exact(fZ r0 (show k+1<=n by omega)).subset h3
theorem zd (r0:List au):∀n,(bW r0 n).Nodup
 | 0=>jT
 | n+1=>by
  cases h:(aA r0 (bW r0 n))[n]? with
  | none=>rw [fM h];exact zd r0 n
  | some ru=>rw [dq h];exact Hr (zd r0 n)
theorem iH (r0:List au):∀n,∀p∈bW r0 n,again p=true
 | 0,p,h=>by cases h
 | n+1,p,h=>by
  cases e:(aA r0 (bW r0 n))[n]? with
  | none=>rw [fM e] at h;exact iH r0 n p h
  | some ru =>
   rw [dq e] at h;rcases pU h with h | h
   .exact iH r0 n p h
   exact h.2.1
theorem Ah {r0:List au}{m:Nat}(h:∀n,∀ru∈aA r0 (bW r0 n),ru.2.length<=m):∀n,(bW r0 n).length<=m * n
 | 0=>cT _
 | n+1=>by
  have ih:=Ah h n;cases e:(aA r0 (bW r0 n))[n]? with
  | none=>rw [fM e,Nat.mul_add];omega
  | some ru =>
   rw [dq e,Nat.mul_add];have h1:=CT ru.2 (bW r0 n);have h2:=h n ru (bZ e);omega
def Aj {r0:List au}{C:Str->Prop}(h0:∀ru∈r0,∀p∈ru.2,C p)(h1:∀p,again p=true->C p->C (bK p)):∀n,(∀p∈bW r0 n,C p)/\∀ru∈aA r0 (bW r0 n),∀p∈ru.2,C p:=by
 have rows:∀s:List Str,(∀p∈s,again p=true/\C p)->∀ru∈aA r0 s,∀p∈ru.2,C p:=by
  intro s hs ru eE p hp;rcases bN.mp eE with h | h
  .exact h0 ru h p hp
  obtain⟨q,hq,hr⟩:=gA.mp h;rcases uo hr hp with rfl | rfl
  .exact(hs _ hq).2
  exact h1 q (hs q hq).1 (hs q hq).2
 intro n
 induction n with
 | zero=>exact⟨λp h=>(by cases h),rows [] λp h=>(by cases h)⟩
 | succ n ih =>
  have a:∀p∈bW r0 (n+1),C p:=by
   cases e:(aA r0 (bW r0 n))[n]? with
   | none=>rw [fM e];exact ih.1
   | some ru =>
    rw [dq e];intro p hp;rcases pU hp with h | h
    .exact ih.1 p h
    exact ih.2 ru (bZ e) p h.1
  exact⟨a,rows _ λp hp=>⟨iH r0 _ p hp,a p hp⟩⟩
def dD (r0:List au):Nat->Nat
 | 0=>0
 | r+1=>(aA r0 (bW r0 (dD r0 r))).length
theorem nI (r0:List au):∀r,dD r0 r<=dD r0 (r+1)
 | 0=>cT _
 | r+1=>by
  show (aA r0 (bW r0 (dD r0 r))).length<=(aA r0 (bW r0 (dD r0 (r+1)))).length;exact(gp (fZ r0 (nI r0 r))).length_le
end fh
namespace L2
open PySem
def sq {K:aV}{H:Hp}{p D d:Addr}{zs:List Str}{kvs:List (aI×V)}{σ:St}{js:List (Nat×Str)}{Qp:Hp->Prop}(hσ:dO ["part"] js σ=[none,bz d])(hp:aW K H p (zs.map V.str))(hz:zs.length<=1000)
  (hd:H d=some (.dK kvs))(hD:H D=none)(q:∀H2,aC H H2->H2 D=some (.lst ((zs.map λz=>(aY kvs (Sum.inr z)).isSome).map V.bl))->Qp H2) :
  ∃W:Nat->Nat->List V->St->Hp->Prop,(∃m,W 0 m [] (dO ["part"] js σ) (upd H D (.lst []))) /\
 ∀i m ys σ' H,W i m ys σ' H->((qN K p).stop i H/\Qp H)\/((qN K p).go i H/\∃m',m' < m/\∀x H',(qN K p).mh i H x H'->dM 0 x σ' H' λσ2 H2=>ix σ2 H2 λb H3 =>
  if b=true then LO (fR 0) (fR 1) σ2 H3 λy H4=>H4 D=some (.lst ys)/\ys.length < sizeLine/\W (i+1) m' (ys++[y]) σ2 (upd H4 D (.lst (ys++[y]))) else W (i+1) m' ys σ2 H3):=by
 refine iG (xs:=zs.map V.str) (λi ys σ2 H2=>ys=(((zs.take i).map λz=>(aY kvs (Sum.inr z)).isSome).map V.bl)/\(∃y0,σ2=[y0,bz d])/\aC H H2/\H2 D=some (.lst ys))
  ⟨rfl,⟨none,hσ⟩,af hD _,ae⟩ (λi ys σ2 H2 _ h=>h.2.2.1.tup hp) (λi x ys σ2 H2 ex h=>?_) (λys σ2 H2 h=>?_)
 .obtain⟨rfl,⟨y0,rfl⟩,sm,hd2⟩:=h;rw [bo] at ex;obtain⟨z,ez,rfl⟩:=cg.mp ex;have li:=(bA.mp ez).1;refine goN (vb ?_);refine⟨_,rfl,_,rfl,d,_,rfl,bX.k (k:=Sum.inr z) (sm _ _ hd),hd2,bF (by rw [aB,aB,eV];omega),?_,⟨_,rfl⟩,?_,ae⟩
  .rw [cP,ez,bw,bw];rfl
  intro b o hb;rw [ai (λz=>by rw [z,hD] at hb;cases hb)];exact sm b o hb
 obtain⟨rfl,_,sm,hd2⟩:=h;rw [aB,cU] at hd2;exact q H2 sm hd2
def eI {K:aV}{H:Hp}{D a:Addr}{xs:List V}{ys:List (aI×V)}{o:HO}(hD:H D=some (.dK ys))(h:aW K H a xs):aW K (upd H D o) a xs:=by
 rcases h with (h | ⟨u,h⟩) | h
 .exact .inl (.inl (by rw [ai (λz=>by rw [z,hD] at h;cases h)];exact h))
 .exact .inl (.inr ⟨u,by rw [ai (λz=>by rw [z,hD] at h;cases h)];exact h⟩)
 exact .inr h
theorem eY {α:Type} [DecidableEq α]:∀(l m:List α),l.Nodup->(∀x∈l,x∈m)->l.length<=m.length
 | [],m,_,_=>cT _
 | a::l,m,hn,h=>by
  have hm:=h a bp;have:=eY l (m.erase a) (nQ.mp hn).2 λx hx=>(List.mem_erase_of_ne (λz:x=a=>(nQ.mp hn).1 (by rw [<-z];exact hx))).mpr (h x (bC _ hx));rw [List.length_erase_of_mem hm] at this;have:=List.length_pos_of_mem hm;rw [cX];omega
end L2
namespace M11
open PySem L2
inductive u4 (aa:List au):List (Str×Nat)->Prop
 | nil:u4 aa []
 | snoc {aX:List (Str×Nat)}{k:Nat}{ru:au}:u4 aa aX->aa[k]?=some ru->ru.1∉aX.map (·.1)->(∀p∈ru.2,p∈aX.map (·.1))->u4 aa (aX++[(ru.1,k)])
def wX (aa:List au) (n:Nat)(aX:List (Str×Nat)):Prop:=∀ru∈aa.take n,(∀p∈ru.2,p∈aX.map (·.1))->ru.1∈aX.map (·.1)
def u4.nd {aa:List au}{aX:List (Str×Nat)}(h:u4 aa aX):(aX.map (·.1)).Nodup:=by
 induction h with
 | nil=>exact jT
 | snoc h e n p ih =>
  rw [bw];refine ik.mpr ⟨ih,by simp,λa ha b hb=>?_⟩;rw [rj,bx] at hb;exact λz=>n (by rw [<-hb,<-z];exact ha)
def u4.head {aa:List au}{aX:List (Str×Nat)}(h:u4 aa aX):∀x∈aX.map (·.1),x∈aa.map (·.1):=by
 induction h with
 | nil=>simp
 | snoc h e n p ih =>
  intro x hx;rw [bw] at hx;rcases bN.mp hx with hx | hx
  .exact ih x hx
  rw [rj,bx] at hx;rw [hx];exact il (bZ e)
def u4.len {aa:List au}{aX:List (Str×Nat)}(h:u4 aa aX):aX.length<=aa.length:=by
 have:=eY _ _ h.nd h.head;rw [aB,aB] at this;exact this
end M11
namespace fh
open PySem L2 M11
section
def nN (K:aV)(H:Hp)(ts:List Addr)(aX:List (Str×Nat)):Prop:=Paired (λt (e:Str×Nat)=>aW K H t [.str e.1,.int (e.2:Int)]) ts aX
def nN.keep {H H':Hp}{ts:List Addr}{aX:List (Str×Nat)}(h:nN K H ts aX)(k:∀a xs,aW K H a xs->aW K H' a xs):nN K H' ts aX:=Paired.gy h λt e z=>k _ _ z
structure Ar (K:aV)(aa:List au)(H H5:Hp)(D d:Addr)(ts:List Addr)(aX:List (Str×Nat))(kvs:List (aI×V)):Prop where
 sm:aC H H5
 hD:H5 D=some (.lst (ts.map V.ref))
 hd:H5 d=some (.dK kvs)
 keys:kvs.map (·.1)=(aX.map (·.1)).map Sum.inr
 ev:nN K H5 ts aX
 emp:u4 aa aX
def Ar.same {aa:List au}{H H5 H6:Hp}{D d:Addr}{ts:List Addr}{aX:List (Str×Nat)}{kvs:List (aI×V)}(h:Ar K aa H H5 D d ts aX kvs)(s:aC H5 H6):Ar K aa H H6 D d ts aX kvs :=
 ⟨h.sm.trans s,s _ _ h.hD,s _ _ h.hd,h.keys,h.ev.keep λ_ _ z=>s.tup z,h.emp⟩
def Ar.mem {aa:List au}{H H5:Hp}{D d:Addr}{ts:List Addr}{aX:List (Str×Nat)}{kvs:List (aI×V)}(h:Ar K aa H H5 D d ts aX kvs)(z:Str):(aY kvs (Sum.inr z)).isSome=true↔z∈aX.map (·.1):=by
 rw [dB,h.keys];exact cv
def Ar.len {aa:List au}{H H5:Hp}{D d:Addr}{ts:List Addr}{aX:List (Str×Nat)}{kvs:List (aI×V)}(h:Ar K aa H H5 D d ts aX kvs):ts.length=aX.length/\kvs.length=aX.length:=by
 refine⟨a9 h.ev,?_⟩;have:=congrArg List.length h.keys;simpa using this
def Ar.more {aa:List au}{H H5:Hp}{D d t:Addr}{ts:List Addr}{aX:List (Str×Nat)}{kvs:List (aI×V)}(h:Ar K aa H H5 D d ts aX kvs)(fD:H D=none)(fd:H d=none){k:Nat}{ru:au}(e:aa[k]?=some ru)
  (n:ru.1∉aX.map (·.1))(p:∀x∈ru.2,x∈aX.map (·.1))(ht:upd H5 d (.dK (bj kvs (Sum.inr ru.1) (.bl true))) t=none) :
  Ar K aa H (upd (upd (upd H5 d (.dK (bj kvs (Sum.inr ru.1) (.bl true)))) t (.tup [.str ru.1,.int (k:Int)])) D (.lst (ts.map V.ref++[.ref t]))) D d (ts++[t]) (aX++[(ru.1,k)]) (bj kvs (Sum.inr ru.1) (.bl true)):=by
 have UD:D≠d:=λz=>by have:=h.hD;rw [z,h.hd] at this;cases this
 have nt:t≠d:=λz=>by rw [z,ae] at ht;cases ht
 have JK:H5 t=none:=by rw [ai nt] at ht;exact ht
 have XO:D≠t:=λz=>by rw [<-z,h.hD] at JK;cases JK
 have jM:upd (upd H5 d (.dK (bj kvs (Sum.inr ru.1) (.bl true)))) t (.tup [.str ru.1,.int (k:Int)]) D=some (.lst (ts.map V.ref)):=by rw [ai XO,ai UD];exact h.hD
 have kp:∀a xs,aW K H5 a xs->aW K (upd (upd (upd H5 d (.dK (bj kvs (Sum.inr ru.1) (.bl true)))) t (.tup [.str ru.1,.int (k:Int)])) D (.lst (ts.map V.ref++[.ref t]))) a xs:=λa xs z =>
  aN jM ((af ht _).tup (eI h.hd z))
 refine⟨λb o hb=>?_,by rw [ae,bw];rfl,by rw [ai UD.symm,ai nt.symm,ae],?_,fj (h.ev.keep kp) (aN jM (aW.of ae)),.snoc h.emp e n p⟩
 .have:=h.sm b o hb;rw [ai (λz=>by rw [z,fD] at hb;cases hb),ai (λz=>by rw [z,JK] at this;cases this),ai (λz=>by rw [z,fd] at hb;cases hb)];exact this
 rw [gI (by rw [h.keys];exact λz=>n (cv.mp z)),h.keys,bw,bw];rfl
def mP (K:aV):Sp:=λvs H Q _=>∃(R:Addr)(rs:List Addr)(aa:List au),vs=[.ref R]/\aH K H R (rs.map V.ref)/\aR K H rs aa/\aa.length<=1000/\(∀ru∈aa,ru.2.length<=8) /\
 ∀D ts aX H',H D=none->aC H H'->H' D=some (.lst (ts.map V.ref))->nN K H' ts aX->u4 aa aX->wX aa aa.length aX->Q (.ref D) H'
def fU:aK ["rules","told","empty","many","number","rule"] ["rules"] (az pT):=iL rfl rfl rfl rfl nofun
def yt (F:hZ K "found_empties" "found_empties" pT f fd)(T:Txt mg):bI P w K mg base e_ 1 f fd ["rules"] (mP K):=by
 refine F.ok fU (λvs H Q E h=>?_) (λdN A outer s H vs Q E hr h=>?_)
 .obtain⟨R,rs,aa,rfl,_⟩:=h;rfl
 obtain⟨R,rs,aa,rfl,hR,cR,bc,h8,q⟩:=h;have hu:=gu hr;refine⟨_,ak (aG (i:=1) fU.nd rfl (bJ rfl) (bD aj))
  (ak (aG (i:=2) fU.nd rfl (Or.inr rfl) fI)
  (ak (aG (i:=3) fU.nd rfl (bJ rfl) (iA fQ ar))
  (ak (gW cx (bU pX (pv 3) (bR cI rfl T.len gP (ab (pv 1) aj)) (bL _))
   (ak (aG (i:=3) fU.nd rfl (bJ rfl) (bR cI rfl T.len gP (ab (pv 1) aj)))
   (aq (b8 cx rfl (lG rfl T.E3 (ab (pv 0) aj)) (d8 rfl (aD (ay (i:=4) fU.nd rfl (bJ rfl)) (aD (ay (i:=5) fU.nd rfl (bJ rfl)) cb)))
    (aq (cW (PW.pt (iQ (d7 (di hu (aO cH (pv 5) ar (λ_ _=>rfl)) (pv 2)))
      (jK (iR (bR (nF rfl) rfl T.all boot_all (ab (bG ["part"] [(2,"empty")] rfl (gX (aO cH (pv 5) ar (λ_ _=>rfl))) (br rfl rfl) nofun rfl nofun
       (λ_ _ _ _ _=>ay (i:=0) (show (["part","empty"]:List Str).Nodup by decide +kernel) rfl (bJ rfl)) (λ_ _ _ _ _=>b_) (λ_ _ _ _ _=>C5 (mU hu (pv 0) (pv 1)))) aj))))))
     (ak (gJ hu (pv 2) (aO cH (pv 5) ar (λ_ _=>rfl)) fO rfl)
     (aq (cC (dJ gC iq ir cq (pv 1) (ab (aP (ab (aO cH (pv 5) ar (λ_ _=>rfl)) (ab (pv 4) aj))) aj))))) bB))))))
  (aq (a_ (pv 1)))))),?_⟩
 nofun
 refine⟨qQ,λD hD d hd=>?_⟩;have Mt:d≠D:=λz=>by rw [z,ae] at hd;cases hd
 have sh:H d=none:=by rw [ai Mt] at hd;exact hd
 have e0:Ar K aa H (upd (upd H D (.lst [])) d (.dK [])) D d [] [] []:=⟨(af hD _).trans (af hd _),by rw [ai Mt.symm,ae];rfl,ae,rfl,.nil,.nil⟩;generalize upd (upd H D (.lst [])) d (.dK [])=H0 at e0;refine⟨1,rfl,?_⟩;refine⟨λm σ H5=>∃(ts:List Addr)(aX:List (Str×Nat))(kvs:List (aI×V)) (many:Int)(y4 y5:Option V),σ=[bz R,bz D,bz d,some (.int many),y4,y5]/\Ar K aa H H5 D d ts aX kvs/\-1<=many/\many<=aX.length/\(many=aX.length->wX aa aa.length aX)/\(m:Int)=aa.length+1 - many,
  ⟨aa.length+2,[],[],[],-1,none,none,rfl,e0,∅,by simp,by simp,by simp;omega⟩,?_⟩
 rintro m σ H5 ⟨ts,aX,kvs,many,y4,y5,rfl,S,b1,b2,cl,em⟩;obtain⟨lt,lk⟩:=S.len;refine⟨_,rfl,_,rfl,D,_,rfl,.inl (aH.of S.hD),_,_,rfl,rfl,_,rfl,?_⟩;refine dj (λc=>?_) (λc=>?_)
 .have c':=cK c;rw [aB,lt] at c';refine⟨λσ H5=>∃(vx:List Addr)(gL:List (Str×Nat))(d6:List (aI×V))(y4 y5:Option V),σ=[bz R,bz D,bz d,some (.int (aX.length:Int)),y4,y5]/\Ar K aa H H5 D d vx gL d6/\aX.length<=gL.length/\(gL.length=aX.length->wX aa aa.length gL),?_,?_⟩
  .rintro σ H6 ⟨vx,gL,d6,y4,y5,rfl,S2,l2,c2⟩;have:=S2.emp.len;exact⟨(aa.length+1 - aX.length:Int).toNat,∅,vx,gL,d6,_,_,_,rfl,S2,∅,∅,λz=>c2 ∅,∅⟩
  refine⟨_,rfl,D,_,rfl,.inl (aH.of S.hD),?_⟩;rw [aB,lt];refine⟨_,rfl,R,_,rfl,S.sm.seq hR,?_⟩;refine jB (xs:=rs.map V.ref) (λi σ H6=>∃(vx:List Addr)(gL:List (Str×Nat))(d6:List (aI×V))(y4 y5:Option V),σ=[bz R,bz D,bz d,some (.int (aX.length:Int)),y4,y5]/\Ar K aa H H6 D d vx gL d6/\aX.length<=gL.length/\(gL.length=aX.length->wX aa i gL))
   ⟨ts,aX,kvs,_,_,rfl,S,aF _,λ_ ru eE=>by simp at eE⟩ ?_ ?_ ?_
  .rintro i σ H6 _ ⟨vx,gL,d6,y4,y5,rfl,S2,_⟩;exact S2.sm.seq hR
  .rintro i x σ H6 t ex ⟨vx,gL,d6,y4,y5,rfl,S2,l2,c2⟩ ht
   ac_nf0
   rw [bo] at ex;obtain⟨r,er,rfl⟩:=cg.mp ex;obtain⟨ru,e1,p,v1,v2⟩:=cR.get er;have La:=h8 ru (bZ e1);have S3:=S2.same (af ht (.tup [.int (i:Int),.ref r]));have K4:aW K (upd H6 t (.tup [.int (i:Int),.ref r])) t [.int (i:Int),.ref r]:=aW.of ae;generalize upd H6 t (.tup [.int (i:Int),.ref r])=H7 at S3 K4;obtain⟨lt2,OL⟩:=S3.len;have el2:=S3.emp.len;have tk:aa.take (i+1)=aa.take i++[ru]:=by rw [cP,e1];rfl
   have g6:(¬((∀p∈ru.2,p∈gL.map (·.1))/\ru.1∉gL.map (·.1)))->(gL.length=aX.length->wX aa (i+1) gL):=λhn z u6 v8 hp=>by
    rw [tk] at v8;rcases bN.mp v8 with h | h
    .exact c2 z u6 h hp
    rw [bx.mp h] at hp ⊢;exact tL λhc=>hn ⟨hp,hc⟩
   refine⟨t,_,rfl,K4,rfl,_,_,rfl,_,_,rfl,rfl,?_⟩;refine⟨_,rfl,r,_,_,_,rfl,rfl,S3.sm.tup v1,rfl,?_⟩;refine⟨_,rfl,d,_,rfl,bX.k (k:=Sum.inr ru.1) S3.hd,_,rfl,?_⟩;refine dj (λc3=>?_) (λc3=>?_)
   .have nm:ru.1∉gL.map (·.1):=λh=>by rw [(S3.mem _).mpr h] at c3;exact absurd c3 nofun
    refine⟨_,rfl,r,_,_,_,rfl,rfl,S3.sm.tup v1,rfl,p,rfl,⟨_,S3.sm.tup v2⟩,λD2 jM=>sq rfl (S3.sm.tup v2) ∅ S3.hd jM λH8 KS Nv=>?_⟩;have S4:=S3.same KS;refine⟨D2,_,rfl,aH.of Nv,_,rfl,?_⟩;refine dj (λc4=>?_) (λc4=>?_)
    .have al:∀x∈ru.2,x∈gL.map (·.1):=λx hx=>(S4.mem x).mp (gb.mp c4 _ (il hx));refine⟨_,rfl,_,rfl,r,_,_,_,rfl,rfl,S4.sm.tup v1,rfl,d,_,rfl,mf.k (k:=Sum.inr ru.1) S4.hd (bF ∅),?_⟩;have WB:aW K (upd H8 d (.dK (bj d6 (Sum.inr ru.1) (.bl true)))) r [.str ru.1,.ref p]:=eI S4.hd (S4.sm.tup v1);have J2:upd H8 d (.dK (bj d6 (Sum.inr ru.1) (.bl true))) D=some (.lst (vx.map V.ref)):=by rw [ai (λz=>by have:=S4.hD;rw [z,S4.hd] at this;cases this)];exact S4.hD
     refine⟨_,rfl,.inl ⟨rfl,_,aH.of J2⟩,_,rfl,r,_,_,_,rfl,rfl,WB,rfl,_,rfl,gE,λt2 g7=>?_⟩;refine⟨D,_,_,rfl,rfl,(by rw [ai (ao J2 g7)];exact J2),bF (by rw [aB];omega),?_⟩;have S5:=S4.more hD sh e1 nm al g7;exact⟨vx++[t2],gL++[(ru.1,i)],_,_,_,rfl,S5,by rw [cu];omega,λz=>by rw [cu] at z;simp at z;omega⟩
    refine⟨vx,gL,d6,_,_,rfl,S4,l2,g6 λ⟨ha,_⟩=>c4 (gb.mpr λb hb=>?_)⟩;obtain⟨x,hx,rfl⟩:=cA.mp hb;exact(S4.mem x).mpr (ha x hx)
   refine⟨vx,gL,d6,_,_,rfl,S3,l2,g6 λ⟨_,hn⟩=>c3 ?_⟩;cases hq:(aY d6 (Sum.inr ru.1)).isSome with
   | true=>exact absurd ((S3.mem _).mp hq) hn
   | false=>rfl
  rintro σ H6 ⟨vx,gL,d6,y4,y5,rfl,S2,l2,c2⟩;rw [aB,a9 cR] at c2;exact⟨vx,gL,d6,_,_,rfl,S2,l2,c2⟩
 have c':=of_decide_eq_false (nS.mpr c);rw [aB,lt] at c';exact⟨_,rfl,q D ts aX H5 hD S.sm S.hD S.ev S.emp (cl ∅)⟩
end
abbrev P4:Stmt:=top 49
section
def Fh (K:aV):Sp:=λvs H Q _=>∃p:Str,vs=[.str p]/\1<=p.length/\p.length<=sizeLine/\∀(L r1 r2:Addr)(H':Hp),H L=none->aC H H'->H' L=some (.lst [.ref r1,.ref r2])->aR K H' [r1,r2] (fc p)->Q (.ref L) H'
def rV {H:Hp}{t1 r1 t2 r2 L:Addr}{p:Str}{a b:List Str}(h1:H t1=none)(h2:upd H t1 (.tup (a.map V.str)) r1=none)(h3:upd (upd H t1 (.tup (a.map V.str))) r1 (.tup [.str p,.ref t1]) t2=none)(h4:upd (upd (upd H t1 (.tup (a.map V.str))) r1 (.tup [.str p,.ref t1])) t2 (.tup (b.map V.str)) r2=none)(h5:upd (upd (upd (upd H t1 (.tup (a.map V.str))) r1 (.tup [.str p,.ref t1])) t2 (.tup (b.map V.str))) r2 (.tup [.str p,.ref t2]) L=none) :
  aC H (upd (upd (upd (upd (upd H t1 (.tup (a.map V.str))) r1 (.tup [.str p,.ref t1])) t2 (.tup (b.map V.str))) r2 (.tup [.str p,.ref t2])) L (.lst [.ref r1,.ref r2])) /\
  upd (upd (upd (upd (upd H t1 (.tup (a.map V.str))) r1 (.tup [.str p,.ref t1])) t2 (.tup (b.map V.str))) r2 (.tup [.str p,.ref t2])) L (.lst [.ref r1,.ref r2]) L=some (.lst [.ref r1,.ref r2]) /\
  aR K (upd (upd (upd (upd (upd H t1 (.tup (a.map V.str))) r1 (.tup [.str p,.ref t1])) t2 (.tup (b.map V.str))) r2 (.tup [.str p,.ref t2])) L (.lst [.ref r1,.ref r2])) [r1,r2] [(p,a),(p,b)]/\H L=none:=by
 have s1:=af h1 (.tup (a.map V.str));have s2:=af h2 (.tup [.str p,.ref t1]);have s3:=af h3 (.tup (b.map V.str));have s4:=af h4 (.tup [.str p,.ref t2]);have s5:=af h5 (.lst [.ref r1,.ref r2]);have W7:=s1.trans (s2.trans (s3.trans (s4.trans s5)));refine⟨W7,ae,.cons ⟨t1,(s3.trans (s4.trans s5)).tup (aW.of ae),(s2.trans (s3.trans (s4.trans s5))).tup (aW.of ae)⟩ (.cons ⟨t2,s5.tup (aW.of ae),(s4.trans s5).tup (aW.of ae)⟩ .nil),?_⟩;cases e:H L with
 | none=>rfl
 | some o=>rw [(s1.trans (s2.trans (s3.trans s4))) _ _ e] at h5;cases h5
def mW {p:Str}(h:1<=p.length):∃x,(sg p).getLast?=some x:=by
 cases e:(sg p).getLast? with
 | some x=>exact⟨x,rfl⟩
 | none =>
  have e2:p.cps.toList=[]:=tN.mp e;have e3:p.length=0:=by show p.cps.size=0;rw [<-kR,e2];rfl
  omega
def uz {x y:Nat}(c:decide (V.str ⟨#[x]⟩=V.str ⟨#[y]⟩)=true):some x=some y:=by
 have h:=cK c;have h2:(⟨#[x]⟩:Str)=⟨#[y]⟩:=V.str.inj h;have h3:(#[x]:Array Nat)=#[y]:=congrArg Str.cps h2;have h4:[x]=[y]:=congrArg Array.toList h3;rw [(List.cons.inj h4).1]
def uA {x y:Nat}(c:some x=some y):decide (V.str ⟨#[x]⟩=V.str ⟨#[y]⟩)=true:=by
 rw [f_ c];exact dI rfl
def LX:aK ["part","once"] ["part"] (az P4):=iL rfl rfl rfl rfl nofun
def Ml (F:hZ K "rules_again" "rules_again" P4 f fd):bI P w K mg base e_ 1 f fd ["part"] (Fh K):=by
 refine F.ok LX (λvs H Q E h=>?_) (λdN A outer s H vs Q E hr h=>?_)
 .obtain⟨p,rfl,_⟩:=h;rfl
 obtain⟨p,rfl,BR,hp,q⟩:=h;refine⟨_,@ak _ _ _ _ _ (@aG _ _ 1 _ _ _ _ LX.nd rfl (bJ rfl) (@de _ _ _ _ _ _ _ _ _ _ oG (pv 0) (@gK _) (@cY _ _ _ (iA fQ (@ar _ _ _ _)))) rfl (.inr rfl))
  (@ak _ _ _ _ _ (@cW _ _ _ _ _ _ _ _ (bU n_ (@aO _ _ _ _ _ _ _ jz (pv 0) (iA fQ (@ar _ _ _ _)) (λ_ _=>rfl)) (@cm _ _ _ _) (bL _))
  (@aq _ _ _ (@a_ _ _ _ _ (@bD _ _ _ _ (@ab _ _ _ _ _ (@aP _ _ _ _ _ (@ab _ _ _ _ _ (pv 0) (@ab _ _ _ _ _ (@aP _ _ _ _ _ (@aj _)) (@aj _) rfl) rfl)) (@ab _ _ _ _ _ (@aP _ _ _ _ _ (@ab _ _ _ _ _ (pv 0) (@ab _ _ _ _ _ (@aP _ _ _ _ _ (@ab _ _ _ _ _ (pv 0) (@ab _ _ _ _ _ (pv 1) (@aj _) rfl) rfl)) (@aj _) rfl) rfl)) (@aj _) rfl) rfl)))) bB)
  (@ak _ _ _ _ _ (@cW _ _ _ _ _ _ _ _ (bU n_ (@aO _ _ _ _ _ _ _ jz (pv 0) (iA fQ (@ar _ _ _ _)) (λ_ _=>rfl)) (@cm _ _ _ _) (bL _))
  (@aq _ _ _ (@a_ _ _ _ _ (@bD _ _ _ _ (@ab _ _ _ _ _ (@aP _ _ _ _ _ (@ab _ _ _ _ _ (pv 0) (@ab _ _ _ _ _ (@aP _ _ _ _ _ (@ab _ _ _ _ _ (pv 1) (@aj _) rfl)) (@aj _) rfl) rfl)) (@ab _ _ _ _ _ (@aP _ _ _ _ _ (@ab _ _ _ _ _ (pv 0) (@ab _ _ _ _ _ (@aP _ _ _ _ _ (@ab _ _ _ _ _ (pv 0) (@ab _ _ _ _ _ (pv 1) (@aj _) rfl) rfl)) (@aj _) rfl) rfl)) (@aj _) rfl) rfl)))) bB)
  (@aq _ _ _ (@a_ _ _ _ _ (@bD _ _ _ _ (@ab _ _ _ _ _ (@aP _ _ _ _ _ (@ab _ _ _ _ _ (pv 0) (@ab _ _ _ _ _ (@aP _ _ _ _ _ (@aj _)) (@aj _) rfl) rfl)) (@ab _ _ _ _ _ (@aP _ _ _ _ _ (@ab _ _ _ _ _ (pv 0) (@ab _ _ _ _ _ (@aP _ _ _ _ _ (@ab _ _ _ _ _ (pv 1) (@aj _) rfl)) (@aj _) rfl) rfl)) (@aj _) rfl) rfl)))))) , ?_⟩
 obtain⟨x,ex⟩:=mW BR;have KC:jD p.cps.toList (-1)=some x:=by
  obtain⟨l,el⟩:=vk.mp ex;rw [show p.cps.toList=l++[x] from el];exact iI _ _
 refine⟨_,rfl,1,rfl,_,rfl,p,rfl,hp,?_⟩;rw [vD BR];refine⟨_,rfl,1,rfl,p,-1,x,rfl,rfl,hp,KC,rfl,_,rfl,?_⟩;refine dj (λc=>?_) (λc=>?_)
 .have c1:(sg p).getLast?=some 42:=by rw [ex];exact uz (y:=42) c
  refine⟨_,rfl,qQ,λt1 h1=>⟨gE,λr1 h2=>?_⟩⟩;refine⟨_,rfl,_,rfl,_,rfl,gE,λt2 h3=>⟨gE,λr2 h4=>⟨gE,λL h5=>?_⟩⟩⟩;obtain⟨a1,a2,a3,a4⟩:=rV (K:=K) (p:=p) (a:=[]) (b:=[p,bK p]) h1 h2 h3 h4 h5;exact q L r1 r2 _ a4 a1 a2 (by unfold fc;rw [av c1];exact a3)
 have c1:(sg p).getLast?≠some 42:=by rw [ex];exact λe=>c (uA e)
 refine⟨_,rfl,1,rfl,p,-1,x,rfl,rfl,hp,KC,rfl,_,rfl,?_⟩;refine dj (λc=>?_) (λc=>?_)
 .have c2:(sg p).getLast?=some 43:=by rw [ex];exact uz (y:=43) c
  refine⟨_,rfl,_,rfl,BK,λt1 h1=>⟨gE,λr1 h2=>?_⟩⟩;refine⟨_,rfl,_,rfl,_,rfl,gE,λt2 h3=>⟨gE,λr2 h4=>⟨gE,λL h5=>?_⟩⟩⟩;obtain⟨a1,a2,a3,a4⟩:=rV (K:=K) (p:=p) (a:=[bK p]) (b:=[p,bK p]) h1 h2 h3 h4 h5;exact q L r1 r2 _ a4 a1 a2 (by unfold fc;rw [ax c1,av c2];exact a3)
 have c2:(sg p).getLast?≠some 43:=by rw [ex];exact λe=>c (uA e)
 refine⟨_,rfl,qQ,λt1 h1=>⟨gE,λr1 h2=>?_⟩⟩;refine⟨_,rfl,_,rfl,BK,λt2 h3=>⟨gE,λr2 h4=>⟨gE,λL h5=>?_⟩⟩⟩;obtain⟨a1,a2,a3,a4⟩:=rV (K:=K) (p:=p) (a:=[]) (b:=[bK p]) h1 h2 h3 h4 h5;exact q L r1 r2 _ a4 a1 a2 (by unfold fc;rw [ax c1,ax c2];exact a3)
end
abbrev IQ:Stmt:=top 56
section
def Hj:aK ["_law_part_here","_law_once"] ["_law_part_here"] (az IQ):=iL rfl rfl rfl rfl nofun
def Dk (F:hZ K "_law_again" "_law_again" IQ f fd):bI P w K mg base e_ 1 f fd ["_law_part_here"] (Fh K):=by
 refine F.ok Hj (λvs H Q E h=>?_) (λdN A outer s H vs Q E hr h=>?_)
 .obtain⟨p,rfl,_⟩:=h;rfl
 obtain⟨p,rfl,BR,hp,q⟩:=h;refine⟨_,@ak _ _ _ _ _ (@aG _ _ 1 _ _ _ _ Hj.nd rfl (bJ rfl) (@de _ _ _ _ _ _ _ _ _ _ oG (pv 0) (@gK _) (@cY _ _ _ (iA fQ (@ar _ _ _ _)))) rfl (.inr rfl))
  (@ak _ _ _ _ _ (@cW _ _ _ _ _ _ _ _ (bU n_ (@aO _ _ _ _ _ _ _ jz (pv 0) (iA fQ (@ar _ _ _ _)) (λ_ _=>rfl)) (@cm _ _ _ _) (bL _))
  (@aq _ _ _ (@a_ _ _ _ _ (@bD _ _ _ _ (@ab _ _ _ _ _ (@aP _ _ _ _ _ (@ab _ _ _ _ _ (pv 0) (@ab _ _ _ _ _ (@aP _ _ _ _ _ (@aj _)) (@aj _) rfl) rfl)) (@ab _ _ _ _ _ (@aP _ _ _ _ _ (@ab _ _ _ _ _ (pv 0) (@ab _ _ _ _ _ (@aP _ _ _ _ _ (@ab _ _ _ _ _ (pv 0) (@ab _ _ _ _ _ (pv 1) (@aj _) rfl) rfl)) (@aj _) rfl) rfl)) (@aj _) rfl) rfl)))) bB)
  (@ak _ _ _ _ _ (@cW _ _ _ _ _ _ _ _ (bU n_ (@aO _ _ _ _ _ _ _ jz (pv 0) (iA fQ (@ar _ _ _ _)) (λ_ _=>rfl)) (@cm _ _ _ _) (bL _))
  (@aq _ _ _ (@a_ _ _ _ _ (@bD _ _ _ _ (@ab _ _ _ _ _ (@aP _ _ _ _ _ (@ab _ _ _ _ _ (pv 0) (@ab _ _ _ _ _ (@aP _ _ _ _ _ (@ab _ _ _ _ _ (pv 1) (@aj _) rfl)) (@aj _) rfl) rfl)) (@ab _ _ _ _ _ (@aP _ _ _ _ _ (@ab _ _ _ _ _ (pv 0) (@ab _ _ _ _ _ (@aP _ _ _ _ _ (@ab _ _ _ _ _ (pv 0) (@ab _ _ _ _ _ (pv 1) (@aj _) rfl) rfl)) (@aj _) rfl) rfl)) (@aj _) rfl) rfl)))) bB)
  (@aq _ _ _ (@a_ _ _ _ _ (@bD _ _ _ _ (@ab _ _ _ _ _ (@aP _ _ _ _ _ (@ab _ _ _ _ _ (pv 0) (@ab _ _ _ _ _ (@aP _ _ _ _ _ (@aj _)) (@aj _) rfl) rfl)) (@ab _ _ _ _ _ (@aP _ _ _ _ _ (@ab _ _ _ _ _ (pv 0) (@ab _ _ _ _ _ (@aP _ _ _ _ _ (@ab _ _ _ _ _ (pv 1) (@aj _) rfl)) (@aj _) rfl) rfl)) (@aj _) rfl) rfl)))))) , ?_⟩
 obtain⟨x,ex⟩:=mW BR;have KC:jD p.cps.toList (-1)=some x:=by
  obtain⟨l,el⟩:=vk.mp ex;rw [show p.cps.toList=l++[x] from el];exact iI _ _
 refine⟨_,rfl,1,rfl,_,rfl,p,rfl,hp,?_⟩;rw [vD BR];refine⟨_,rfl,1,rfl,p,-1,x,rfl,rfl,hp,KC,rfl,_,rfl,?_⟩;refine dj (λc=>?_) (λc=>?_)
 .have c1:(sg p).getLast?=some 42:=by rw [ex];exact uz (y:=42) c
  refine⟨_,rfl,qQ,λt1 h1=>⟨gE,λr1 h2=>?_⟩⟩;refine⟨_,rfl,_,rfl,_,rfl,gE,λt2 h3=>⟨gE,λr2 h4=>⟨gE,λL h5=>?_⟩⟩⟩;obtain⟨a1,a2,a3,a4⟩:=rV (K:=K) (p:=p) (a:=[]) (b:=[p,bK p]) h1 h2 h3 h4 h5;exact q L r1 r2 _ a4 a1 a2 (by unfold fc;rw [av c1];exact a3)
 have c1:(sg p).getLast?≠some 42:=by rw [ex];exact λe=>c (uA e)
 refine⟨_,rfl,1,rfl,p,-1,x,rfl,rfl,hp,KC,rfl,_,rfl,?_⟩;refine dj (λc=>?_) (λc=>?_)
 .have c2:(sg p).getLast?=some 43:=by rw [ex];exact uz (y:=43) c
  refine⟨_,rfl,_,rfl,BK,λt1 h1=>⟨gE,λr1 h2=>?_⟩⟩;refine⟨_,rfl,_,rfl,_,rfl,gE,λt2 h3=>⟨gE,λr2 h4=>⟨gE,λL h5=>?_⟩⟩⟩;obtain⟨a1,a2,a3,a4⟩:=rV (K:=K) (p:=p) (a:=[bK p]) (b:=[p,bK p]) h1 h2 h3 h4 h5;exact q L r1 r2 _ a4 a1 a2 (by unfold fc;rw [ax c1,av c2];exact a3)
 have c2:(sg p).getLast?≠some 43:=by rw [ex];exact λe=>c (uA e)
 refine⟨_,rfl,qQ,λt1 h1=>⟨gE,λr1 h2=>?_⟩⟩;refine⟨_,rfl,_,rfl,BK,λt2 h3=>⟨gE,λr2 h4=>⟨gE,λL h5=>?_⟩⟩⟩;obtain⟨a1,a2,a3,a4⟩:=rV (K:=K) (p:=p) (a:=[]) (b:=[bK p]) h1 h2 h3 h4 h5;exact q L r1 r2 _ a4 a1 a2 (by unfold fc;rw [ax c1,ax c2];exact a3)
end
abbrev yb:Stmt:=top 48
theorem iT {α β:Type}{F:α->β->Prop}:∀{xs:List α}{ys:List β}{BM:List α}{Lw:List β},Paired F xs ys->Paired F BM Lw->Paired F (xs++BM) (ys++Lw)
 | _,_,_,_,.nil,h=>h
 | _,_,_,_,.cons a t,h=>.cons a (iT t h)
section
structure B4 (K:aV)(r0:List au)(H H5:Hp)(E0 d:Addr) (s:List Str)(es:List Addr)(kvs:List (aI×V)):Prop where
 sm:aC H H5
 hE:H5 E0=some (.lst (es.map V.ref))
 rl:aR K H5 es (aA r0 s)
 hd:H5 d=some (.dK kvs)
 keys:kvs.map (·.1)=s.map Sum.inr
def B4.mem {r0:List au}{H H5:Hp}{E0 d:Addr}{s:List Str}{es:List Addr}{kvs:List (aI×V)}(h:B4 K r0 H H5 E0 d s es kvs)(z:Str):(aY kvs (Sum.inr z)).isSome=true↔z∈s:=by
 rw [dB,h.keys];exact cv
theorem B4.same {r0:List au}{H H5 H6:Hp}{E0 d:Addr}{s:List Str}{es:List Addr}{kvs:List (aI×V)}(h:B4 K r0 H H5 E0 d s es kvs)(k:aC H5 H6):B4 K r0 H H6 E0 d s es kvs :=
 ⟨h.sm.trans k,k _ _ h.hE,h.rl.same k,k _ _ h.hd,h.keys⟩
def B4.more {r0:List au}{H H5 H6:Hp}{E0 d r1 r2:Addr}{s:List Str}{es:List Addr}{kvs:List (aI×V)}{p:Str}(h:B4 K r0 H H5 E0 d s es kvs)(fE:H E0=none)(fd:H d=none)(n:p∉s)
  (k:aC (upd H5 d (.dK (bj kvs (Sum.inr p) (.bl true)))) H6)(rl:aR K H6 [r1,r2] (fc p)) :
  H6 E0=some (.lst (es.map V.ref))/\B4 K r0 H (upd H6 E0 (.lst (es.map V.ref++[.ref r1,.ref r2]))) E0 d (s++[p]) (es++[r1,r2]) (bj kvs (Sum.inr p) (.bl true)):=by
 have OJ:E0≠d:=λz=>by have:=h.hE;rw [z,h.hd] at this;cases this
 have e6:H6 E0=some (.lst (es.map V.ref)):=k _ _ (by rw [ai OJ];exact h.hE);have kp:∀a xs,aW K H5 a xs->aW K (upd H6 E0 (.lst (es.map V.ref++[.ref r1,.ref r2]))) a xs:=λa xs z=>aN e6 (k.tup (eI h.hd z));refine⟨e6,λb o hb=>?_,by rw [ae,bw];rfl,?_,by rw [ai OJ.symm];exact k _ _ ae,?_⟩
 .rw [ai (λz=>by rw [z,fE] at hb;cases hb)];exact k _ _ (by rw [ai (λz=>by rw [z,fd] at hb;cases hb)];exact h.sm b o hb)
 .rw [rM];exact iT (h.rl.keep kp) (rl.keep λa xs z=>aN e6 z)
 rw [gI (by rw [h.keys];exact λz=>n (cv.mp z)),h.keys,bw];rfl
def vC (K:aV):Sp:=λvs H Q _=>∃(R:Addr)(rs:List Addr)(aa:List au) (n:Nat),vs=[.ref R]/\aH K H R (rs.map V.ref)/\aR K H rs aa/\(aA aa (bW aa n)).length<=n/\n<=100000/\(∀ru∈aA aa (bW aa n),∀p∈ru.2,p.length<=1000) /\
 ∀(E':Addr)(es:List Addr)(H':Hp),aC H H'->H' E'=some (.lst (es.map V.ref))->aR K H' es (aA aa (bW aa n))->H E'=none->Q (.ref E') H'
def jJ:aK ["rules","every","added","at","part"] ["rules"] (az yb):=iL rfl rfl rfl rfl nofun
def AO (F:hZ K "with_added_rules" "with_added_rules" yb f fd)(T:Txt mg)(GA:aE P w K mg base 1 "comes_again" ["part"] tU)(GR:aE P w K mg base 1 "rules_again" ["part"] (Fh K)):bI P w K mg base e_ 2 f fd ["rules"] (vC K):=by
 refine F.ok jJ (λvs H Q E h=>?_) (λdN A outer s H vs Q E hr h=>?_)
 .obtain⟨R,rs,aa,n,rfl,_⟩:=h;rfl
 obtain⟨R,rs,aa,n,rfl,hR,cR,hn,Vc,hp,q⟩:=h;have hu:=gu hr;refine⟨_,ak (aG (i:=1) jJ.nd rfl (bJ rfl) (a7 fJ rfl T.lst fK (ab (pv 0) aj)))
  (ak (aG (i:=2) jJ.nd rfl (bJ rfl) fI)
  (ak (aG (i:=3) jJ.nd rfl (bJ rfl) ar)
  (ak (gW cx (bU pX (pv 3) (bR cI rfl T.len gP (ab (pv 1) aj)) (bL _))
   (ak (b8 cx rfl (gX (aO cH (aO aS (pv 1) (pv 3) (λ_ _=>rfl)) ar (λ_ _=>rfl))) (ay (i:=4) jJ.nd rfl (bJ rfl))
    (aq (cW (PW.pt (iQ (iR (bE GA hr rfl (ab (pv 4) aj))) (jK (d7 (di hu (pv 4) (pv 2)))))) (ak (gJ hu (pv 2) (pv 4) fO rfl) (aq (cC (dJ gC xw xx mV (pv 1) (ab (bE GR hr rfl (ab (pv 4) aj)) aj))))) bB)))
   (aq (CP (i:=3) jJ.nd rfl (bJ rfl) ar DJ))))
  (aq (a_ (pv 1)))))),?_⟩
 dsimp only [qx];refine⟨_,rfl,R,_,rfl,.inl hR,λE0 R8 d hd=>?_⟩;have Mt:d≠E0:=λz=>by rw [z,ae] at hd;cases hd
 have vd:H d=none:=by rw [ai Mt] at hd;exact hd
 have s0:aC H (upd (upd H E0 (.lst (rs.map V.ref))) d (.dK [])):=(af R8 _).trans (af hd _);have S0:B4 K aa H (upd (upd H E0 (.lst (rs.map V.ref))) d (.dK [])) E0 d [] rs []:=⟨s0,by rw [ai Mt.symm,ae],by rw [show aA aa []=aa by unfold aA;simp];exact cR.same s0,ae,rfl⟩;generalize upd (upd H E0 (.lst (rs.map V.ref))) d (.dK [])=H0 at S0;have big:∀a,a<=n->(aA aa (bW aa a)).length<=n:=λa ha=>cO (gp (fZ aa ha)).length_le hn;refine⟨λm σ H5=>∃(a:Nat)(es:List Addr)(kvs:List (aI×V))(y:Option V),σ=[bz R,bz E0,bz d,some (.int (a:Int)),y]/\B4 K aa H H5 E0 d (bW aa a) es kvs/\a<=n/\m=n - a,⟨n,0,rs,[],none,rfl,S0,cT _,rfl⟩,?_⟩;rintro m σ H5 ⟨a,es,kvs,y,rfl,S,ha,rfl⟩;have OM:=a9 S.rl;refine⟨_,rfl,_,rfl,E0,_,rfl,.inl (aH.of S.hE),_,_,rfl,rfl,_,rfl,?_⟩;refine dj (λc=>?_) (λc=>?_)
 .have c':=cK c;rw [aB] at c';have la:a < es.length:=by omega
  have UP:a < n:=by have:=big a ha;omega
  obtain⟨r,er⟩:∃r,es[a]?=some r:=⟨es[a],cQ la⟩;obtain⟨ru,e1,p,v1,v2⟩:=S.rl.get er;have YY:∀z∈ru.2,z.length<=1000:=hp ru ((gp (fZ aa ha)).subset (bZ e1));have bc:∀i,(aA aa (pr (bW aa a) (ru.2.take i))).length<=n:=λi=>by
   refine cO (gp (s':=bW aa (a+1)) ?_).length_le (big (a+1) UP);rw [dq e1]
   conv=>rhs;rw [<-vh i ru.2]
   unfold pr;rw [pd];exact uw _ _
  refine⟨λσ H6=>∃(es:List Addr)(kvs:List (aI×V))(y:Option V),σ=[bz R,bz E0,bz d,some (.int ((a+1:Nat):Int)),y]/\B4 K aa H H6 E0 d (bW aa (a+1)) es kvs,?_,?_⟩
  .rintro σ H6 ⟨es,kvs,y,rfl,S6⟩;exact⟨n - (a+1),∅,a+1,es,kvs,y,rfl,S6,UP,rfl⟩
  refine⟨_,rfl,_,rfl,E0,_,_,.ref r,rfl,rfl,aH.of S.hE,cw (by rw [bo,er];rfl),r,_,_,_,rfl,rfl,v1,rfl,p,rfl,⟨_,v2⟩,oN (xs:=ru.2.map V.str) (λi σ H6=>(∃(es:List Addr)(kvs:List (aI×V))(y:Option V),σ=[bz R,bz E0,bz d,some (.int (a:Int)),y]/\B4 K aa H H6 E0 d (pr (bW aa a) (ru.2.take i)) es kvs)/\aW K H6 p (ru.2.map V.str)) ⟨⟨es,kvs,y,rfl,S⟩,v2⟩ ?_ ?_ ?_⟩
  .rintro i σ H6 _ ⟨_,t6⟩;exact t6
  .rintro i x σ H6 ex ⟨⟨es,kvs,y,rfl,S6⟩,t6⟩;rw [bo] at ex;obtain⟨z,ez,rfl⟩:=cg.mp ex;have z1:=YY z (bZ ez);have le6:=a9 S6.rl;have UM:kvs.length=(pr (bW aa a) (ru.2.take i)).length:=by have:=congrArg List.length S6.keys;simpa using this
   have b6:=bc i;have r6:=gT aa (pr (bW aa a) (ru.2.take i));rw [uv _ _ ez];have Gg:=bc (i+1);rw [uv _ _ ez] at Gg;refine goN ?_;refine⟨_,rfl,z,rfl,fits ∅,_,rfl,?_⟩;refine dj (λca=>?_) (λca=>?_)
   .refine⟨_,rfl,_,rfl,d,_,rfl,bX.k (k:=Sum.inr z) S6.hd,_,rfl,?_⟩;refine dj (λcd=>?_) (λcd=>?_)
    .have nz:z∉pr (bW aa a) (ru.2.take i):=λh=>by rw [(S6.mem z).mpr h] at cd;exact absurd cd nofun
     have e7:mS (pr (bW aa a) (ru.2.take i)) z=pr (bW aa a) (ru.2.take i)++[z]:=by
      unfold mS;rw [av (by rw [ca,dI nz];rfl)]
     rw [e7] at Gg ⊢;have r7:=gT aa (pr (bW aa a) (ru.2.take i)++[z]);rw [cu] at r7;have JH:1<=z.length:=by
      unfold again at ca;rw [jf] at ca;have:=cK ca.1;omega
     refine⟨_,rfl,_,rfl,d,_,rfl,mf.k (k:=Sum.inr z) S6.hd (bF ∅),?_⟩;have OJ:E0≠d:=λe=>by have:=S6.hE;rw [e,S6.hd] at this;cases this
     have eEu:upd H6 d (.dK (bj kvs (Sum.inr z) (.bl true))) E0=some (.lst (es.map V.ref)):=by rw [ai OJ];exact S6.hE
     have tu:aW K (upd H6 d (.dK (bj kvs (Sum.inr z) (.bl true)))) p (ru.2.map V.str):=eI S6.hd t6;refine⟨_,rfl,.inl ⟨rfl,_,aH.of eEu⟩,_,rfl,z,rfl,JH,fits ∅,λL r1 r2 H7 _ s7 eL7 Mb=>?_⟩;obtain⟨V3,S7⟩:=S6.more R8 vd nz s7 Mb;exact⟨E0,L,_,_,rfl,rfl,V3,eL7,fits (by rw [aB];show es.length+2<=1000000;simp at r7;omega),⟨es++[r1,r2],_,_,rfl,S7⟩,aN V3 (s7.tup tu)⟩
    have nz:z∈pr (bW aa a) (ru.2.take i):=(S6.mem z).mp (by
     cases hq:(aY kvs (Sum.inr z)).isSome with
     | true=>rfl
     | false=>rw [hq] at cd;exact absurd rfl cd)
    rw [ux λ_=>nz];exact⟨⟨es,kvs,_,rfl,S6⟩,t6⟩
   refine iW ?_;rw [ux λh=>absurd h ca];exact⟨⟨es,kvs,_,rfl,S6⟩,t6⟩
  rintro σ H6 ⟨⟨es,kvs,y,rfl,S6⟩,t6⟩;rw [aB,cU,<-dq e1] at S6;exact⟨_,rfl,_,_,rfl,rfl,es,kvs,_,rfl,S6⟩
 have c':¬((a:Int) < ((es.map V.ref).length:Int)):=λh=>c (dI h);rw [aB] at c';have e:=Ai (r0:=aa) (n:=a) ∅ n ha;refine⟨_,rfl,q E0 es H5 S.sm S.hE ?_ R8⟩;rw [e];exact S.rl
end
end fh
namespace M11
open PySem L2
def Bf (b:Str->Bool):List Str->Nat
 | []=>0
 | z::r=>if b z=true then Bf b r+1 else 1
theorem Aa (b:Str->Bool):∀zs:List Str,(∀z∈zs,b z=true)->Bf b zs=zs.length
 | [],_=>rfl
 | z::r,h=>by
  unfold Bf;rw [av (h z bp),Aa b r λx hx=>h x (bC _ hx)];rfl
theorem Ea (b:Str->Bool):∀(zs:List Str) (i:Nat)(z:Str),(∀x∈zs.take i,b x=true)->zs[i]?=some z->¬b z=true->Bf b zs=i+1
 | y::r,0,z,_,e,n=>by
  cases e;unfold Bf;rw [ax n]
 | y::r,i+1,z,h,e,n=>by
  unfold Bf;rw [av (h y (by rw [sW];exact bp)),Ea b r i z (λx hx=>h x (by rw [sW];exact bC _ hx)) e n]
theorem D_ (b:Str->Bool):∀zs:List Str,Bf b zs<=zs.length
 | []=>aF _
 | z::r=>by
  have:=D_ b r;unfold Bf;rw [cX]
  split <;> omega
def cnt (n:Nat):List V:=(List.range n).map λk:Nat=>V.int (k:Int)
end M11
namespace fh
open PySem L2 M11
section
def zE (K:aV):Sp:=λvs H Q _=>∃(R:Addr)(rs:List Addr)(aa:List au),vs=[.ref R]/\aH K H R (rs.map V.ref)/\aR K H rs aa/\aa.length<=1000/\(∀ru∈aa,ru.2.length<=8)/\(aa.flatMap (·.2)).Nodup /\
 ∀H',aC H H'->Q .eJ H'
def kZ:aK ["strengths","met","way","words","word"] ["strengths"] (az xT):=iL rfl rfl rfl rfl nofun
def C_ (F:hZ K "refuse_twice" "refuse_twice" xT f fd)(T:Txt mg):bI P w K mg base e_ 1 f fd ["strengths"] (zE K):=by
 refine F.ok kZ (λvs H Q E h=>?_) (λdN A outer s H vs Q E hr h=>?_)
 .obtain⟨R,rs,aa,rfl,_⟩:=h;rfl
 obtain⟨R,rs,aa,rfl,hR,cR,bc,h8,K7,q⟩:=h;have hu:=gu hr;refine⟨_,ak (aG (i:=1) kZ.nd rfl (bJ rfl) fI)
  (aq (b8 cx rfl (bq (pv 0)) (d8 rfl (aD (ay (i:=2) kZ.nd rfl (bJ rfl)) (aD (ay (i:=3) kZ.nd rfl (bJ rfl)) cb)))
   (aq (b8 cx rfl (gX (pv 3)) (ay (i:=4) kZ.nd rfl (bJ rfl))
    (ak (cW (d7 (mU hu (pv 4) (pv 1))) (aq gq) bB) (aq (gJ hu (pv 1) (pv 4) fO rfl))))))),?_⟩
 nofun
 intro e he;have zO:∀o,aC H (upd H e o):=λo=>af he o;have ll:=a9 cR
 let zi:zj:=λi σ H5=>∃(kvs:List (aI×V))(y3 y4 y5:Option V),σ=[bz R,bz e,y3,y4,y5]/\H5=upd H e (.dK kvs) /\
  kvs.map (·.1)=((aa.take i).flatMap (·.2)).map Sum.inr
 refine⟨_,rfl,R,rfl,⟨_,(zO _).seq hR⟩,dW (xs:=rs.map V.ref) zi ⟨[],none,none,none,rfl,rfl,rfl⟩ ?_ ?_ ?_⟩
 .rintro i σ H5 _ ⟨kvs,y3,y4,y5,rfl,rfl,_⟩;exact(zO _).seq hR
 .rintro i x σ H5 ex ⟨kvs,y3,y4,y5,rfl,rfl,hk⟩
  ac_nf0
  rw [bo] at ex;obtain⟨r,er,rfl⟩:=cg.mp ex;obtain⟨ru,e1,p,v1,v2⟩:=cR.get er;have li:=(bA.mp e1).1;have La:=h8 ru (bZ e1);have eT:(aa.take (i+1)).flatMap (·.2)=(aa.take i).flatMap (·.2)++ru.2:=by
   rw [cP,e1,rm];simp
  have lA:((aa.take i).flatMap (·.2)).length<=8 * i:=iF (aa.take i) i (by rw [eV];omega) λru eE=>h8 ru (rq eE);have Dv:((aa.take i).flatMap (·.2)++ru.2).Nodup:=by
   have e2:aa.flatMap (·.2)=((aa.take i).flatMap (·.2)++ru.2)++(aa.drop (i+1)).flatMap (·.2):=by
    rw [<-eT,<-rm,vh]
   rw [e2] at K7;exact(ik.mp K7).1
  refine⟨r,_,rfl,(zO _).tup v1,rfl,_,_,rfl,_,_,rfl,rfl,?_⟩
  let G3:zj:=λj σ H6=>∃(kvs:List (aI×V))(y5:Option V),σ=[bz R,bz e,some (.str ru.1),bz p,y5]/\H6=upd H e (.dK kvs) /\
   kvs.map (·.1)=((aa.take i).flatMap (·.2)++ru.2.take j).map Sum.inr
  refine⟨_,rfl,p,rfl,⟨_,(zO _).tup v2⟩,oN (xs:=ru.2.map V.str) G3 ⟨kvs,_,rfl,rfl,by rw [List.take_zero,eF];exact hk⟩ ?_ ?_ ?_⟩
  .rintro j σ H6 _ ⟨kvs,y5,rfl,rfl,_⟩;exact(zO _).tup v2
  .rintro j x σ H6 Ed ⟨kvs,y5,rfl,rfl,A8⟩
   ac_nf0
   rw [bo] at Ed;obtain⟨z,ez,rfl⟩:=cg.mp Ed;have lj:=(bA.mp ez).1;have eS:ru.2.take (j+1)=ru.2.take j++[z]:=by rw [cP,ez];rfl
   have lk:kvs.length<=8 * i+8:=by
    have h1:=congrArg List.length A8;rw [aB,aB,cu,eV] at h1;omega
   have nz:z∉(aa.take i).flatMap (·.2)++ru.2.take j:=λhz=>by
    have e3:(aa.take i).flatMap (·.2)++ru.2=((aa.take i).flatMap (·.2)++ru.2.take j)++([z]++ru.2.drop (j+1)):=by
     rw [gh,<-gh (ru.2.take j),<-eS,vh]
    rw [e3] at Dv;exact(ik.mp Dv).2.2 z hz z (by simp) rfl
   have nk:¬(Sum.inr z:aI)∈kvs.map (·.1):=by rw [A8];exact λh=>nz (cv.mp h)
   refine⟨_,rfl,_,rfl,e,_,rfl,bX.k (k:=Sum.inr z) ae,_,rfl,?_⟩;refine dj (λc=>absurd ((dB kvs _).mp c) nk) (λ_=>?_);refine⟨_,rfl,_,rfl,e,_,rfl,mf.k (k:=Sum.inr z) ae (bF ∅),?_⟩;refine⟨bj kvs (Sum.inr z) (.bl true),_,rfl,by rw [iM],?_⟩;rw [gI nk,A8,eS,<-gh];simp only [bw,bu,jb]
  rintro σ H6 ⟨kvs,y5,rfl,rfl,A8⟩;rw [aB,cU,<-eT] at A8;exact⟨kvs,_,_,_,rfl,rfl,A8⟩
 rintro σ H5 ⟨kvs,y3,y4,y5,rfl,rfl,hk⟩;exact q _ (zO _)
def vB (K:aV):Sp:=λvs H Q _=>∃(p d:Addr) (zs:List Str)(kvs:List (aI×V)),vs=[.ref p,.ref d]/\aW K H p (zs.map V.str)/\zs.length<=1000/\H d=some (.dK kvs) /\
 ∀D H',H D=none->aC H H'->H' D=some (.lst (cnt (Bf (λz=>(aY kvs (Sum.inr z)).isSome) zs)))->Q (.ref D) H'
def k7:aK ["parts","empty","places","place","part"] ["parts","empty"] (az ue):=iL rfl rfl rfl rfl nofun
def AM (F:hZ K "first_places" "first_places" ue f fd)(T:Txt mg):bI P w K mg base e_ 1 f fd ["parts","empty"] (vB K):=by
 refine F.ok k7 (λvs H Q E h=>?_) (λdN A outer s H vs Q E hr h=>?_)
 .obtain⟨p,d,zs,kvs,rfl,_⟩:=h;rfl
 obtain⟨p,d,zs,kvs,rfl,hp,hz,hd,q⟩:=h;have hu:=gu hr;refine⟨_,ak (aG (i:=2) k7.nd rfl (bJ rfl) (bD aj))
  (ak (b8 cx rfl (lF rfl T.E3 (ab (pv 0) aj)) (d8 rfl (aD (ay (i:=3) k7.nd rfl (bJ rfl)) (aD (ay (i:=4) k7.nd rfl (bJ rfl)) cb)))
   (ak (cC (dJ gC iq ir cq (pv 2) (ab (pv 3) aj)))
   (aq (cW (d7 (di hu (pv 4) (pv 1))) (aq CO) bB))))
  (aq (a_ (pv 2)))),?_⟩
 nofun
 refine⟨qQ,λD hD=>?_⟩;have up1:∀n,cnt n++[V.int (n:Int)]=cnt (n+1):=λn=>by
  unfold cnt;rw [List.range_succ,bw];rfl
 refine⟨_,rfl,p,_,rfl,(af hD _).tup hp,?_⟩
 let TF:zj:=λi σ H5=>∃(y3 y4:Option V),σ=[bz p,bz d,bz D,y3,y4]/\aC H H5/\H5 D=some (.lst (cnt i))/\∀z∈zs.take i,(aY kvs (Sum.inr z)).isSome=true
 refine nr (xs:=zs.map V.str) TF
  ⟨none,none,rfl,af hD _,ae,by simp⟩ ?_ ?_ ?_
 .rintro i σ H5 _ ⟨y3,y4,rfl,sm,_⟩;exact sm.tup hp
 .rintro i x σ H5 t ex ⟨y3,y4,rfl,sm,EX,ox⟩ ht
  ac_nf0
  rw [bo] at ex;obtain⟨z,ez,rfl⟩:=cg.mp ex;have li:=(bA.mp ez).1;have tW:=sm.trans (af ht (.tup [.int (i:Int),.str z]));have jM:upd H5 t (.tup [.int (i:Int),.str z]) D=some (.lst (cnt i)):=by rw [ai (ao EX ht)];exact EX
  have hv:aW K (upd H5 t (.tup [.int (i:Int),.str z])) t [.int (i:Int),.str z]:=aW.of ae;generalize upd H5 t (.tup [.int (i:Int),.str z])=H6 at tW jM hv;have KU:aC H (upd H6 D (.lst (cnt i++[V.int (i:Int)]))):=λb o hb=>by
   rw [ai (λz=>by rw [z,hD] at hb;cases hb)];exact tW b o hb
  refine⟨t,_,rfl,hv,rfl,_,_,rfl,_,_,rfl,rfl,?_⟩;refine⟨_,rfl,.inl ⟨rfl,_,aH.of jM⟩,_,rfl,D,_,_,rfl,rfl,jM,bF (by unfold cnt;rw [aB,oS];omega),?_⟩;refine⟨_,rfl,_,rfl,d,_,rfl,bX.k (k:=Sum.inr z) (KU _ _ hd),_,rfl,?_⟩;refine dj (λc=>?_) (λc=>?_)
  .refine⟨_,rfl,q D _ hD KU ?_⟩;rw [ae,up1,Ea _ zs i z ox ez (λh=>by rw [h] at c;exact absurd c nofun)]
  refine⟨_,_,rfl,KU,by rw [ae,up1],λx hx=>?_⟩;rw [cP,ez] at hx;rcases bN.mp hx with h | h
  .exact ox x h
  rw [Option.toList_some,bx] at h;subst h;cases hq:(aY kvs (Sum.inr x)).isSome with
  | true=>rfl
  | false=>exact absurd (by rw [hq];rfl) c
 rintro σ H5 ⟨y3,y4,rfl,sm,EX,ox⟩;rw [aB] at EX ox;rw [cU] at ox;exact⟨_,rfl,q D _ hD sm (by rw [Aa _ zs ox];exact EX)⟩
end
end fh
namespace L2
open PySem
def wB {K:aV}{H:Hp}{p D:Addr}{zs:List Str}{σ:St}{v:V}{x:Str}{Qp:Hp->Prop}(hp:aW K H p (zs.map V.str))(hz:zs.length<=1000)(hD:H D=none)
  (q:∀ts H2,aC H H2->H2 D=some (.lst (ts.map V.ref))->Paired (λt h=>aW K H2 t [.str h,v]) ts zs->Qp H2) :
  ∃W:Nat->Nat->List V->St->Hp->Prop,(∃m,W 0 m [] (dO [x] [] σ) (upd H D (.lst []))) /\
 ∀i m ys σ' H,W i m ys σ' H->((qN K p).stop i H/\Qp H)\/((qN K p).go i H/\∃m',m' < m/\∀x H',(qN K p).mh i H x H'->dM 0 x σ' H' λσ2 H2=>ix σ2 H2 λb H3 =>
  if b=true then qT (fq (fR 0) (fq (tC v) pF)) σ2 H3 λy H4=>H4 D=some (.lst ys)/\ys.length < sizeLine/\W (i+1) m' (ys++[y]) σ2 (upd H4 D (.lst (ys++[y]))) else W (i+1) m' ys σ2 H3):=by
 refine iG (xs:=zs.map V.str) (λi ys σ2 H2=>∃ts:List Addr,ys=ts.map V.ref/\ts.length=i/\Paired (λt h=>aW K H2 t [.str h,v]) ts (zs.take i)/\(∃y0,σ2=[y0])/\aC H H2/\H2 D=some (.lst ys))
  ⟨[],rfl,rfl,.nil,⟨none,rfl⟩,af hD _,ae⟩ (λi ys σ2 H2 _ h=>?_) (λi x ys σ2 H2 ex h=>?_) (λys σ2 H2 h=>?_)
 .obtain⟨_,_,_,_,_,sm,_⟩:=h;exact sm.tup hp
 .obtain⟨ts,rfl,ht,uM,⟨y0,rfl⟩,sm,hd⟩:=h;rw [bo] at ex;obtain⟨z,ez,rfl⟩:=cg.mp ex;have li:=(bA.mp ez).1;refine goN (vb ?_);refine⟨_,rfl,gE,λt g7=>⟨?_,bF (by rw [aB];omega),ts++[t],?_,?_,?_,⟨_,rfl⟩,?_,ae⟩⟩
  .rw [ai (ao hd g7)];exact hd
  .rw [bw];rfl
  .rw [cu,ht];rfl
  .rw [cP,ez];have gO:upd H2 t (.tup [.str z,v]) D=some (.lst (ts.map V.ref)):=by rw [ai (ao hd g7)];exact hd
   exact fj (Paired.gy uM λt' h' z=>aN gO ((af g7 _).tup z)) (aN gO (aW.of ae))
  intro b o hb;rw [ai (λz=>by rw [z,hD] at hb;cases hb)];exact af g7 _ _ _ (sm b o hb)
 obtain⟨ts,rfl,ht,uM,_,sm,hd⟩:=h;rw [aB,cU] at uM;exact q ts H2 sm hd uM
end L2
namespace M11
open PySem L2
def iJ (a:List Str)(h x:Str):x∈gw a h↔x∈a\/x=h:=by
 unfold gw;split
 .constructor
  .exact .inl
  rintro(z | rfl) <;> assumption
 simp
def Am {a:List Str}(h:Str)(n:a.Nodup):(gw a h).Nodup:=by
 unfold gw;split
 .exact n
 rename_i q
 refine ik.mpr ⟨n,by simp,λx hx y hy=>?_⟩;rw [bx.mp hy];exact λz=>q (z ▸ hx)
def An (a:List Str)(h:Str):a.length<=(gw a h).length:=by
 unfold gw;split <;> simp
def GY {a:List Str}{h:Str}(e:(gw a h).length=a.length):gw a h=a:=by
 unfold gw at e ⊢;split
 .rfl
 rename_i q
 rw [ax q,cu] at e;simp at e
theorem fY:∀(hs bf:List Str)(x:Str),x∈uS bf hs↔x∈bf\/x∈hs
 | [],bf,x=>by simp [uS]
 | h::r,bf,x=>by
  show x∈uS (gw bf h) r↔_;rw [fY r,iJ,aQ,or_assoc]
theorem ny:∀(hs:List Str){bf:List Str},bf.Nodup->(uS bf hs).Nodup
 | [],_,n=>n
 | h::r,_,n=>ny r (Am h n)
theorem yX:∀(hs bf:List Str),bf.length<=(uS bf hs).length
 | [],_=>aF _
 | h::r,bf=>cO (An bf h) (yX r _)
theorem Ek:∀(hs bf:List Str),(uS bf hs).length=bf.length->uS bf hs=bf
 | [],_,_=>rfl
 | h::r,bf,e=>by
  have h1:=An bf h;have h2:=yX r (gw bf h);have e':(uS (gw bf h) r).length=bf.length:=e;show uS (gw bf h) r=bf;rw [Ek r _ ∅];exact GY ∅
inductive KL (aa:List au)(s:Str):Str->Prop
 | start:KL aa s s
 | step {ru:au}{x:Str}:KL aa s ru.1->ru∈aa->x∈ru.2->KL aa s x
def EF (aa:List au) (n:Nat) (ms:List Str):Prop:=∀ru∈aa.take n,ru.1∈ms->∀x∈ru.2,x∈ms
def KL.among {aa:List au}{s x:Str}(h:KL aa s x):x∈s::aa.flatMap (·.2):=by
 cases h with
 | start=>exact bp
 | step _ h1 h2=>exact bC _ (gA.mpr ⟨_,h1,h2⟩)
end M11
namespace fh
open PySem L2 M11
section
def Hf (K:aV):Sp:=λvs H Q _=>∃(R:Addr)(rs:List Addr)(aa:List au)(kN:au),vs=[.ref R]/\aH K H R (rs.map V.ref)/\aR K H rs aa/\aa[0]?=some kN/\aa.length<=1000/\(∀ru∈aa,ru.2.length<=8) /\
 ∀d kvs ms H',H d=none->aC H H'->H' d=some (.dK kvs)->kvs.map (·.1)=ms.map Sum.inr->kN.1∈ms->(∀x∈ms,KL aa kN.1 x)->EF aa aa.length ms->Q (.ref d) H'
def rL:aK ["rules","met","many","head","parts"] ["rules"] (az IM):=iL rfl rfl rfl rfl nofun
structure Lq (K:aV)(aa:List au)(s0:Str)(H H5:Hp)(d:Addr) (ms:List Str)(kvs:List (aI×V)):Prop where
 sm:aC H H5
 hd:H5 d=some (.dK kvs)
 keys:kvs.map (·.1)=ms.map Sum.inr
 nd:ms.Nodup
 st:s0∈ms
 OF:∀x∈ms,KL aa s0 x
def Lq.len {aa:List au}{s0:Str}{H H5:Hp}{d:Addr}{ms:List Str}{kvs:List (aI×V)}(h:Lq K aa s0 H H5 d ms kvs)(hl:aa.length<=1000)(h8:∀ru∈aa,ru.2.length<=8):kvs.length=ms.length/\ms.length<=8001:=by
 refine⟨?_,?_⟩
 .have:=congrArg List.length h.keys;simpa using this
 have h1:=eY ms _ h.nd λx hx=>(h.OF x hx).among;have h2:=iF aa 1000 hl h8;rw [cX] at h1;omega
def Ji (F:hZ K "names_met" "names_met" IM f fd)(T:Txt mg):bI P w K mg base e_ 1 f fd ["rules"] (Hf K):=by
 refine F.ok rL (λvs H Q E h=>?_) (λdN A outer s H vs Q E hr h=>?_)
 .obtain⟨R,rs,aa,kN,rfl,_⟩:=h;rfl
 obtain⟨R,rs,aa,kN,rfl,hR,cR,BQ,bc,h8,q⟩:=h;have hu:=gu hr;refine⟨_,ak (aG (i:=1) rL.nd rfl (bJ rfl) (FQ (CW (aO cH (aO aS (pv 0) ar (λ_ _=>rfl)) ar (λ_ _=>rfl)) fO FH) rfl rfl (by simp) (show 1<=15 by decide)))
  (ak (aG (i:=2) rL.nd rfl (bJ rfl) ar)
  (ak (gW cx (bU pX (pv 2) (bR su rfl T.len gP (ab (pv 1) aj)) (bL _))
   (ak (aG (i:=2) rL.nd rfl (bJ rfl) (bR su rfl T.len gP (ab (pv 1) aj)))
   (aq (b8 cx rfl (bq (pv 0)) (d8 rfl (aD (ay (i:=3) rL.nd rfl (bJ rfl)) (aD (ay (i:=4) rL.nd rfl (bJ rfl)) cb)))
    (aq (cW (d7 (mU hu (pv 3) (pv 1)))
     (aq (cC (FP rfl (pv 1) (bG ["part"] [] rfl (gX (pv 4)) (br rfl rfl) nofun rfl nofun
       (λ_ _ _ _ _=>ay (i:=0) (show (["part"]:List Str).Nodup by decide +kernel) rfl (bJ rfl)) (λ_ _ _ _ _=>b_) (λ_ _ _ _ _=>aP (ab (pv 0) (ab fO aj)))) ⟨rfl,rfl,rfl,rfl⟩))) bB))))))
  (aq (a_ (pv 1))))),?_⟩
 nofun
 intro d hd;have ll:=a9 cR;have l0:=(bA.mp BQ).1;obtain⟨r0,NJ⟩:∃r,rs[0]?=some r:=⟨rs[0]'∅,cQ ∅⟩;obtain⟨W8,e0,p0,w1,w2⟩:=cR.get NJ;rw [BQ] at e0;cases e0;have Ub:=af hd (.dK []);refine⟨_,rfl,R,_,_,.ref r0,rfl,rfl,Ub.seq hR,?_,r0,_,_,_,rfl,rfl,Ub.tup w1,rfl,?_⟩
 .have e7:(rs.map V.ref)[0]?=some (.ref r0):=by rw [bo,NJ];rfl
  exact cw (j:=0) e7
 refine⟨ae,[((Sum.inr kN.1:aI),.bl true)],rfl,(by show 1<=15;decide),?_⟩;have S0:Lq K aa kN.1 H (upd (upd H d (.dK [])) d (.dK (kq [] [((Sum.inr kN.1:aI),.bl true)]))) d [kN.1] [((Sum.inr kN.1:aI),.bl true)]:=by
  rw [iM];exact⟨af hd _,ae,rfl,by simp,by simp,λx hx=>by rw [bx.mp hx];exact .start⟩
 generalize upd (upd H d (.dK [])) d (.dK (kq [] [((Sum.inr kN.1:aI),.bl true)]))=H0 at S0;refine⟨λm σ H5=>∃(ms:List Str)(kvs:List (aI×V)) (many:Int)(y3 y4:Option V),σ=[bz R,bz d,some (.int many),y3,y4]/\Lq K aa kN.1 H H5 d ms kvs/\0<=many/\many<=ms.length/\(many=ms.length->EF aa aa.length ms)/\(m:Int)=8002 - many,
  ⟨8002,[kN.1],_,0,none,none,rfl,S0,∅,by simp,by simp,∅⟩,?_⟩
 rintro m σ H5 ⟨ms,kvs,many,y3,y4,rfl,S,b1,b2,cl,em⟩;obtain⟨lk,lm⟩:=S.len bc h8;refine⟨_,rfl,_,rfl,d,_,rfl,S.hd,_,_,rfl,rfl,_,rfl,?_⟩;refine dj (λc=>?_) (λc=>?_)
 .have c':=cK c;rw [lk] at c';refine⟨λσ H5=>∃(oI:List Str)(d6:List (aI×V))(y3 y4:Option V),σ=[bz R,bz d,some (.int (ms.length:Int)),y3,y4]/\Lq K aa kN.1 H H5 d oI d6/\ms.length<=oI.length/\(oI.length=ms.length->EF aa aa.length oI),?_,?_⟩
  .rintro σ H6 ⟨oI,d6,y3,y4,rfl,S2,l2,c2⟩;exact⟨(8002 - ms.length:Int).toNat,∅,oI,d6,_,_,_,rfl,S2,∅,∅,λz=>c2 ∅,∅⟩
  refine⟨_,rfl,d,_,rfl,S.hd,?_⟩;rw [lk];refine⟨_,rfl,R,rfl,⟨_,S.sm.seq hR⟩,?_⟩;refine dW (xs:=rs.map V.ref) (λi σ H6=>∃(oI:List Str)(d6:List (aI×V))(y3 y4:Option V),σ=[bz R,bz d,some (.int (ms.length:Int)),y3,y4]/\Lq K aa kN.1 H H6 d oI d6/\ms.length<=oI.length/\(oI.length=ms.length->EF aa i oI))
   ⟨ms,kvs,_,_,rfl,S,aF _,λ_ ru eE=>by simp at eE⟩ ?_ ?_ ?_
  .rintro i σ H6 _ ⟨oI,d6,y3,y4,rfl,S2,_⟩;exact S2.sm.seq hR
  .rintro i x σ H6 ex ⟨oI,d6,y3,y4,rfl,S2,l2,c2⟩
   ac_nf0
   rw [bo] at ex;obtain⟨r,er,rfl⟩:=cg.mp ex;obtain⟨ru,e1,p,v1,v2⟩:=cR.get er;have La:=h8 ru (bZ e1);have tk:aa.take (i+1)=aa.take i++[ru]:=by rw [cP,e1];rfl
   obtain⟨OL,Yi⟩:=S2.len bc h8;have mem:(aY d6 (Sum.inr ru.1)).isSome=true↔ru.1∈oI:=by rw [dB,S2.keys];exact cv
   refine⟨r,_,rfl,S2.sm.tup v1,rfl,_,_,rfl,_,_,rfl,rfl,?_⟩;refine⟨_,rfl,_,rfl,d,_,rfl,bX.k (k:=Sum.inr ru.1) S2.hd,_,rfl,?_⟩;refine dj (λc3=>?_) (λc3=>?_)
   .have im:=mem.mp c3;refine⟨_,rfl,d,rfl,.inl ⟨_,.inl S2.hd⟩,_,rfl,p,rfl,⟨_,S2.sm.tup v2⟩,λD2 jM=>wB (S2.sm.tup v2) ∅ jM λts H8 KS Nv Va=>?_⟩;have kp:Paired (λt (kv:aI×V)=>aW K H8 t [kV kv.1,kv.2]) ts (ru.2.map λh=>((Sum.inr h:aI),V.bl true)):=cy Va λ_ _ z=>z;refine⟨D2,ts,d6,_,rfl,KS _ _ S2.hd,Nv,kp,fits (by rw [aB];omega),?_⟩;have Zr:=yX ru.2 oI;refine⟨uS oI ru.2,cE (ru.2.map λh=>((Sum.inr h:aI),V.bl true)) d6,_,_,rfl,⟨λb o hb=>?_,ae,lQ ru.2 d6 oI S2.keys,ny ru.2 S2.nd,(fY ru.2 oI _).mpr (.inl S2.st),λx hx=>?_⟩,∅,λz u6 v8 hh=>?_⟩
    .rw [ai (λz=>by rw [z,hd] at hb;cases hb)];exact KS _ _ (S2.sm b o hb)
    .rcases (fY ru.2 oI x).mp hx with h | h
     .exact S2.OF x h
     exact .step (S2.OF _ im) (bZ e1) h
    have e9:=Ek ru.2 oI ∅;rw [e9] at hh ⊢;rw [tk] at v8;rcases bN.mp v8 with h | h
    .exact c2 ∅ u6 h hh
    rw [bx.mp h];intro x hx;rw [<-e9];exact(fY ru.2 oI x).mpr (.inr hx)
   refine⟨oI,d6,_,_,rfl,S2,l2,λz u6 v8 hh=>?_⟩;rw [tk] at v8;rcases bN.mp v8 with h | h
   .exact c2 z u6 h hh
   rw [bx.mp h] at hh;exact absurd (mem.mpr hh) c3
  rintro σ H6 ⟨oI,d6,y3,y4,rfl,S2,l2,c2⟩;rw [aB,ll] at c2;exact⟨oI,d6,_,_,rfl,S2,l2,c2⟩
 have c':=of_decide_eq_false (nS.mpr c);rw [lk] at c';exact⟨_,rfl,q d kvs ms H5 hd S.sm S.hd S.keys S.st S.OF (cl ∅)⟩
end
end fh
namespace M11
open PySem L2
abbrev G:=Str->Option Int
def cZ (g:G)(h:Str) (n:Int):G:=λz=>if z=h then some n else g z
def aM (g:G)(ru:au):Int:=1+(ru.2.map λp=>(g p).getD 0).sum
def i8 (g:G)(ru:au):Bool:=ru.2.all λp=>(g p).isSome
def b9 (bt:Int->Int->Bool)(g:G)(ru:au):Bool:=i8 g ru && (!(g ru.1).isSome || bt (aM g ru) ((g ru.1).getD 0))
def sstep (bt:Int->Int->Bool)(a:G×Bool)(ru:au):G×Bool:=if b9 bt a.1 ru=true then (cZ a.1 ru.1 (aM a.1 ru),true) else a
def qU (bt:Int->Int->Bool)(aa:List au)(g:G):G×Bool:=aa.foldl (sstep bt) (g,false)
inductive du (bt:Int->Int->Bool)(aa:List au):G->G->Prop
 | refl {g:G}:du bt aa g g
 | step {g g1:G}{ru:au}:du bt aa g g1->ru∈aa->b9 bt g1 ru=true->du bt aa g (cZ g1 ru.1 (aM g1 ru))
def gM (bt:Int->Int->Bool)(aa:List au)(g:G):Prop:=∀ru∈aa,b9 bt g ru=false
def nO (bt:Int->Int->Bool)(aa:List au):Nat->G->Prop
 | 0,g=>(qU bt aa g).2=false
 | n+1,g=>(qU bt aa g).2=false\/nO bt aa n (qU bt aa g).1
def du.trans {bt:Int->Int->Bool}{aa:List au}{g g1 g2:G}(h:du bt aa g g1)(k:du bt aa g1 g2):du bt aa g g2:=by
 induction k with
 | refl=>exact h
 | step _ a b ih=>exact .step ih a b
theorem qm (bt:Int->Int->Bool)(aa:List au):∀(l:List au)(a:G×Bool),(∀ru∈l,ru∈aa)->du bt aa a.1 (l.foldl (sstep bt) a).1
 | [],a,_=>.refl
 | ru::l,a,h=>by
  have ih:=qm bt aa l (sstep bt a ru) λx hx=>h x (bC _ hx);refine du.trans ?_ ih;unfold sstep;by_cases c:b9 bt a.1 ru=true
  .rw [av c];exact .step .refl (h ru bp) c
  rw [ax c];exact .refl
theorem si (bt:Int->Int->Bool):∀(l:List au)(a:G×Bool),a.2=true->(l.foldl (sstep bt) a).2=true
 | [],a,h=>h
 | ru::l,a,h=>by
  refine si bt l (sstep bt a ru) ?_;unfold sstep
  split
  .rfl
  exact h
theorem qo (bt:Int->Int->Bool):∀(l:List au)(a:G×Bool),(l.foldl (sstep bt) a).2=false->(l.foldl (sstep bt) a).1=a.1/\∀ru∈l,b9 bt a.1 ru=false
 | [],a,_=>⟨rfl,λ_ h=>nomatch h⟩
 | ru::l,a,h=>by
  by_cases c:b9 bt a.1 ru=true
  .have e:sstep bt a ru=(cZ a.1 ru.1 (aM a.1 ru),true):=av c;have h':(l.foldl (sstep bt) (sstep bt a ru)).2=false:=h;rw [e,si bt l _ rfl] at h';cases h'
  have e:sstep bt a ru=a:=ax c;have h':(l.foldl (sstep bt) (sstep bt a ru)).2=false:=h;rw [e] at h';obtain⟨i1,i2⟩:=qo bt l a h';refine⟨by rw [List.foldl_cons,e];exact i1,λu6 hr=>?_⟩;rcases aQ.mp hr with z | z
  .rw [z];exact nS.mpr c
  exact i2 u6 z
end M11
namespace L2
open PySem M11
def eQ.tup {K:aV}{H H':Hp}{d a:Addr}{kvs:List (aI×V)}{xs:List V}(s:eQ d H H')(hd:H d=some (.dK kvs))(h:aW K H a xs):aW K H' a xs:=by
 rcases h with (h | ⟨u,h⟩) | h
 .exact .inl (.inl (s _ _ (λz=>by rw [z,hd] at h;cases h) h))
 .exact .inl (.inr ⟨u,s _ _ (λz=>by rw [z,hd] at h;cases h) h⟩)
 exact .inr h
def eQ.seq {K:aV}{H H':Hp}{d a:Addr}{kvs:List (aI×V)}{xs:List V}(s:eQ d H H')(hd:H d=some (.dK kvs))(h:aH K H a xs):aH K H' a xs:=by
 rcases h with (h | ⟨u,h⟩) | h
 .exact .inl (.inl (s _ _ (λz=>by rw [z,hd] at h;cases h) h))
 .exact .inl (.inr ⟨u,s _ _ (λz=>by rw [z,hd] at h;cases h) h⟩)
 exact .inr h
def Bq {K:aV}{H:Hp}{p D d:Addr}{zs:List Str}{kvs:List (aI×V)}{g:G}{σ:St}{js:List (Nat×Str)}{Qp:Hp->Prop}(hσ:dO ["part"] js σ=[none,bz d])(hp:aW K H p (zs.map V.str))(hz:zs.length<=1000)
  (hd:H d=some (.dK kvs))(hv:∀z,aY kvs (Sum.inr z)=(g z).map V.int)(ha:∀z∈zs,(g z).isSome=true)(hD:H D=none)(q:∀H2,aC H H2->H2 D=some (.lst ((zs.map λz=>(g z).getD 0).map V.int))->Qp H2) :
  ∃W:Nat->Nat->List V->St->Hp->Prop,(∃m,W 0 m [] (dO ["part"] js σ) (upd H D (.lst []))) /\
 ∀i m ys σ' H,W i m ys σ' H->((qN K p).stop i H/\Qp H)\/((qN K p).go i H/\∃m',m' < m/\∀x H',(qN K p).mh i H x H'->dM 0 x σ' H' λσ2 H2=>ix σ2 H2 λb H3 =>
  if b=true then zx (fR 1) (fR 0) σ2 H3 λy H4=>H4 D=some (.lst ys)/\ys.length < sizeLine/\W (i+1) m' (ys++[y]) σ2 (upd H4 D (.lst (ys++[y]))) else W (i+1) m' ys σ2 H3):=by
 refine iG (xs:=zs.map V.str) (λi ys σ2 H2=>ys=(((zs.take i).map λz=>(g z).getD 0).map V.int)/\(∃y0,σ2=[y0,bz d])/\aC H H2/\H2 D=some (.lst ys))
  ⟨rfl,⟨none,hσ⟩,af hD _,ae⟩ (λi ys σ2 H2 _ h=>h.2.2.1.tup hp) (λi x ys σ2 H2 ex h=>?_) (λys σ2 H2 h=>?_)
 .obtain⟨rfl,⟨y0,rfl⟩,sm,hd2⟩:=h;rw [bo] at ex;obtain⟨z,ez,rfl⟩:=cg.mp ex;have li:=(bA.mp ez).1;obtain⟨n,en⟩:=kS.mp (ha z (bZ ez));have hg:bX H2 d (.str z) (some (.int n)):=by
   have:=bX.k (k:=Sum.inr z) (sm _ _ hd);rw [hv,en] at this;exact this
  refine goN (vb ?_);refine⟨_,rfl,_,rfl,d,_,rfl,hg,hd2,bF (by rw [aB,aB,eV];omega),?_,⟨_,rfl⟩,?_,ae⟩
  .rw [cP,ez,bw,bw];show _=_++[V.int ((g z).getD 0)];rw [en];rfl
  intro b o hb;rw [ai (λz=>by rw [z,hD] at hb;cases hb)];exact sm b o hb
 obtain⟨rfl,_,sm,hd2⟩:=h;rw [aB,cU] at hd2;exact q H2 sm hd2
end L2
namespace fh
open PySem L2 M11
section
def gQ (K:aV)(q:Str)(params:Arguments)(body:Expr)(scope:Scope)(bt:Int->Int->Bool):Sp:=λvs H Q _=>∃(R:Addr)(rs:List Addr)(aa:List au)(d fl c':Addr)(pm fg:Value)(kvs:List (aI×V)) (ks:List Str)(g:G),
 vs=[.ref R,.ref d,.ref fl]/\aH K H R (rs.map V.ref)/\aR K H rs aa/\aa.length<=1000/\(∀ru∈aa,ru.2.length<=8)/\H d=some (.dK kvs)/\kvs.map (·.1)=ks.map Sum.inr/\ks.Nodup/\ks.length<=10000 /\
 (∀z,aY kvs (Sum.inr z)=(g z).map V.int)/\(∃n,nO bt aa n g)/\H fl=some (mX fl (PySem.W.kla_obj "<lambda>" q params body scope [] pm c' fg))/\H c'=some (i7 c' q) /\
 ∀(ky:List (aI×V)) (MR:List Str)(g':G)(H':Hp),eQ d H H'->H' d=some (.dK ky)->ky.map (·.1)=MR.map Sum.inr->(∀z,aY ky (Sum.inr z)=(g' z).map V.int)->du bt aa g g'->gM bt aa g'->ky.length<=20000->Q (.ref d) H'
def gS:aK ["rules","sizes","better","changed","head","parts","size"] ["rules","sizes","better"] (az lg):=iL rfl rfl rfl rfl nofun
structure BZ (K:aV)(aa:List au) (EV:List Str)(H H5:Hp)(d:Addr)(kvs:List (aI×V)) (ks:List Str)(g:G):Prop where
 sm:eQ d H H5
 hd:H5 d=some (.dK kvs)
 keys:kvs.map (·.1)=ks.map Sum.inr
 nd:ks.Nodup
 sub:∀x∈ks,x∈EV++aa.map (·.1)
 val:∀z,aY kvs (Sum.inr z)=(g z).map V.int
def BZ.len {aa:List au}{EV:List Str}{H H5:Hp}{d:Addr}{kvs:List (aI×V)}{ks:List Str}{g:G}(h:BZ K aa EV H H5 d kvs ks g):kvs.length<=EV.length+aa.length:=by
 have h1:=congrArg List.length h.keys;have h2:=eY ks _ h.nd h.sub;rw [cu,aB] at h2;rw [aB,aB] at h1;omega
def BZ.same {aa:List au}{EV:List Str}{H H5 H6:Hp}{d:Addr}{kvs:List (aI×V)}{ks:List Str}{g:G}(h:BZ K aa EV H H5 d kvs ks g)(s:aC H5 H6):BZ K aa EV H H6 d kvs ks g :=
 ⟨λb o n e=>s _ _ (h.sm b o n e),s _ _ h.hd,h.keys,h.nd,h.sub,h.val⟩
def BZ.put {aa:List au}{EV:List Str}{H H5:Hp}{d:Addr}{kvs:List (aI×V)}{ks:List Str}{g:G}(h:BZ K aa EV H H5 d kvs ks g){ru:au}(hr:ru∈aa) (n:Int) :
  BZ K aa EV H (upd H5 d (.dK (bj kvs (Sum.inr ru.1) (.int n)))) d (bj kvs (Sum.inr ru.1) (.int n)) (gw ks ru.1) (cZ g ru.1 n):=by
 refine⟨λb o nb e=>by rw [ai nb];exact h.sm b o nb e,ae,jy h.keys ru.1,Am ru.1 h.nd,λx hx=>?_,λz=>?_⟩
 .rcases (iJ ks ru.1 x).mp hx with z | z
  .exact h.sub x z
  rw [z];exact eX _ (il hr)
 rw [vq];unfold cZ;by_cases c:z=ru.1
 .rw [av c,av (by rw [c])];rfl
 rw [ax c,ax (λe=>c (j7 e)),h.val]
def rT (F:hZ K "settled_sizes" "settled_sizes" lg f fd)(T:Txt mg){q:Str}{params:Arguments}{body:Expr}{scope:Scope}{bt:Int->Int->Bool}{te:TE}(S:aK ["size","known"] ["size","known"] scope)
  (lV:∀(pm fg:Value)(c':Addr)(us:List Value),us.length=(["size","known"]:List Str).length->bindArgs (PySem.W.kla_fn "<lambda>" q params body scope [] pm (.ref c') fg) ⟨us,[]⟩=pure ((["size","known"]:List Str).zip us))
  (iE:∀(f c':Addr)(A:Around)(outer:List Env)(s:Shared)(H:Hp),PE (nE e_ P w K mg base ["size","known"] q scope f (.ref c') A outer s H λ_ _ _=>False) body te)
  (YM:∀a b H Q,Q (.bl (bt a b)) H->te [some (.int a),some (.int b)] H Q):bI P w K mg base e_ 2 f fd ["rules","sizes","better"] (gQ K q params body scope bt):=by
 refine F.ok gS (λvs H Q E h=>?_) (λdN A outer s H vs Q E hr h=>?_)
 .obtain⟨R,rs,aa,d,fl,c',pm,fg,kvs,ks,g,rfl,_⟩:=h;rfl
 obtain⟨R,rs,aa,d,fl,c',pm,fg,kvs,ks,g,rfl,hR,cR,bc,h8,hd,hk,K7,hkl,hv,⟨n0,RC⟩,DR,i9,qq⟩:=h;have hu:=gu hr;refine⟨_,ak (aG (i:=3) gS.nd rfl (bJ rfl) fO)
  (ak (gW cx (iR (pv 3))
   (ak (aG (i:=3) gS.nd rfl (bJ rfl) fO)
   (aq (b8 cx rfl (bq (pv 0)) (d8 rfl (aD (ay (i:=4) gS.nd rfl (bJ rfl)) (aD (ay (i:=5) gS.nd rfl (bJ rfl)) cb)))
    (aq (cW (iR (bR (nF rfl) rfl T.all boot_all (ab (bG ["part"] [(1,"sizes")] rfl (gX (pv 5)) (br rfl rfl) nofun rfl nofun
       (λ_ _ _ _ _=>ay (i:=0) (show (["part","sizes"]:List Str).Nodup by decide +kernel) rfl (bJ rfl)) (λ_ _ _ _ _=>b_) (λ_ _ _ _ _=>C5 (mU hu (pv 0) (pv 1)))) aj)))
     (ak (aG (i:=6) gS.nd rfl (bJ rfl) (bh dH ar (bR (sr rfl) rfl T.sum PyProof.Rows.boot_sum (ab (bG ["part"] [(1,"sizes")] rfl (gX (pv 5)) (br rfl rfl) nofun rfl nofun
       (λ_ _ _ _ _=>ay (i:=0) (show (["part","sizes"]:List Str).Nodup by decide +kernel) rfl (bJ rfl)) (λ_ _ _ _ _=>b_) (λ_ _ _ _ _=>d5 hu (pv 1) (pv 0) (λ_ _=>rfl))) aj))))
     (aq (cW (PW.pt (Mf (d7 (di hu (pv 4) (pv 1))) (I_ (iR (yk (i:=2) (k:=0) rfl rfl S hr lV iE (ab (pv 6) (ab (d5 hu (pv 1) (pv 4) (λ_ _=>rfl)) aj)))))))
      (ak (gJ hu (pv 1) (pv 4) (pv 6) rfl) (aq (aG (i:=3) gS.nd rfl (bJ rfl) fO))) bB))) bB))))))
  (aq (a_ (pv 1)))),?_⟩
 nofun
 have ll:=a9 cR;have S0:BZ K aa ks H H d kvs ks g:=⟨λ_ _ _ e=>e,hd,hk,K7,λx hx=>jh _ hx,hv⟩;refine⟨λm σ H5=>∃(d6:List (aI×V)) (ON:List Str)(g2:G)(ch:Bool)(y4 y5 y6:Option V),σ=[bz R,bz d,bz fl,some (.bl ch),y4,y5,y6]/\BZ K aa ks H H5 d d6 ON g2/\du bt aa g g2 /\
  ((ch=true/\∃n,m=n+1/\nO bt aa n g2)\/(ch=false/\gM bt aa g2)),⟨n0+1,kvs,ks,g,true,none,none,none,rfl,S0,.refl,.inl ⟨rfl,n0,rfl,RC⟩⟩,?_⟩
 rintro m σ H5 ⟨d6,ON,g2,ch,y4,y5,y6,rfl,S2,EM,cs⟩;refine⟨_,rfl,ch,rfl,?_⟩;refine dj (λc=>?_) (λc=>?_)
 .rcases cs with ⟨_,n,em,en⟩ | ⟨c',_⟩
  case inr=>rw [c'] at c;cases c
  refine⟨λσ H6=>∃(kx:List (aI×V)) (BO:List Str)(g3:G)(wK:Bool)(y4 y5 y6:Option V),σ=[bz R,bz d,bz fl,some (.bl wK),y4,y5,y6]/\BZ K aa ks H H6 d kx BO g3/\(g3,wK)=qU bt aa g2,?_,?_⟩
  .rintro σ H6 ⟨kx,BO,g3,wK,y4,y5,y6,rfl,S3,e3⟩;have SI:g3=(qU bt aa g2).1:=congrArg Prod.fst e3;have Ks:wK=(qU bt aa g2).2:=congrArg Prod.snd e3;have LU:du bt aa g g3:=by
    rw [SI];exact EM.trans (qm bt aa aa (g2,false) λ_ h=>h)
   cases h3:wK with
   | false =>
    rw [h3] at Ks;obtain⟨f1,f2⟩:=qo bt aa (g2,false) Ks.symm;refine⟨0,∅,kx,BO,g3,false,_,_,_,rfl,S3,LU,.inr ⟨rfl,?_⟩⟩;have e33:g3=g2:=SI.trans f1;rw [e33];exact f2
   | true =>
    rw [h3] at Ks;cases n with
    | zero=>rw [show (qU bt aa g2).2=false from en] at Ks;cases Ks
    | succ n' =>
     rcases en with en | en
     .rw [en] at Ks;cases Ks
     exact⟨n'+1,∅,kx,BO,g3,true,_,_,_,rfl,S3,LU,.inl ⟨rfl,n',rfl,by rw [SI];exact en⟩⟩
  refine⟨_,rfl,R,rfl,⟨_,S2.sm.seq hd hR⟩,?_⟩;refine dW (xs:=rs.map V.ref) (λi σ H6=>∃(kx:List (aI×V)) (BO:List Str)(g3:G)(wK:Bool)(y4 y5 y6:Option V),σ=[bz R,bz d,bz fl,some (.bl wK),y4,y5,y6]/\BZ K aa ks H H6 d kx BO g3/\(g3,wK)=(aa.take i).foldl (sstep bt) (g2,false))
   ⟨d6,ON,g2,false,_,_,_,rfl,S2,rfl⟩ ?_ ?_ ?_
  .rintro i σ H6 _ ⟨kx,BO,g3,wK,y4,y5,y6,rfl,S3,_⟩;exact S3.sm.seq hd hR
  .rintro i x σ H6 ex ⟨kx,BO,g3,wK,y4,y5,y6,rfl,S3,e3⟩;rw [bo] at ex;obtain⟨r,er,rfl⟩:=cg.mp ex;obtain⟨ru,e1,p,v1,v2⟩:=cR.get er;have nj:=bZ e1;have La:=h8 ru nj;have fo:(aa.take (i+1)).foldl (sstep bt) (g2,false)=sstep bt (g3,wK) ru:=by
    rw [cP,e1,pd,<-e3];rfl
   rw [fo];have PB:=S3.sm.tup hd v2;refine⟨r,_,rfl,S3.sm.tup hd v1,rfl,_,_,rfl,_,_,rfl,rfl,?_⟩;refine⟨_,rfl,p,rfl,⟨_,PB⟩,λD2 jM=>sq rfl PB ∅ S3.hd jM λH7 Ua Zy=>?_⟩;have S4:=S3.same Ua;have v4:=Ua.tup PB;have eb:(ru.2.map λz=>(aY kx (Sum.inr z)).isSome).all id=i8 g3 ru:=by
    unfold i8;rw [List.all_map];refine List.all_congr rfl λz=>?_;show (aY kx (Sum.inr z)).isSome=_;rw [S3.val,mF]
   refine⟨D2,_,rfl,aH.of Zy,_,rfl,?_⟩;rw [eb];refine dj (λc4=>?_) (λc4=>?_)
   .have al:∀z∈ru.2,(g3 z).isSome=true:=λz hz=>gb.mp c4 z hz;refine⟨_,rfl,p,rfl,⟨_,v4⟩,λD3 HN=>Bq (g:=g3) rfl v4 ∅ S4.hd S4.val al HN λH8 KS Nv=>?_⟩;have S5:=S4.same KS;have esz:1+(ru.2.map λz=>(g3 z).getD 0).sum=aM g3 ru:=rfl;refine⟨D3,_,rfl,aH.of Nv,_,_,rfl,rfl,?_⟩;have mem:(aY kx (Sum.inr ru.1)).isSome=(g3 ru.1).isSome:=by rw [S5.val,mF]
    have fl5:=S5.sm fl _ (λz=>by rw [z,hd] at DR;cases DR) DR;have c5':=S5.sm c' _ (λz=>by rw [z,hd] at i9;cases i9) i9;have l5:=S5.len;refine⟨_,rfl,_,rfl,d,_,rfl,bX.k (k:=Sum.inr ru.1) S5.hd,_,rfl,?_⟩;refine dj (λc5=>?_) (λc5=>?_)
    .have fr:b9 bt g3 ru=true:=by
      unfold b9;rw [<-mem,c4,c5];rfl
     refine⟨_,rfl,_,rfl,_,rfl,d,_,rfl,mf.k (k:=Sum.inr ru.1) S5.hd (bF ∅),?_⟩;exact⟨_,_,cZ g3 ru.1 (aM g3 ru),true,_,_,_,rfl,S5.put nj (aM g3 ru),(av fr).symm⟩
    have Yy:(g3 ru.1).isSome=true:=by
     rw [mem] at c5;cases hq:(g3 ru.1).isSome with
     | true=>rfl
     | false=>rw [hq] at c5;exact absurd rfl c5
    obtain⟨k,ek⟩:=kS.mp Yy;have hg:bX H8 d (.str ru.1) (some (.int k)):=by
     have:=bX.k (k:=Sum.inr ru.1) S5.hd;rw [S5.val,ek] at this;exact this
    refine⟨fl,pm,c',fg,rfl,_,rfl,_,rfl,_,rfl,d,_,rfl,hg,fl5,c5',rfl,YM (aM g3 ru) k _ _ ⟨_,rfl,?_⟩⟩;refine dj (λc6=>?_) (λc6=>?_)
    .have fr:b9 bt g3 ru=true:=by
      unfold b9;rw [c4,ek];show (true && (false || bt (aM g3 ru) k))=true
      rw [c6];rfl
     refine⟨_,rfl,_,rfl,_,rfl,d,_,rfl,mf.k (k:=Sum.inr ru.1) S5.hd (bF ∅),?_⟩;exact⟨_,_,cZ g3 ru.1 (aM g3 ru),true,_,_,_,rfl,S5.put nj (aM g3 ru),(av fr).symm⟩
    have fr:¬b9 bt g3 ru=true:=by
     unfold b9;rw [c4,ek];show ¬(true && (false || bt (aM g3 ru) k))=true
     rw [nS.mpr c6];exact nofun
    exact⟨kx,BO,g3,wK,_,_,_,rfl,S5,(ax fr).symm⟩
   have e5:sstep bt (g3,wK) ru=(g3,wK):=ax (λz=>c4 (by unfold b9 at z;exact(rp.mp z).1));exact⟨kx,BO,g3,wK,_,_,_,rfl,S4,e5.symm⟩
  rintro σ H6 ⟨kx,BO,g3,wK,y4,y5,y6,rfl,S3,e3⟩;rw [aB,ll,cU] at e3;exact⟨kx,BO,g3,wK,_,_,_,rfl,S3,e3⟩
 rcases cs with ⟨c',_⟩ | ⟨_,se⟩
 .rw [c'] at c;exact absurd rfl c
 exact⟨_,rfl,qq d6 ON g2 H5 S2.sm S2.hd S2.keys S2.val EM se (by have:=S2.len;omega)⟩
end
end fh
namespace M11
open PySem L2
theorem fold_lt {bt:Int->Int->Bool}{aa:List au}{J:G->Prop}{r:G->G->Prop}(tr:∀a b c,r a b->r b c->r a c)
  (u_:∀g ru,J g->ru∈aa->b9 bt g ru=true->J (cZ g ru.1 (aM g ru))/\r (cZ g ru.1 (aM g ru)) g) :
  ∀(l:List au)(a:G×Bool),(∀ru∈l,ru∈aa)->J a.1->J (l.foldl (sstep bt) a).1/\(l.foldl (sstep bt) a=a\/r (l.foldl (sstep bt) a).1 a.1)
 | [],a,_,j=>⟨j,.inl rfl⟩
 | ru::l,a,h,j=>by
  by_cases c:b9 bt a.1 ru=true
  .have e:sstep bt a ru=(cZ a.1 ru.1 (aM a.1 ru),true):=av c;obtain⟨j1,r1⟩:=u_ a.1 ru j (h ru bp) c;obtain⟨j2,r2⟩:=fold_lt tr u_ l (cZ a.1 ru.1 (aM a.1 ru),true) (λx hx=>h x (bC _ hx)) j1;rw [List.foldl_cons,e];refine⟨j2,.inr ?_⟩;rcases r2 with r2 | r2
   .rw [r2];exact r1
   exact tr _ _ _ r2 r1
  have e:sstep bt a ru=a:=ax c;rw [List.foldl_cons,e];exact fold_lt tr u_ l a (λx hx=>h x (bC _ hx)) j
def wm {bt:Int->Int->Bool}{aa:List au}{J:G->Prop}{r:G->G->Prop}(tr:∀a b c,r a b->r b c->r a c)
  (u_:∀g ru,J g->ru∈aa->b9 bt g ru=true->J (cZ g ru.1 (aM g ru))/\r (cZ g ru.1 (aM g ru)) g){g:G}(h:Acc r g)(j:J g):∃n,nO bt aa n g:=by
 induction h with
 | intro g _ ih =>
  cases c:(qU bt aa g).2 with
  | false=>exact⟨0,c⟩
  | true =>
   obtain⟨j2,r2⟩:=fold_lt tr u_ aa (g,false) (λ_ h=>h) j;have r3:r (qU bt aa g).1 g:=by
    rcases r2 with r2 | r2
    .have e:(qU bt aa g)=(g,false):=r2;rw [e] at c;cases c
    exact r2
   obtain⟨n,hn⟩:=ih _ r3 j2;exact⟨n+1,.inr hn⟩
def du.keep {bt:Int->Int->Bool}{aa:List au}{J:G->Prop}(u_:∀g ru,J g->ru∈aa->b9 bt g ru=true->J (cZ g ru.1 (aM g ru))){g g':G}(h:du bt aa g g')(j:J g):J g':=by
 induction h with
 | refl=>exact j
 | step _ a b ih=>exact u_ _ _ ih a b
def dP (f:Str->Nat) (hs:List Str):Nat:=(hs.map f).sum
theorem vA {f k:Str->Nat}:∀{hs:List Str},(∀x∈hs,f x<=k x)->dP f hs<=dP k hs
 | [],_=>aF _
 | h::r,q=>by
  have h1:=q h bp;have h2:=vA (hs:=r) λx hx=>q x (bC _ hx);show f h+dP f r<=k h+dP k r;omega
theorem kU {f k:Str->Nat}:∀{hs:List Str}{h:Str},(∀x∈hs,f x<=k x)->h∈hs->f h < k h->dP f hs < dP k hs
 | a::r,h,q,m,l=>by
  have h1:=q a bp;have h2:∀x∈r,f x<=k x:=λx hx=>q x (bC _ hx);show f a+dP f r < k a+dP k r;rcases aQ.mp m with z | z
  .have:=vA h2;rw [z] at l;omega
  have:=kU h2 z l;omega
theorem iO (g:G)(J:∀z n,g z=some n->(0:Int)<=n):∀ps:List Str,0<=(ps.map λp=>(g p).getD 0).sum
 | []=>by simp
 | p::r=>by
  have h1:=iO g J r;have h2:0<=(g p).getD 0:=by
   cases e:g p with
   | none=>exact ml _
   | some n=>exact J p n e
  rw [bu,jd];omega
def NN (g:G):Prop:=∀z n,g z=some n->(0:Int)<=n
def uC {g:G}(j:NN g)(ru:au):NN (cZ g ru.1 (aM g ru)):=λz n e=>by
 unfold cZ at e;by_cases c:z=ru.1
 .rw [av c] at e;cases e;have:=iO g j ru.2;unfold aM;omega
 rw [ax c] at e;exact j z n e
def bl (a b:Int):Bool:=decide (a < b)
def bg (a b:Int):Bool:=decide (a > b)
def yD (hs:List Str)(g' g:G):Prop :=
 dP (λh=>if (g' h).isSome then 0 else 1) hs < dP (λh=>if (g h).isSome then 0 else 1) hs \/
 (dP (λh=>if (g' h).isSome then 0 else 1) hs=dP (λh=>if (g h).isSome then 0 else 1) hs/\dP (λh=>((g' h).getD 0).toNat) hs < dP (λh=>((g h).getD 0).toNat) hs)
def F8 (hs:List Str)(g:G):Acc (yD hs) g:=by
 have wf:=(Prod.lex (β:=Nat) (α:=Nat) ⟨(· < ·),Nat.lt_wfRel.wf⟩ ⟨(· < ·),Nat.lt_wfRel.wf⟩).wf;have key:∀p:Nat×Nat,∀g:G,(dP (λh=>if (g h).isSome then 0 else 1) hs,dP (λh=>((g h).getD 0).toNat) hs)=p->Acc (yD hs) g:=λp=>by
  induction p using wf.induction with
  | _ p ih =>
   intro g e;refine⟨g,λg' r=>ih _ ?_ g' rfl⟩;rw [<-e];rcases r with r | ⟨r1,r2⟩
   .exact Prod.Lex.left _ _ r
   show Prod.Lex _ _ (dP (λh=>if (g' h).isSome then 0 else 1) hs,_) _;rw [r1];exact Prod.Lex.right _ r2
 exact key _ g rfl
def Jw (hs:List Str)(a b c:G)(h:yD hs a b)(k:yD hs b c):yD hs a c:=by
 unfold yD at *;omega
def DA {aa:List au}(g:G)(ru:au)(j:NN g)(m:ru∈aa)(f:b9 bl g ru=true):NN (cZ g ru.1 (aM g ru))/\yD (aa.map (·.1)) (cZ g ru.1 (aM g ru)) g:=by
 refine⟨uC j ru,?_⟩;have hm:ru.1∈aa.map (·.1):=il m;have nn:=uC j ru;have nJ:cZ g ru.1 (aM g ru) ru.1=some (aM g ru):=av rfl;have ne:∀z,z≠ru.1->cZ g ru.1 (aM g ru) z=g z:=λz n=>ax n;unfold b9 at f;have f2:=(rp.mp f).2;cases e:g ru.1 with
 | none =>
  refine .inl (kU (λx _=>?_) hm ?_)
  .by_cases c:x=ru.1
   .show (if (cZ g ru.1 (aM g ru) x).isSome then 0 else 1)<=_;rw [c,nJ];exact cT _
   show (if (cZ g ru.1 (aM g ru) x).isSome then 0 else 1)<=_;rw [ne x c];exact aF _
  show (if (cZ g ru.1 (aM g ru) ru.1).isSome then 0 else 1) < (if (g ru.1).isSome then 0 else 1);rw [nJ,e];show 0 < 1;exact Nat.one_pos
 | some k =>
  rw [e] at f2;have lt:aM g ru < k:=cK (by simpa [bl] using f2);have h0:=nn ru.1 _ nJ;refine .inr ⟨?_,kU (λx _=>?_) hm ?_⟩
  .unfold dP
   congr 1
   refine List.map_congr_left λx _=>?_;by_cases c:x=ru.1
   .show (if (cZ g ru.1 (aM g ru) x).isSome then 0 else 1)=(if (g x).isSome then 0 else 1);rw [c,nJ,e];rfl
   show (if (cZ g ru.1 (aM g ru) x).isSome then 0 else 1)=(if (g x).isSome then 0 else 1);rw [ne x c]
  .by_cases c:x=ru.1
   .show ((cZ g ru.1 (aM g ru) x).getD 0).toNat<=((g x).getD 0).toNat;rw [c,nJ,e];show (aM g ru).toNat<=k.toNat;omega
   show ((cZ g ru.1 (aM g ru) x).getD 0).toNat<=((g x).getD 0).toNat;rw [ne x c];exact aF _
  show ((cZ g ru.1 (aM g ru) ru.1).getD 0).toNat < ((g ru.1).getD 0).toNat;rw [nJ,e];show (aM g ru).toNat < k.toNat;omega
def yE (aa:List au)(g:G)(j:NN g):∃n,nO bl aa n g:=wm (Jw (aa.map (·.1))) (λg ru=>DA g ru) (F8 _ g) j
inductive Em (aa:List au):Str->Prop
 | mk {ru:au}:ru∈aa->(∀p∈ru.2,Em aa p)->Em aa ru.1
def wZ (aa:List au)(b:Str->Int):Prop:=(∀z,0<=b z)/\∀ru∈aa,(∀p∈ru.2,Em aa p)->1+(ru.2.map b).sum<=b ru.1
def GJ (aa:List au)(b:Str->Int)(g:G):Prop:=∀z n,g z=some n->0<=n/\n<=b z/\Em aa z
theorem zz {aa:List au}{b:Str->Int}{g:G}(j:GJ aa b g)(hb:∀z,0<=b z):∀ps:List Str,(ps.map λp=>(g p).getD 0).sum<=(ps.map b).sum
 | []=>by simp
 | p::r=>by
  have h1:=zz j hb r;have h2:(g p).getD 0<=b p:=by
   cases e:g p with
   | none=>exact hb p
   | some n=>exact(j p n e).2.1
  rw [bu,jd,bu,jd];omega
def gm (b:Str->Int)(g:G)(h:Str):Nat:=if (g h).isSome then (b h - (g h).getD 0).toNat else (b h).toNat+1
def qi {aa:List au}{b:Str->Int}(B:wZ aa b)(g:G)(ru:au)(j:GJ aa b g)(m:ru∈aa)(f:b9 bg g ru=true) :
  GJ aa b (cZ g ru.1 (aM g ru))/\dP (gm b (cZ g ru.1 (aM g ru))) (aa.map (·.1)) < dP (gm b g) (aa.map (·.1)):=by
 have hm:ru.1∈aa.map (·.1):=il m;have nJ:cZ g ru.1 (aM g ru) ru.1=some (aM g ru):=av rfl;have ne:∀z,z≠ru.1->cZ g ru.1 (aM g ru) z=g z:=λz n=>ax n;unfold b9 at f;obtain⟨f1,f2⟩:=rp.mp f;have em:∀p∈ru.2,Em aa p:=λp hp=>by
  obtain⟨n,en⟩:=kS.mp (gb.mp f1 p hp);exact(j p n en).2.2
 have bd:=B.2 ru m em;have sb:=zz j B.1 ru.2;have s0:=iO g (λz n e=>(j z n e).1) ru.2;have sz:0<=aM g ru/\aM g ru<=b ru.1:=by unfold aM;omega
 refine⟨λz n e=>?_,kU (λx _=>?_) hm ?_⟩
 .by_cases c:z=ru.1
  .rw [c,nJ] at e;cases e;rw [c];exact⟨sz.1,sz.2,.mk m em⟩
  rw [ne z c] at e;exact j z n e
 .by_cases c:x=ru.1
  .rw [c];unfold gm;rw [nJ];show (b ru.1 - aM g ru).toNat<=_;cases e:g ru.1 with
   | none=>show _<=(b ru.1).toNat+1;omega
   | some k =>
    rw [e] at f2;have lt:aM g ru > k:=cK (by simpa [bg] using f2);show _<=(b ru.1 - k).toNat;omega
  unfold gm;rw [ne x c];exact aF _
 unfold gm;rw [nJ];show (b ru.1 - aM g ru).toNat < _;cases e:g ru.1 with
 | none=>show _ < (b ru.1).toNat+1;omega
 | some k =>
  rw [e] at f2;have lt:aM g ru > k:=cK (by simpa [bg] using f2);show _ < (b ru.1 - k).toNat;omega
def yM {aa:List au}{b:Str->Int}(B:wZ aa b)(g:G)(j:GJ aa b g):∃n,nO bg aa n g :=
 wm (r:=λg' g=>dP (gm b g') (aa.map (·.1)) < dP (gm b g) (aa.map (·.1))) (λ_ _ _ h k=>j8 h k) (qi B) ((InvImage.wf (λg:G=>dP (gm b g) (aa.map λx:au=>x.1)) Nat.lt_wfRel.wf).apply g) j
def wc {aa:List au}{b:Str->Int}(B:wZ aa b){g g':G}(h:du bg aa g g')(j:GJ aa b g):GJ aa b g':=h.keep (λg ru a m f=>(qi B g ru a m f).1) j
end M11
namespace L2
open PySem
def wC {K:aV}{H:Hp}{p D:Addr}{zs:List Str}{σ:St}{v:V}{x:Str}{Qp:Hp->Prop}(hp:aH K H p (zs.map V.str))(hz:zs.length<=10000)(hD:H D=none)
  (q:∀ts H2,aC H H2->H2 D=some (.lst (ts.map V.ref))->Paired (λt h=>aW K H2 t [.str h,v]) ts zs->Qp H2) :
  ∃W:Nat->Nat->List V->St->Hp->Prop,(∃m,W 0 m [] (dO [x] [] σ) (upd H D (.lst []))) /\
 ∀i m ys σ' H,W i m ys σ' H->((j5 K p).stop i H/\Qp H)\/((j5 K p).go i H/\∃m',m' < m/\∀x H',(j5 K p).mh i H x H'->dM 0 x σ' H' λσ2 H2=>ix σ2 H2 λb H3 =>
  if b=true then qT (fq (fR 0) (fq (tC v) pF)) σ2 H3 λy H4=>H4 D=some (.lst ys)/\ys.length < sizeLine/\W (i+1) m' (ys++[y]) σ2 (upd H4 D (.lst (ys++[y]))) else W (i+1) m' ys σ2 H3):=by
 refine bT (xs:=zs.map V.str) (λi ys σ2 H2=>∃ts:List Addr,ys=ts.map V.ref/\ts.length=i/\Paired (λt h=>aW K H2 t [.str h,v]) ts (zs.take i)/\(∃y0,σ2=[y0])/\aC H H2/\H2 D=some (.lst ys))
  ⟨[],rfl,rfl,.nil,⟨none,rfl⟩,af hD _,ae⟩ (λi ys σ2 H2 _ h=>?_) (λi x ys σ2 H2 ex h=>?_) (λys σ2 H2 h=>?_)
 .obtain⟨_,_,_,_,_,sm,_⟩:=h;exact sm.seq hp
 .obtain⟨ts,rfl,ht,uM,⟨y0,rfl⟩,sm,hd⟩:=h;rw [bo] at ex;obtain⟨z,ez,rfl⟩:=cg.mp ex;have li:=(bA.mp ez).1;refine goN (vb ?_);refine⟨_,rfl,gE,λt g7=>⟨?_,bF (by rw [aB];omega),ts++[t],?_,?_,?_,⟨_,rfl⟩,?_,ae⟩⟩
  .rw [ai (ao hd g7)];exact hd
  .rw [bw];rfl
  .rw [cu,ht];rfl
  .rw [cP,ez];have gO:upd H2 t (.tup [.str z,v]) D=some (.lst (ts.map V.ref)):=by rw [ai (ao hd g7)];exact hd
   exact fj (Paired.gy uM λt' h' z=>aN gO ((af g7 _).tup z)) (aN gO (aW.of ae))
  intro b o hb;rw [ai (λz=>by rw [z,hD] at hb;cases hb)];exact af g7 _ _ _ (sm b o hb)
 obtain⟨ts,rfl,ht,uM,_,sm,hd⟩:=h;rw [aB,cU] at uM;exact q ts H2 sm hd uM
def Tab.same {T:Addr}{pos:Pos}{qual:Str}{H H':Hp}(h:Tab T pos qual H)(s:aC H H'):Tab T pos qual H':=by
 obtain⟨ps,a,b,c⟩:=h;refine⟨ps,s _ _ a,b,c.imp id ?_⟩;rintro⟨c',e,g⟩;exact⟨c',e,s _ _ g⟩
def Tab.Hk {T d:Addr}{pos:Pos}{qual:Str}{H H':Hp}{kvs:List (aI×V)}(h:Tab T pos qual H)(s:eQ d H H')(hd:H d=some (.dK kvs)):Tab T pos qual H':=by
 obtain⟨ps,a,b,c⟩:=h;refine⟨ps,s _ _ (λz=>by rw [z,hd] at a;cases a) a,b,c.imp id ?_⟩;rintro⟨c',e,g⟩;exact⟨c',e,s _ _ (λz=>by rw [z,hd] at g;cases g) g⟩
structure wV (K:aV)(x qual:Str)(st:Stmt)(f:Addr)(fd:FuncData)(T:Addr):Prop where
 ex:∃(oc:Value)(od:Option Addr)(kV doc pm:Value)(an:Option Addr)(c:Addr)(ct:Value)(vL:Array (Option Value)),
  fd=PySem.W.fnOf x qual (cS st) (bV st) (az st) .none kV doc pm an (.ref c) ct/\K.lookup f=some ⟨oc,od,.func fd,vL⟩/\PySem.W.codeIn K (.ref c) qual=true/\PySem.W.codeHdIn K c T=true
 kp:PySem.W.keepIn K (.ref f)=true
def wV.ok {P:Program}{w:World}{K:aV}{mg:Str->Option Value}{base:Heap}{x qual:Str}{st:Stmt}{f:Addr}{fd:FuncData}{T:Addr}{N ps:List Str}{k:Nat}{sp:Sp}(F:wV K x qual st f fd T)(S:aK N ps (az st))(len:∀vs H Q E,sp vs H Q E->vs.length=ps.length)
  (iE:∀(c:Addr)(A:Around)(outer:List Env)(s:Shared)(H:Hp)(vs:List V)(Q:VK)(E:XK),PySem.W.codeHdIn K c T=true->dX k (A.deeper (PyProof.Rows.envOfC qual (az st) s.heap.objs.size f (.ref c)))->sp vs H Q E ->
   ∃t,zg (nE e_ P w K mg base N qual (az st) f (.ref c) A outer s H E).AS (bV st) t/\t { nx:=λ_ H'=>Q .eJ H',rt:=Q } (start N vs) H):bI P w K mg base e_ (k+1) f fd ps sp:=by
 obtain⟨oc,od,kV,doc,pm,an,c,ct,vL,rfl,lk,uP,hC⟩:=F.ex;refine Eb lk uP S len λA outer s H vs Q E hr xf=>?_;obtain⟨t,h,q⟩:=iE c A outer s H vs Q E hC hr xf;exact⟨t,h.AS,q⟩
theorem rW {v:V}:∀(hs:List Str)(bf:List (aI×V)) (as:List Str),bf.map (·.1)=as.map Sum.inr->(cE (hs.map λh=>((Sum.inr h:aI),v)) bf).map (·.1)=(M11.uS as hs).map Sum.inr
 | [],bf,as,e=>e
 | h::r,bf,as,e=>rW r (bj bf (Sum.inr h) v) (M11.gw as h) (fh.jy e h)
theorem pD {v:V}:∀(hs:List Str)(bf:List (aI×V))(z:Str),aY (cE (hs.map λh=>((Sum.inr h:aI),v)) bf) (Sum.inr z)=if z∈hs then some v else aY bf (Sum.inr z)
 | [],bf,z=>by simp [cE]
 | h::r,bf,z=>by
  have ih:=pD (v:=v) r (bj bf (Sum.inr h) v) z;show aY (cE (r.map λh=>((Sum.inr h:aI),v)) (bj bf (Sum.inr h) v)) (Sum.inr z)=_;rw [ih,vq];by_cases c:z∈r
  .rw [av c,av (bC _ c)]
  rw [ax c];by_cases c2:z=h
  .rw [av (by rw [c2]),av (by rw [c2];exact bp)]
  rw [ax (λe=>c2 (j7 e)),ax (λe=>(aQ.mp e).elim c2 c)]
end L2
namespace fh
open PySem L2 M11
def MK:List Stmt->Arguments×Expr×Scope×Pos
 | [.Return (some (.Call _ [_,_,.Lambda p b s pos] _ _)) _]=>(p,b,s,pos)
 | _=>(⟨[],[],none,[],[],none,[]⟩,.Constant .none 0 ⟨0,0,0,0⟩,az pR,⟨0,0,0,0⟩)
abbrev p6:=MK (bV pR)
abbrev yC:=MK (bV uh)
abbrev w_:Str := "least_sizes" ++ ".<locals>." ++ "<lambda>"
abbrev Hy:Str := "greatest_empty_sizes" ++ ".<locals>." ++ "<lambda>"
def IH:aK ["size","known"] ["size","known"] p6.2.2.1:=iL rfl rfl rfl rfl nofun
def II:aK ["size","known"] ["size","known"] yC.2.2.1:=iL rfl rfl rfl rfl nofun
section
def yn (F:hZ K "settled_sizes" "settled_sizes" lg f fd)(T:Txt mg):bI P w K mg base e_ 2 f fd ["rules","sizes","better"] (gQ K w_ p6.1 p6.2.1 p6.2.2.1 M11.bl) :=
 rT F T IH (λpm fg c' us hl=>match us,hl with | [_,_],_=>rfl) (λ_ _ _ _ _ _=>hU pX (pv 0) (pv 1) (bL _)) (λa b H Q h=>⟨_,rfl,_,rfl,_,_,rfl,rfl,h⟩)
def yo (F:hZ K "settled_sizes" "settled_sizes" lg f fd)(T:Txt mg):bI P w K mg base e_ 2 f fd ["rules","sizes","better"] (gQ K Hy yC.1 yC.2.1 yC.2.2.1 M11.bg) :=
 rT F T II (λpm fg c' us hl=>match us,hl with | [_,_],_=>rfl) (λ_ _ _ _ _ _=>hU pY (pv 0) (pv 1) (bL _)) (λa b H Q h=>⟨_,rfl,_,rfl,_,_,rfl,rfl,h⟩)
def vc (aa:List au):G:=λz=>if z∈oB (hd aa) [] (aa.flatMap (·.2)) then some 0 else none
def oE (K:aV)(T1:Addr):Sp:=λvs H Q _=>∃(R:Addr)(rs:List Addr)(aa:List au),vs=[.ref R]/\aH K H R (rs.map V.ref)/\aR K H rs aa/\aa.length<=1000/\(∀ru∈aa,ru.2.length<=8)/\Tab T1 p6.2.2.2 w_ H /\
 ∀(d:Addr)(kvs:List (aI×V)) (ks:List Str)(g:G)(H':Hp),H d=none->eQ T1 H H'->Tab T1 p6.2.2.2 w_ H'->H' d=some (.dK kvs)->kvs.map (·.1)=ks.map Sum.inr->(∀z,aY kvs (Sum.inr z)=(g z).map V.int)->du M11.bl aa (vc aa) g->gM M11.bl aa g->kvs.length<=20000->Q (.ref d) H'
def Fl:aK ["rules"] ["rules"] (az pR):=iL rfl rfl rfl rfl nofun
def Dj {T1:Addr}(F:wV K "least_sizes" "least_sizes" pR f fd T1)(T:Txt mg)(hB:qP mg base)(GW:aE P w K mg base 1 "words_in" ["rules"] (zD K))
  (GS:aE P w K mg base 2 "settled_sizes" ["rules","sizes","better"] (gQ K w_ p6.1 p6.2.1 p6.2.2.1 M11.bl)):bI P w K mg base e_ 3 f fd ["rules"] (oE K T1):=by
 refine F.ok Fl (λvs H Q E h=>?_) (λc A outer s H vs Q E hC hr h=>?_)
 .obtain⟨R,rs,aa,rfl,_⟩:=h;rfl
 obtain⟨R,rs,aa,rfl,hR,cR,bc,h8,hT,q⟩:=h;refine⟨_,aq (a_ (bE GS hr rfl (ab (pv 0) (ab (a7 (dC rfl) rfl T.ve eP (ab
  (bG ["word"] [] rfl (bq (bE (GW.mono (by decide:1<=2)) hr rfl (ab (pv 0) aj))) (br rfl rfl) nofun rfl nofun
   (λ_ _ _ _ _=>ay (i:=0) (show (["word"]:List Str).Nodup by decide +kernel) rfl (bJ rfl)) (λ_ _ _ _ _=>b_)
   (λ_ _ _ _ _=>aP (ab (pv 0) (ab ar aj)))) aj)) (ab (C1 (T:=T1) rfl hC hB nofun) aj))))),?_⟩
 dsimp only [qx];refine⟨_,rfl,_,rfl,R,rs,aa,rfl,hR,cR,bc,h8,λD1 H1 f1 s1 e1=>?_⟩;have lw:(oB (hd aa) [] (aa.flatMap (·.2))).length<=8000:=by
  have h1:=tO (hd aa) (aa.flatMap (·.2)) [];have h2:=iF aa 1000 bc h8;simp only [i0] at h1;omega
 refine⟨D1,rfl,⟨_,aH.of e1⟩,λD2 jM=>wC (aH.of e1) ∅ jM λts H2 s2 e2 p2=>?_⟩;have kp:Paired (λt (kv:aI×V)=>aW K H2 t [kV kv.1,kv.2]) ts ((oB (hd aa) [] (aa.flatMap (·.2))).map λh=>((Sum.inr h:aI),V.int 0)):=cy p2 λ_ _ z=>z;refine⟨D2,ts,_,rfl,e2,kp,λd hd2=>?_⟩;have k1:=rW (v:=.int 0) (oB (hd aa) [] (aa.flatMap (·.2))) [] [] rfl;have k2:∀z,aY (cE ((oB (hd aa) [] (aa.flatMap (·.2))).map λh=>((Sum.inr h:aI),V.int 0)) []) (Sum.inr z)=(vc aa z).map V.int:=λz=>by
  rw [pD];unfold vc
  split <;> rfl
 have lk:=hX (oB (hd aa) [] (aa.flatMap (·.2))) [];simp only [i0] at lk;generalize cE ((oB (hd aa) [] (aa.flatMap (·.2))).map λh=>((Sum.inr h:aI),V.int 0)) []=MQ at k1 k2;have s3:=(s1.trans s2).trans (af hd2 (.dK MQ));have e3:upd H2 d (.dK MQ) d=some (.dK MQ):=ae;have vd:H d=none:=(s1.trans s2).free hd2;generalize upd H2 d (.dK MQ)=H3 at s3 e3;refine⟨hT.same s3,λfl c' fg H4 s4 t4 ffl e4 SE=>?_⟩;have nT:d≠T1:=λz=>by
  obtain⟨ps,a,_⟩:=hT.same s3;rw [<-z,e3] at a;cases a
 have xj:=s4 d _ nT e3;have QG:∀{a xs},aW K H a xs->aW K H4 a xs:=λ{a xs} h=>by
  obtain⟨ps,b,_⟩:=hT;rcases h with (h | ⟨u,h⟩) | h
  .exact .inl (.inl (s4 _ _ (λz=>by rw [z,b] at h;cases h) (s3 _ _ h)))
  .exact .inl (.inr ⟨u,s4 _ _ (λz=>by rw [z,b] at h;cases h) (s3 _ _ h)⟩)
  exact .inr h
 have QH:∀{a xs},aH K H a xs->aH K H4 a xs:=λ{a xs} h=>by
  obtain⟨ps,b,_⟩:=hT;rcases h with (h | ⟨u,h⟩) | h
  .exact .inl (.inl (s4 _ _ (λz=>by rw [z,b] at h;cases h) (s3 _ _ h)))
  .exact .inl (.inr ⟨u,s4 _ _ (λz=>by rw [z,b] at h;cases h) (s3 _ _ h)⟩)
  exact .inr h
 refine⟨R,rs,aa,d,fl,c',_,fg,MQ,_,vc aa,rfl,QH hR,cR.keep λ_ _ z=>QG z,bc,h8,xj,k1,ny _ jT,∅,k2,yE aa _ λz n e=>?_,e4,SE,λky MR g' H5 s5 e5 k5 v5 st se UO=>?_⟩
 .unfold vc at e
  split at e
  .cases e;exact ml _
  cases e
 refine q d ky MR g' H5 vd (λb o n hb=>s5 b o (λz=>?_) (s4 b o n (s3 b o hb))) (t4.Hk s5 xj) e5 k5 v5 st se UO;rw [z,vd] at hb;cases hb
def tT (K:aV)(T2:Addr):Sp:=λvs H Q _=>∃(R:Addr)(rs:List Addr)(aa:List au)(b:Str->Int),vs=[.ref R]/\aH K H R (rs.map V.ref)/\aR K H rs aa/\aa.length<=1000/\(∀ru∈aa,ru.2.length<=8)/\wZ aa b/\Tab T2 yC.2.2.2 Hy H /\
 ∀(d:Addr)(kvs:List (aI×V)) (ks:List Str)(g:G)(H':Hp),H d=none->eQ T2 H H'->Tab T2 yC.2.2.2 Hy H'->H' d=some (.dK kvs)->kvs.map (·.1)=ks.map Sum.inr->(∀z,aY kvs (Sum.inr z)=(g z).map V.int)->GJ aa b g->du M11.bg aa (λ_=>none) g->gM M11.bg aa g->Q (.ref d) H'
def Fp:aK ["rules"] ["rules"] (az uh):=iL rfl rfl rfl rfl nofun
def Dm {T2:Addr}(F:wV K "greatest_empty_sizes" "greatest_empty_sizes" uh f fd T2)(hB:qP mg base)
  (GS:aE P w K mg base 2 "settled_sizes" ["rules","sizes","better"] (gQ K Hy yC.1 yC.2.1 yC.2.2.1 M11.bg)):bI P w K mg base e_ 3 f fd ["rules"] (tT K T2):=by
 refine F.ok Fp (λvs H Q E h=>?_) (λc A outer s H vs Q E hC hr h=>?_)
 .obtain⟨R,rs,aa,b,rfl,_⟩:=h;rfl
 obtain⟨R,rs,aa,b,rfl,hR,cR,bc,h8,VA,hT,q⟩:=h;refine⟨_,aq (a_ (bE GS hr rfl (ab (pv 0) (ab fI (ab (C1 (T:=T2) rfl hC hB nofun) aj))))),?_⟩;refine⟨_,rfl,λd vd=>?_⟩;have s3:=af vd (.dK []);have e3:upd H d (.dK []) d=some (.dK []):=ae;generalize upd H d (.dK [])=H3 at s3 e3;refine⟨hT.same s3,λfl c' fg H4 s4 t4 ffl e4 SE=>?_⟩;have nT:d≠T2:=λz=>by
  obtain⟨ps,a,_⟩:=hT.same s3;rw [<-z,e3] at a;cases a
 have xj:=s4 d _ nT e3;have QG:∀{a xs},aW K H a xs->aW K H4 a xs:=λ{a xs} h=>by
  obtain⟨ps,b,_⟩:=hT;rcases h with (h | ⟨u,h⟩) | h
  .exact .inl (.inl (s4 _ _ (λz=>by rw [z,b] at h;cases h) (s3 _ _ h)))
  .exact .inl (.inr ⟨u,s4 _ _ (λz=>by rw [z,b] at h;cases h) (s3 _ _ h)⟩)
  exact .inr h
 have QH:∀{a xs},aH K H a xs->aH K H4 a xs:=λ{a xs} h=>by
  obtain⟨ps,b,_⟩:=hT;rcases h with (h | ⟨u,h⟩) | h
  .exact .inl (.inl (s4 _ _ (λz=>by rw [z,b] at h;cases h) (s3 _ _ h)))
  .exact .inl (.inr ⟨u,s4 _ _ (λz=>by rw [z,b] at h;cases h) (s3 _ _ h)⟩)
  exact .inr h
 have j0:GJ aa b (λ_=>none):=λz n e=>nomatch e;refine⟨R,rs,aa,d,fl,c',_,fg,[],[],λ_=>none,rfl,QH hR,cR.keep λ_ _ z=>QG z,bc,h8,xj,rfl,jT,cT _,λ_=>rfl,yM VA _ j0,e4,SE,λky MR g' H5 s5 e5 k5 v5 st se UO=>?_⟩;refine q d ky MR g' H5 vd (λb o n hb=>s5 b o (λz=>?_) (s4 b o n (s3 b o hb))) (t4.Hk s5 xj) e5 k5 v5 (wc VA st j0) st se;rw [z,vd] at hb;cases hb
end
end fh
namespace M11
open PySem L2
def Bh (b:Str->Bool) (zs:List Str) (i:Nat):List Int:=((List.range i).filter λj=>!(zs[j]?.elim true b)).map λj:Nat=>(j:Int)
def wg (b:Str->Bool) (zs:List Str) (i:Nat){z:Str}(e:zs[i]?=some z):Bh b zs (i+1)=Bh b zs i++(if b z=true then [] else [(i:Int)]):=by
 unfold Bh;rw [List.range_succ,kQ,bw]
 congr 1
 by_cases h:b z=true
 .rw [av h];simp [e,h]
 rw [ax h];simp [e,h]
def Gr (b:Str->Bool) (zs:List Str) (i:Nat):(Bh b zs i).length<=i:=by
 unfold Bh;rw [aB];have:=oU (λj=>!(zs[j]?.elim true b)) (List.range i);rw [oS] at this;exact this
def F7 (b:Str->Bool) (zs:List Str) (j:Nat):Bool:=decide ([]=Bh b zs zs.length) || decide ([(j:Int)]=Bh b zs zs.length)
def Lr (aa:List au) (names:List Str)(b:Str->Bool)(n:Str) (k j:Nat):Prop:=∃ru z,aa[k]?=some ru/\ru.1=n/\ru.2[j]?=some z/\z∈names/\F7 b ru.2 j=true
end M11
namespace L2
open PySem M11
def iK (p:Str×Addr):aI×V:=(Sum.inr p.1,.ref p.2)
theorem lY:∀(ps bf:List (aI×V)),((bf++ps).map (·.1)).Nodup->cE ps bf=bf++ps
 | [],bf,_=>by simp [cE]
 | p::r,bf,h=>by
  have n:aY bf p.1=none:=by
   cases e:aY bf p.1 with
   | none=>rfl
   | some v =>
    have hm:=(dB bf p.1).mp (by rw [e];rfl);rw [bw,bu] at h;exact absurd rfl ((ik.mp h).2.2 p.1 hm p.1 bp)
  show cE r (bj bf p.1 p.2)=_;rw [vG p.2 n,lY r (bf++[(p.1,p.2)]) (by rw [gh];exact h),gh];rfl
theorem fP:∀(ps:List (Str×Addr)),(ps.map (·.1)).Nodup->∀p∈ps,aY (ps.map iK) (Sum.inr p.1)=some (.ref p.2)
 | q::r,h,p,hp=>by
  rw [bu] at h ⊢;rcases aQ.mp hp with z | z
  .rw [z];exact dF rfl
  rw [dG,fP r (nQ.mp h).2 p z];intro e;have e':q.1=p.1:=j7 e;exact(nQ.mp h).1 (by rw [e'];exact il z)
def lP (ps:List (Str×Addr)):(ps.map iK).map (·.1)=(ps.map (·.1)).map Sum.inr:=by
 rw [g8,g8];rfl
def qC {K:aV}{H:Hp}{p D:Addr}{zs:List Str}{σ:St}{x:Str}{Qp:Hp->Prop}(hp:aH K H p (zs.map V.str))(hz:zs.length<=10000)(hD:H D=none)
  (q:∀ts (ps:List (Str×Addr)) H2,aC H H2->H2 D=some (.lst (ts.map V.ref))->ps.map (·.1)=zs->Paired (λt (p:Str×Addr)=>aW K H2 t [.str p.1,.ref p.2]) ts ps->(∀p∈ps,H2 p.2=some (.lst [])/\H p.2=none/\p.2≠D)->(ps.map (·.2)).Nodup->Qp H2) :
  ∃W:Nat->Nat->List V->St->Hp->Prop,(∃m,W 0 m [] (dO [x] [] σ) (upd H D (.lst []))) /\
 ∀i m ys σ' H,W i m ys σ' H->((j5 K p).stop i H/\Qp H)\/((j5 K p).go i H/\∃m',m' < m/\∀x H',(j5 K p).mh i H x H'->dM 0 x σ' H' λσ2 H2=>ix σ2 H2 λb H3 =>
  if b=true then qT (fq (fR 0) (fq (LJ pF) pF)) σ2 H3 λy H4=>H4 D=some (.lst ys)/\ys.length < sizeLine/\W (i+1) m' (ys++[y]) σ2 (upd H4 D (.lst (ys++[y]))) else W (i+1) m' ys σ2 H3):=by
 refine bT (xs:=zs.map V.str) (λi ys σ2 H2=>∃(ts:List Addr)(ps:List (Str×Addr)),ys=ts.map V.ref/\ts.length=i/\ps.map (·.1)=zs.take i/\Paired (λt (p:Str×Addr)=>aW K H2 t [.str p.1,.ref p.2]) ts ps /\
   (∀p∈ps,H2 p.2=some (.lst [])/\H p.2=none/\p.2≠D)/\(ps.map (·.2)).Nodup/\(∃y0,σ2=[y0])/\aC H H2/\H2 D=some (.lst ys))
  ⟨[],[],rfl,rfl,rfl,.nil,by simp,by simp,⟨none,rfl⟩,af hD _,ae⟩ (λi ys σ2 H2 _ h=>?_) (λi x ys σ2 H2 ex h=>?_) (λys σ2 H2 h=>?_)
 .obtain⟨_,_,_,_,_,_,_,_,_,sm,_⟩:=h;exact sm.seq hp
 .obtain⟨ts,ps,rfl,ht,hm,uM,hl,hn,⟨y0,rfl⟩,sm,hd⟩:=h;rw [bo] at ex;obtain⟨z,ez,rfl⟩:=cg.mp ex;have li:=(bA.mp ez).1;refine goN (vb ?_);refine⟨_,rfl,qQ,λl qf=>⟨gE,λt g7=>?_⟩⟩;have Jn:l≠D:=(ao hd qf).symm;have nt:t≠l:=λe=>by rw [e,ae] at g7;cases g7
  have M4:H2 t=none:=by rw [ai nt] at g7;exact g7
  have Xu:t≠D:=(ao hd M4).symm;have tW:aC H2 (upd (upd H2 l (.lst [])) t (.tup [.str z,.ref l])):=(af qf _).trans (af g7 _);have gO:=tW _ _ hd;have el:upd (upd H2 l (.lst [])) t (.tup [.str z,.ref l]) l=some (.lst []):=by rw [ai nt.symm,ae]
  have et:aW K (upd (upd H2 l (.lst [])) t (.tup [.str z,.ref l])) t [.str z,.ref l]:=aW.of ae;generalize upd (upd H2 l (.lst [])) t (.tup [.str z,.ref l])=H4 at tW gO el et;refine⟨gO,bF (by rw [aB];omega),ts++[t],ps++[(z,l)],by rw [bw];rfl,by rw [cu,ht];rfl,by rw [bw,hm,cP,ez];rfl,?_,?_,?_,⟨_,rfl⟩,?_,ae⟩
  .exact fj (Paired.gy uM λt' h' z=>aN gO (tW.tup z)) (aN gO et)
  .intro p' kF;rcases bN.mp kF with h | h
   .obtain⟨a1,a2,a3⟩:=hl p' h;exact⟨by rw [ai a3];exact tW _ _ a1,a2,a3⟩
   rw [bx.mp h];exact⟨by rw [ai Jn];exact el,sm.free qf,Jn⟩
  .rw [bw];refine ik.mpr ⟨hn,by simp,λa ha b hb e=>?_⟩;rw [rj,bx] at hb;obtain⟨p',kF,rfl⟩:=cA.mp ha;have:=(hl p' kF).1;rw [e,hb] at this;rw [show H2 l=none from qf] at this;cases this
  intro b o hb;rw [ai (λz=>by rw [z,hD] at hb;cases hb)];exact tW _ _ (sm b o hb)
 obtain⟨ts,ps,rfl,ht,hm,uM,hl,hn,_,sm,hd⟩:=h;rw [aB,cU] at hm;exact q ts ps H2 sm hd hm uM hl hn
def wG {K:aV}{H:Hp}{p D d:Addr}{zs:List Str}{kvs:List (aI×V)}{σ:St}{js:List (Nat×Str)}{Qp:Hp->Prop}(hσ:dO ["place","part"] js σ=[none,none,bz d])(hp:aW K H p (zs.map V.str))(hz:zs.length<=1000)
  (hd:H d=some (.dK kvs))(hD:H D=none)(q:∀H2,aC H H2->H2 D=some (.lst ((Bh (λz=>(aY kvs (Sum.inr z)).isSome) zs zs.length).map V.int))->Qp H2) :
  ∃W:Nat->Nat->List V->St->Hp->Prop,(∃m,W 0 m [] (dO ["place","part"] js σ) (upd H D (.lst []))) /\
 ∀i m ys σ' H,W i m ys σ' H->((qO K p).stop i H/\Qp H)\/((qO K p).go i H/\∃m',m' < m/\∀x H',(qO K p).mh i H x H'->Bc K 2 (jA (dM 0) (jA (dM 1) DY)) x σ' H' λσ2 H2=>tB (zu (fR 1) (fR 2)) σ2 H2 λb H3 =>
  if b=true then fR 0 σ2 H3 λy H4=>H4 D=some (.lst ys)/\ys.length < sizeLine/\W (i+1) m' (ys++[y]) σ2 (upd H4 D (.lst (ys++[y]))) else W (i+1) m' ys σ2 H3):=by
 refine wI (xs:=zs.map V.str) (λi ys σ2 H2=>ys=(Bh (λz=>(aY kvs (Sum.inr z)).isSome) zs i).map V.int/\(∃y0 y1,σ2=[y0,y1,bz d])/\aC H H2/\H2 D=some (.lst ys))
  ⟨rfl,⟨none,none,hσ⟩,af hD _,ae⟩ (λi ys σ2 H2 _ h=>h.2.2.1.tup hp) (λi x ys σ2 H2 t ex h ht=>?_) (λys σ2 H2 h=>?_)
 .obtain⟨rfl,⟨y0,y1,rfl⟩,sm,hd2⟩:=h;rw [bo] at ex;obtain⟨z,ez,rfl⟩:=cg.mp ex;have li:=(bA.mp ez).1;have tW:=sm.trans (af ht (.tup [.int (i:Int),.str z]));have gO:upd H2 t (.tup [.int (i:Int),.str z]) D=some (.lst ((Bh (λz=>(aY kvs (Sum.inr z)).isSome) zs i).map V.int)):=by rw [ai (ao hd2 ht)];exact hd2
  have hv:aW K (upd H2 t (.tup [.int (i:Int),.str z])) t [.int (i:Int),.str z]:=aW.of ae;generalize upd H2 t (.tup [.int (i:Int),.str z])=H3 at tW gO hv;have fl:=Gr (λz=>(aY kvs (Sum.inr z)).isSome) zs i;refine⟨t,_,rfl,hv,rfl,_,_,rfl,_,_,rfl,rfl,?_⟩;refine⟨_,rfl,_,rfl,d,_,rfl,bX.k (k:=Sum.inr z) (tW _ _ hd),_,rfl,?_⟩;refine dj (λc=>?_) (λc=>?_)
  .refine⟨_,rfl,gO,bF (by rw [aB];omega),?_,⟨_,_,rfl⟩,?_,ae⟩
   .rw [wg _ zs i ez,ax (λe=>by rw [e] at c;exact absurd c nofun),bw];rfl
   intro b o hb;rw [ai (λz=>by rw [z,hD] at hb;cases hb)];exact tW b o hb
  refine⟨?_,⟨_,_,rfl⟩,tW,gO⟩;rw [wg _ zs i ez,av,eF];cases hq:(aY kvs (Sum.inr z)).isSome with
  | true=>rfl
  | false=>exact absurd (by rw [hq];rfl) c
 obtain⟨rfl,_,sm,hd2⟩:=h;rw [aB] at hd2;exact q H2 sm hd2
end L2
namespace fh
open PySem L2 M11
section
def uD {l:List Str}(h:l.Nodup):(l.map (Sum.inr:Str->aI)).Nodup:=List.Pairwise.map _ (λa b R3 e=>R3 (j7 e)) h
structure BX (K:aV)(ps:List (Str×Addr))(st:Str->List (Nat×Nat))(H:Hp)(d:Addr):Prop where
 hd:Rd H d (.dK (ps.map iK))
 n1:(ps.map (·.1)).Nodup
 n2:(ps.map (·.2)).Nodup
 lst:∀p∈ps,∃ts,H p.2=some (.lst (ts.map V.ref))/\Paired (λt (e:Nat×Nat)=>aW K H t [.int (e.1:Int),.int (e.2:Int)]) ts (st p.1)
def Rd.same {H H':Hp}{a:Addr}{u:HO}(h:Rd H a u)(s:aC H H'):Rd H' a u:=h.elim (λz=>.inl (s _ _ z)) λ⟨o,z⟩=>.inr ⟨o,s _ _ z⟩
theorem BX.same {ps:List (Str×Addr)}{st:Str->List (Nat×Nat)}{H H':Hp}{d:Addr}(h:BX K ps st H d)(s:aC H H'):BX K ps st H' d :=
 ⟨Rd.same h.hd s,h.n1,h.n2,λp hp=>let ⟨ts,a,b⟩:=h.lst p hp;⟨ts,s _ _ a,Paired.gy b λ_ _ z=>s.tup z⟩⟩
def sI (st:Str->List (Nat×Nat))(n:Str)(e:Nat×Nat):Str->List (Nat×Nat):=λz=>if z=n then st z++[e] else st z
def BX.more {ps:List (Str×Addr)}{st:Str->List (Nat×Nat)}{H:Hp}{d:Addr}(h:BX K ps st H d){p:Str×Addr}(hp:p∈ps){ts:List Addr}{t:Addr}{e:Nat×Nat}(a:H p.2=some (.lst (ts.map V.ref)))
  (b:Paired (λt (e:Nat×Nat)=>aW K H t [.int (e.1:Int),.int (e.2:Int)]) ts (st p.1))(c:aW K H t [.int (e.1:Int),.int (e.2:Int)]) :
  BX K ps (sI st p.1 e) (upd H p.2 (.lst (ts.map V.ref++[.ref t]))) d:=by
 have nd:d≠p.2:=λz=>by
  rcases h.hd with q | ⟨o,q⟩
  .rw [z,a] at q;cases q
  rw [z,a] at q;cases q
 refine⟨?_,h.n1,h.n2,λp' kF=>?_⟩
 .rcases h.hd with q | ⟨o,q⟩
  .exact .inl (by rw [ai nd];exact q)
  exact .inr ⟨o,by rw [ai nd];exact q⟩
 by_cases z:p'=p
 .rw [z];refine⟨ts++[t],by rw [ae,bw];rfl,?_⟩;have e1:sI st p.1 e p.1=st p.1++[e]:=av rfl;rw [e1];exact fj (Paired.gy b λ_ _ z=>aN a z) (aN a c)
 have n1:p'.1≠p.1:=λq=>z (by
  have w1:=fP ps h.n1 p' kF;have w2:=fP ps h.n1 p hp;rw [q,w2] at w1;injection w1 with w3;injection w3 with w4;exact Prod.ext q w4.symm)
 have n2:p'.2≠p.2:=λq=>by
  obtain⟨i,hi,ei⟩:=oT.mp kF;obtain⟨j,hj,ej⟩:=oT.mp hp;have EW:i=j:=by
   refine(o9 (xs:=ps.map (·.2)) (h₀:=by simpa using hi) (h₁:=by simpa using hj) h.n2).mp ?_;rw [mz,mz,ei,ej];exact q
  subst EW;exact z (ei.symm.trans ej)
 obtain⟨T4,a',b'⟩:=h.lst p' kF;refine⟨T4,by rw [ai n2];exact a',?_⟩;have e1:sI st p.1 e p'.1=st p'.1:=ax n1;rw [e1];exact Paired.gy b' λ_ _ z=>aN a z
def zF (K:aV):Sp:=λvs H Q _=>∃(R:Addr)(rs:List Addr)(aa:List au),vs=[.ref R]/\aH K H R (rs.map V.ref)/\aR K H rs aa/\aa.length<=1000/\(∀ru∈aa,ru.2.length<=8) /\
 ∀(d:Addr)(ps:List (Str×Addr))(st:Str->List (Nat×Nat))(aX:List (Str×Nat))(H':Hp),H d=none->aC H H'->H' d=some (.dK (ps.map iK))->BX K ps st H' d->ps.map (·.1)=hd aa->(∀p∈ps,H p.2=none)->u4 aa aX->wX aa aa.length aX ->
  (∀n k j,n∈hd aa->((k,j)∈st n↔Lr aa (hd aa) (λz=>decide (z∈aX.map (·.1))) n k j))->Q (.ref d) H'
def g9:aK ["rules","empty","steps","number","rule","place","part","filled"] ["rules"] (az xU):=iL rfl rfl rfl rfl nofun
def Dd (F:hZ K "steps_with_like_rows" "steps_with_like_rows" xU f fd)(T:Txt mg)(GE:aE P w K mg base 1 "found_empties" ["rules"] (mP K))(GH:aE P w K mg base 1 "heads_of" ["rules"] (jF K)):bI P w K mg base e_ 2 f fd ["rules"] (zF K):=by
 refine F.ok g9 (λvs H Q E h=>?_) (λdN A outer s H vs Q E hr h=>?_)
 .obtain⟨R,rs,aa,rfl,_⟩:=h;rfl
 obtain⟨R,rs,aa,rfl,hR,cR,bc,h8,q⟩:=h;have hu:=gu hr;refine⟨_,ak (aG (i:=1) g9.nd rfl (Or.inr rfl) (a7 (dC rfl) rfl T.ve eP (ab (bE GE hr rfl (ab (pv 0) aj)) aj)))
  (ak (aG (i:=2) g9.nd rfl (bJ rfl) (a7 (dC rfl) rfl T.ve eP (ab
   (bG ["name"] [] rfl (bq (bE GH hr rfl (ab (pv 0) aj))) (br rfl rfl) nofun rfl nofun
    (λ_ _ _ _ _=>ay (i:=0) (show (["name"]:List Str).Nodup by decide +kernel) rfl (bJ rfl)) (λ_ _ _ _ _=>b_)
    (λ_ _ _ _ _=>aP (ab (pv 0) (ab (bD aj) aj)))) aj)))
  (ak (b8 cx rfl (lG rfl T.E3 (ab (pv 0) aj)) (d8 rfl (aD (ay (i:=3) g9.nd rfl (bJ rfl)) (aD (ay (i:=4) g9.nd rfl (bJ rfl)) cb)))
   (ak (g_ (iy:=7) ["place","part"] [(1,"empty")] g9.nd rfl rfl rfl (lF rfl T.E3 (ab (aO cH (pv 4) ar (λ_ _=>rfl)) aj)) (br rfl rfl) nofun rfl nofun
    (λ_ _ _ _ _=>iS (n:=2) K rfl (aD (ay (i:=0) (show (["place","part","empty"]:List Str).Nodup by decide +kernel) rfl (bJ rfl)) (aD (ay (i:=1) (show (["place","part","empty"]:List Str).Nodup by decide +kernel) rfl (bJ rfl)) cb)))
    (λ_ _ _ _ _=>hJ (d7 (di hu (pv 1) (pv 2)))) (λ_ _ _ _ _=>pv 0))
   (aq (b8 cx rfl (lF rfl T.E3 (ab (aO cH (pv 4) ar (λ_ _=>rfl)) aj)) (d8 rfl (aD (ay (i:=5) g9.nd rfl (bJ rfl)) (aD (ay (i:=6) g9.nd rfl (bJ rfl)) cb)))
    (aq (cW (PW.pt (iQ (d7 (mU hu (pv 6) (pv 2))) (jK (bU (AH hu) (pv 7) (aP (ab (bD aj) (ab (bD (ab (pv 5) aj)) aj))) rfl))))
     (aq (cC (dJ gC iq ir cq (d5 hu (pv 2) (aO cH (pv 4) ar (λ_ _=>rfl)) (λ_ _=>rfl)) (ab (aP (ab (pv 3) (ab (pv 5) aj))) aj)))) bB)))))
   )
  (aq (a_ (pv 2))))),?_⟩
 nofun
 have ll:=a9 cR;refine⟨_,rfl,R,rs,aa,rfl,hR,cR,bc,h8,λD1 Aw aX H1 f1 s1 e1 w1 emp Bk=>?_⟩;have QY:Paired (λt (kv:aI×V)=>aW K H1 t [kV kv.1,kv.2]) Aw (aX.map λp=>((Sum.inr p.1:aI),V.int (p.2:Int))):=cy w1 λ_ _ z=>z;refine⟨D1,Aw,_,rfl,e1,QY,λe he=>?_⟩;have ekE:cE (aX.map λp=>((Sum.inr p.1:aI),V.int (p.2:Int))) []=aX.map λp=>((Sum.inr p.1:aI),V.int (p.2:Int)):=lY _ [] (by
  rw [nP,g8];have:=uD emp.nd;rw [g8] at this;exact this)
 rw [ekE];have AY:∀z,(aY (aX.map λp=>((Sum.inr p.1:aI),V.int (p.2:Int))) (Sum.inr z)).isSome=decide (z∈aX.map (·.1)):=λz=>by
  rw [ij,dB,decide_eq_true_iff,g8];have:(aX.map λp:Str×Nat=>(Sum.inr p.1:aI))=(aX.map (·.1)).map Sum.inr:=by rw [g8];rfl
  show _∈(aX.map λp:Str×Nat=>(Sum.inr p.1:aI))↔_;rw [this];exact cv
 generalize (aX.map λp=>((Sum.inr p.1:aI),V.int (p.2:Int)))=kE at AY ⊢;have s2:=s1.trans (af he (.dK kE));have e2:upd H1 e (.dK kE) e=some (.dK kE):=ae;generalize upd H1 e (.dK kE)=H2 at s2 e2;refine⟨_,rfl,R,rs,aa,rfl,s2.seq hR,cR.same s2,bc,λD2 H3 f3 s3 e3=>?_⟩;have Jv:=hX (aa.map (·.1)) [];simp only [i0,aB] at Jv;refine⟨D2,rfl,⟨_,aH.of e3⟩,λD3 HN=>qC (aH.of e3) ∅ HN λts ps H4 s4 e4 m4 p4 l4 n4=>?_⟩;have n1:(ps.map (·.1)).Nodup:=by rw [m4];exact ny _ jT
 have DE:Paired (λt (kv:aI×V)=>aW K H4 t [kV kv.1,kv.2]) ts (ps.map iK):=cy p4 λ_ _ z=>z;refine⟨D3,ts,_,rfl,e4,DE,λd sh=>?_⟩;have NK:cE (ps.map iK) []=ps.map iK:=lY _ [] (by
  rw [nP,lP];exact uD n1)
 rw [NK];have s5:=((s2.trans s3).trans s4).trans (af sh (.dK (ps.map iK)));have AA:=af sh (.dK (ps.map iK));have e5:upd H4 d (.dK (ps.map iK)) d=some (.dK (ps.map iK)):=ae;have NP:=AA _ _ (s4 _ _ (s3 _ _ e2));have vd:H d=none:=((s2.trans s3).trans s4).free sh;have S5:BX K ps (λ_=>[]) (upd H4 d (.dK (ps.map iK))) d:=⟨.inl e5,n1,n4,λp hp=>⟨[],AA _ _ (l4 p hp).1,.nil⟩⟩;have Ld:∀p∈ps,H p.2=none:=λp hp=>(s2.trans s3).free (l4 p hp).2.1;generalize upd H4 d (.dK (ps.map iK))=H5 at s5 e5 NP S5;clear AA;have eb:(λz=>(aY kE (Sum.inr z)).isSome)=λz=>decide (z∈aX.map (·.1)):=funext AY;refine⟨_,rfl,R,_,rfl,s5.seq hR,?_⟩
 let zi:zj:=λi σ H6=>∃(st:Str->List (Nat×Nat))(y3 y4 y5 y6 y7:Option V),σ=[bz R,bz e,bz d,y3,y4,y5,y6,y7]/\aC H H6/\H6 e=some (.dK kE)/\H6 d=some (.dK (ps.map iK))/\BX K ps st H6 d /\
  (∀n,(st n).length<=8 * i)/\∀n k j,n∈hd aa->((k,j)∈st n↔k < i/\Lr aa (hd aa) (λz=>decide (z∈aX.map (·.1))) n k j)
 refine jB (xs:=rs.map V.ref) zi
  ⟨λ_=>[],none,none,none,none,none,rfl,s5,NP,e5,S5,by simp,by simp⟩ ?_ ?_ ?_
 .rintro i σ H6 _ ⟨st,y3,y4,y5,y6,y7,rfl,s6,_⟩;exact s6.seq hR
 .rintro i x σ H6 t ex ⟨st,y3,y4,y5,y6,y7,rfl,s6,Ko,SD,S6,l6,c6⟩ ht
  ac_nf0
  rw [bo] at ex;obtain⟨r,er,rfl⟩:=cg.mp ex;obtain⟨ru,oi,p,v1,v2⟩:=cR.get er;have nj:=bZ oi;have La:=h8 ru nj;have li:=(bA.mp oi).1;have EN:=af ht (.tup [.int (i:Int),.ref r]);have HI:aW K (upd H6 t (.tup [.int (i:Int),.ref r])) t [.int (i:Int),.ref r]:=aW.of ae;have s7:=s6.trans EN;have Kn:=EN _ _ Ko;have VW:=EN _ _ SD;have S7:=S6.same EN;generalize upd H6 t (.tup [.int (i:Int),.ref r])=H7 at HI s7 Kn VW S7;refine⟨t,_,rfl,HI,rfl,_,_,rfl,_,_,rfl,rfl,?_⟩;refine⟨_,rfl,r,_,_,_,rfl,rfl,s7.tup v1,rfl,p,_,rfl,s7.tup v2,λD5 K_=>wG rfl (s7.tup v2) ∅ Kn K_ λH8 KW e8=>?_⟩;rw [eb] at e8;have s8:=s7.trans KW;have ee8:=KW _ _ Kn;have ed8:=KW _ _ VW;have S8:=S7.same KW;have XS:∀p∈ps,p.2≠D5:=λp hp z=>by
   obtain⟨T4,a,_⟩:=S7.lst p hp;rw [z,K_] at a;cases a
  obtain⟨pn,v9,xm⟩:∃pn∈ps,pn.1=ru.1:=by
   have:ru.1∈ps.map (·.1):=by rw [m4];exact(fY _ _ _).mpr (.inr (il nj))
   obtain⟨pn,a,b⟩:=cA.mp this;exact⟨pn,a,b⟩
  refine⟨_,rfl,r,_,_,_,rfl,rfl,s8.tup v1,rfl,p,_,rfl,s8.tup v2,?_⟩
  let G3:zj:=λj σ H9=>∃(st:Str->List (Nat×Nat))(y5 y6:Option V),σ=[bz R,bz e,bz d,some (.int (i:Int)),bz r,y5,y6,bz D5]/\aC H H9/\H9 e=some (.dK kE)/\H9 d=some (.dK (ps.map iK))/\BX K ps st H9 d /\
   H9 D5=some (.lst ((Bh (λz=>decide (z∈aX.map (·.1))) ru.2 ru.2.length).map V.int))/\(∀n,(st n).length<=8 * i+j)/\∀n k j',n∈hd aa->((k,j')∈st n↔(k < i\/(k=i/\j' < j))/\Lr aa (hd aa) (λz=>decide (z∈aX.map (·.1))) n k j')
  refine nr (xs:=ru.2.map V.str) G3
   ⟨st,_,_,rfl,s8,ee8,ed8,S8,e8,λn=>l6 n,λn k j' hn=>by rw [c6 n k j' hn];simp⟩ ?_ ?_ ?_
  .rintro j σ H9 _ ⟨st,y5,y6,rfl,s9,_⟩;exact s9.tup v2
  .rintro j x σ H9 t2 Ed ⟨st,y5,y6,rfl,s9,Sy,SA,S9,e9,l9,c9⟩ g7
   ac_nf0
   rw [bo] at Ed;obtain⟨z,ez,rfl⟩:=cg.mp Ed;have lj:=(bA.mp ez).1;have vF:=af g7 (.tup [.int (j:Int),.str z]);have DK:aW K (upd H9 t2 (.tup [.int (j:Int),.str z])) t2 [.int (j:Int),.str z]:=aW.of ae;have uj:=s9.trans vF;have uQ:=vF _ _ Sy;have oy:=vF _ _ SA;have BU:=vF _ _ e9;have Ig:=S9.same vF;generalize upd H9 t2 (.tup [.int (j:Int),.str z])=zm at DK uj uQ oy BU Ig;have mem:(aY (ps.map iK) (Sum.inr z)).isSome=true↔z∈hd aa:=by rw [dB,lP,m4];exact cv
   have g6:¬(z∈hd aa/\F7 (λz=>decide (z∈aX.map (·.1))) ru.2 j=true)->∀n k j',n∈hd aa->((k,j')∈st n↔(k < i\/(k=i/\j' < j+1))/\Lr aa (hd aa) (λz=>decide (z∈aX.map (·.1))) n k j'):=λhn n k j' RA=>by
    rw [c9 n k j' RA];constructor
    .rintro⟨h1,h3⟩;exact⟨∅,h3⟩
    rintro⟨h1,h3⟩;refine⟨?_,h3⟩;by_cases c:k=i/\j'=j
    .obtain⟨u6,z',a1,a2,a3,a4,a5⟩:=h3;rw [c.1,oi] at a1;cases a1;rw [c.2] at a5;rw [c.2,ez] at a3;cases a3;exact absurd ⟨a4,a5⟩ hn
    omega
   have UQ:∀n,(st n).length<=8 * i+(j+1):=λn=>by have:=l9 n;omega
   refine⟨t2,_,rfl,DK,rfl,_,_,rfl,_,_,rfl,rfl,?_⟩;refine⟨_,rfl,_,rfl,d,_,rfl,bX.k (k:=Sum.inr z) oy,_,rfl,?_⟩;refine dj (λc=>?_) (λc=>?_)
   .have hz:=mem.mp c;refine⟨_,rfl,qQ,λl1 Gg=>?_⟩;have Ft:=af Gg (.lst []);have E4:upd zm l1 (.lst []) l1=some (.lst []):=ae;have Xz:l1≠D5:=(ao BU Gg).symm;generalize upd zm l1 (.lst [])=BI at Ft E4;refine⟨_,rfl,BK,λl2 qf=>?_⟩;have Hm:=af qf (.lst [.int (j:Int)]);have HU:upd BI l2 (.lst [.int (j:Int)]) l2=some (.lst [.int (j:Int)]):=ae;have QA:l2≠D5:=(ao (Ft _ _ BU) qf).symm;generalize upd BI l2 (.lst [.int (j:Int)])=wU at Hm HU;refine⟨gE,λt3 M4=>?_⟩;have OC:=af M4 (.tup [.ref l1,.ref l2]);have V9:aW K (upd wU t3 (.tup [.ref l1,.ref l2])) t3 [.ref l1,.ref l2]:=aW.of ae;generalize upd wU t3 (.tup [.ref l1,.ref l2])=Aq at OC V9;have ot:=(Ft.trans Hm).trans OC;refine⟨t3,D5,l1,l2,_,[],[(j:Int)],rfl,rfl,V9,aH.of (ot _ _ BU),aH.of (OC _ _ (Hm _ _ E4)),aH.of (OC _ _ HU),Xz,QA,_,rfl,?_⟩;have EA:=Ig.same ot;have IV:=uj.trans ot;refine dj (λc2=>?_) (λc2=>?_)
    .obtain⟨TY,an,bn⟩:=EA.lst pn v9;have vn:=fP ps n1 pn v9;rw [xm] at vn;have hg:bX Aq d (.str ru.1) (some (.ref pn.2)):=by
      have:=bX.k (k:=Sum.inr ru.1) (ot _ _ oy);rw [vn] at this;exact this
     have ltn:=a9 bn;have l9n:=l9 pn.1;refine⟨_,rfl,_,rfl,r,_,_,_,rfl,rfl,IV.tup v1,rfl,d,_,rfl,hg,.inl ⟨rfl,_,aH.of an⟩,_,rfl,_,rfl,gE,λt4 A7=>?_⟩;have yd:=af A7 (.tup [.int (i:Int),.int (j:Int)]);have V8:aW K (upd Aq t4 (.tup [.int (i:Int),.int (j:Int)])) t4 [.int (i:Int),.int (j:Int)]:=aW.of ae;generalize upd Aq t4 (.tup [.int (i:Int),.int (j:Int)])=H14 at yd V8;have Oa:=EA.same yd;have GV:=yd _ _ an;have SW:=Paired.gy bn λt' (e':Nat×Nat)(z:aW K Aq t' [.int (e'.1:Int),.int (e'.2:Int)])=>yd.tup z;refine⟨pn.2,_,_,rfl,rfl,GV,bF (by rw [aB];omega),?_⟩;have Tv:=Oa.more (e:=(i,j)) v9 GV SW V8;have ne1:e≠pn.2:=λz=>by have:=yd _ _ (ot _ _ uQ);rw [z,GV] at this;cases this
     have ne2:d≠pn.2:=λz=>by have:=yd _ _ (ot _ _ oy);rw [z,GV] at this;cases this
     refine⟨sI st pn.1 (i,j),_,_,rfl,λb o hb=>?_,by rw [ai ne1];exact yd _ _ (ot _ _ uQ),by rw [ai ne2];exact yd _ _ (ot _ _ oy),Tv,by rw [ai (XS pn v9).symm];exact yd _ _ (ot _ _ BU),λn=>?_,λn k j' RA=>?_⟩
     .rw [ai (λz=>by rw [z,Ld pn v9] at hb;cases hb)];exact yd _ _ (IV b o hb)
     .have:=l9 n;unfold sI
      split
      .rw [cu];simp;omega
      omega
     have hit:Lr aa (hd aa) (λz=>decide (z∈aX.map (·.1))) ru.1 i j:=⟨ru,z,oi,rfl,ez,hz,c2⟩;have H_:=c9 n k j' RA;unfold sI;by_cases cn:n=pn.1
     .rw [av cn,bN,bx,H_];constructor
      .rintro(⟨h1,h3⟩ | h1)
       .exact⟨∅,h3⟩
       cases h1;exact⟨∅,by rw [cn,xm];exact hit⟩
      rintro⟨h1,h3⟩;by_cases cc:k=i/\j'=j
      .exact .inr (by rw [cc.1,cc.2])
      exact .inl ⟨∅,h3⟩
     rw [ax cn,H_];constructor
     .rintro⟨h1,h3⟩;exact⟨∅,h3⟩
     rintro⟨h1,h3⟩;refine⟨?_,h3⟩;by_cases cc:k=i/\j'=j
     .obtain⟨u6,z',a1,a2,_⟩:=h3;rw [cc.1,oi] at a1;cases a1;exact absurd (a2.symm.trans xm.symm) cn
     omega
    exact⟨st,_,_,rfl,IV,ot _ _ uQ,ot _ _ oy,EA,ot _ _ BU,UQ,g6 λ⟨_,h⟩=>c2 h⟩
   exact⟨st,_,_,rfl,uj,uQ,oy,Ig,BU,UQ,g6 λ⟨h,_⟩=>c (mem.mpr h)⟩
  rintro σ H9 ⟨st,y5,y6,rfl,s9,Sy,SA,S9,e9,l9,c9⟩;rw [aB] at l9 c9;refine⟨st,_,_,_,_,_,rfl,s9,Sy,SA,S9,λn=>?_,λn k j' hn=>?_⟩
  .have:=l9 n;omega
  rw [c9 n k j' hn];constructor
  .rintro⟨h1 | ⟨h1,h2⟩,h3⟩
   .exact⟨∅,h3⟩
   exact⟨∅,h3⟩
  rintro⟨h1,h3⟩;refine⟨?_,h3⟩;by_cases c:k < i
  .exact .inl c
  refine .inr ⟨∅,?_⟩;obtain⟨u6,z',a1,_,a3,_⟩:=h3;have:k=i:=by omega
  rw [this,oi] at a1;cases a1;exact(bA.mp a3).1
 rintro σ H6 ⟨st,y3,y4,y5,y6,y7,rfl,s6,Ko,SD,S6,l6,c6⟩;rw [aB,ll] at c6;refine⟨_,rfl,q d ps st aX H6 vd s6 SD S6 m4 Ld emp Bk λn k j hn=>?_⟩;rw [c6 n k j hn];constructor
 .exact λh=>h.2
 intro h;obtain⟨u6,_,a1,_⟩:=id h;exact⟨(bA.mp a1).1,h⟩
end
end fh
namespace L2
open PySem
def bX.r {H:Hp}{a:Addr}{kvs:List (aI×V)}{k:aI}(e:Rd H a (.dK kvs)):bX H a (kV k) (aY kvs k):=.inl ⟨kvs,k,e,rfl,rfl⟩
end L2
namespace fh
open PySem L2 M11
section
def Down (aa:List au) (names:List Str)(st:Str->List (Nat×Nat))(rk:Str->Nat):Prop:=∀n∈names,∀e∈st n,∃ru z,aa[e.1]?=some ru/\ru.2[e.2]?=some z/\z∈names/\rk z < rk n
def Hd (K:aV):Sp:=λvs H Q _=>∃(R d:Addr)(rs:List Addr)(aa:List au)(ps:List (Str×Addr))(st:Str->List (Nat×Nat))(name:Str)(rk:Str->Nat),vs=[.ref R,.ref d,.str name]/\aH K H R (rs.map V.ref)/\aR K H rs aa/\aa.length<=1000 /\
 BX K ps st H d/\ps.length<=1000/\name∈ps.map (·.1)/\Down aa (ps.map (·.1)) st rk/\∀(D:Addr)(H':Hp),H D=none->aC H H'->H' D=some (.lst [])->Q (.ref D) H'
structure BV (K:aV) (names:List Str)(rk:Str->Nat)(name:Str)(H H5:Hp)(D m:Addr)(kb:List Addr)(i5:List (Str×Addr)) (ms:List Str)(kvs:List (aI×V)):Prop where
 sm:aC H H5
 hD:H5 D=some (.lst (kb.map V.ref))
 hm:H5 m=some (.dK kvs)
 keys:kvs.map (·.1)=ms.map Sum.inr
 nd:ms.Nodup
 sub:∀x∈ms,x∈names
 wl:i5.length=ms.length+1
 wv:Paired (λt (e:Str×Addr)=>aW K H5 t [.str e.1,.ref e.2]) kb i5
 we:∀e∈i5,e.1∈names/\rk e.1<=rk name/\∃xs,H5 e.2=some (.lst xs)/\xs.length<=i5.length/\e.2≠D
def BV.same {names:List Str}{rk:Str->Nat}{name:Str}{H H5 H6:Hp}{D m:Addr}{kb:List Addr}{i5:List (Str×Addr)}{ms:List Str}{kvs:List (aI×V)}(h:BV K names rk name H H5 D m kb i5 ms kvs)(s:aC H5 H6):BV K names rk name H H6 D m kb i5 ms kvs :=
 ⟨h.sm.trans s,s _ _ h.hD,s _ _ h.hm,h.keys,h.nd,h.sub,h.wl,Paired.gy h.wv λ_ _ z=>s.tup z,λe he=>let ⟨a,b,xs,c,d⟩:=h.we e he;⟨a,b,xs,s _ _ c,d⟩⟩
def BV.len {names:List Str}{rk:Str->Nat}{name:Str}{H H5:Hp}{D m:Addr}{kb:List Addr}{i5:List (Str×Addr)}{ms:List Str}{kvs:List (aI×V)}(h:BV K names rk name H H5 D m kb i5 ms kvs):kb.length=i5.length/\kvs.length=ms.length/\ms.length<=names.length:=by
 refine⟨a9 h.wv,?_,eY _ _ h.nd h.sub⟩;have:=congrArg List.length h.keys;simpa using this
def BV.more {names:List Str}{rk:Str->Nat}{name z:Str}{H H5 H9:Hp}{D m t c:Addr}{kb:List Addr}{i5:List (Str×Addr)}{ms:List Str}{kvs:List (aI×V)}{xs:List V}(h:BV K names rk name H H5 D m kb i5 ms kvs)(fD:H D=none)(fm:H m=none)
  (hz:z∈names)(hr:rk z<=rk name)(hn:z∉ms)(s:aC (upd H5 m (.dK (bj kvs (Sum.inr z) (.bl true)))) H9)(ht:aW K H9 t [.str z,.ref c])(hc:H9 c=some (.lst xs))(hx:xs.length<=i5.length+1)(nc:c≠D) :
  BV K names rk name H (upd H9 D (.lst (kb.map V.ref++[.ref t]))) D m (kb++[t]) (i5++[(z,c)]) (ms++[z]) (bj kvs (Sum.inr z) (.bl true)):=by
 have OK:D≠m:=λe=>by have:=h.hD;rw [e,h.hm] at this;cases this
 have HM:H9 D=some (.lst (kb.map V.ref)):=s _ _ (by rw [ai OK];exact h.hD);have Y5:H9 m=some (.dK (bj kvs (Sum.inr z) (.bl true))):=s _ _ ae;refine⟨λb o hb=>?_,by rw [ae,bw];rfl,by rw [ai OK.symm];exact Y5,?_,?_,?_,?_,?_,?_⟩
 .rw [ai (λe=>by rw [e,fD] at hb;cases hb)];exact s _ _ (by rw [ai (λe=>by rw [e,fm] at hb;cases hb)];exact h.sm b o hb)
 .rw [gI (by rw [h.keys];exact λe=>hn (cv.mp e)),h.keys,bw];rfl
 .refine ik.mpr ⟨h.nd,by simp,λa ha b hb e=>?_⟩;rw [bx.mp hb] at e;exact hn (e ▸ ha)
 .intro x Ra;rcases bN.mp Ra with e | e
  .exact h.sub x e
  rw [bx.mp e];exact hz
 .rw [cu,cu,h.wl];rfl
 .exact fj (Paired.gy h.wv λ_ _ e=>aN HM (s.tup (eI h.hm e))) (aN HM ht)
 intro e he;rw [cu];rcases bN.mp he with e' | e'
 .obtain⟨a,b,ys,c1,d1,n1⟩:=h.we e e';exact⟨a,b,ys,by rw [ai n1];exact s _ _ (by rw [ai (λq=>by rw [q,h.hm] at c1;cases c1)];exact c1),∅,n1⟩
 rw [bx.mp e'];exact⟨hz,hr,xs,by rw [ai nc];exact hc,hx,nc⟩
def kY:aK ["rules","steps","name","ways","met","at","way","number","place","part"] ["rules","steps","name"] (az IK):=iL rfl rfl rfl rfl nofun
def Jg (F:hZ K "way_back" "way_back" IK f fd)(T:Txt mg):bI P w K mg base e_ 1 f fd ["rules","steps","name"] (Hd K):=by
 refine F.ok kY (λvs H Q E h=>?_) (λdN A outer s H vs Q E hr h=>?_)
 .obtain⟨R,d,rs,aa,ps,st,name,rk,rfl,_⟩:=h;rfl
 obtain⟨R,d,rs,aa,ps,st,name,rk,rfl,hR,cR,bc,S,K6,DN,RT,q⟩:=h;have hu:=gu hr;refine⟨_,ak (aG (i:=3) kY.nd rfl (bJ rfl) (bD (ab (aP (ab (pv 2) (ab (bD aj) aj))) aj)))
  (ak (aG (i:=4) kY.nd rfl (bJ rfl) fI)
  (ak (aG (i:=5) kY.nd rfl (bJ rfl) ar)
  (ak (gW cx (bU pX (pv 5) (bR cI rfl T.len gP (ab (pv 3) aj)) (bL _))
   (ak (aG (i:=6) kY.nd rfl (bJ rfl) (aO cH (aO aS (pv 3) (pv 5) (λ_ _=>rfl)) ar (λ_ _=>rfl)))
   (ak (b8 cx rfl (bq (d5 hu (pv 1) (aO cH (aO aS (pv 3) (pv 5) (λ_ _=>rfl)) ar (λ_ _=>rfl)) (λ_ _=>rfl))) (d8 rfl (aD (ay (i:=7) kY.nd rfl (bJ rfl)) (aD (ay (i:=8) kY.nd rfl (bJ rfl)) cb)))
    (ak (aG (i:=9) kY.nd rfl (bJ rfl) (aO cH (aO cH (aO aS (pv 0) (pv 7) (λ_ _=>rfl)) ar (λ_ _=>rfl)) (pv 8) (λ_ _=>rfl)))
    (ak (cW (bU n_ (pv 9) (pv 2) (bL _)) (aq gq) bB)
    (aq (cW (d7 (di hu (pv 9) (pv 4)))
     (ak (gJ hu (pv 4) (pv 9) fO rfl) (aq (cC (dJ gC iq ir cq (pv 3) (ab (aP (ab (pv 9) (ab (bh ym (pv 6) (bD (ab (aP (ab (pv 7) (ab (pv 8) aj))) aj))) aj))) aj))))) bB)))))
   (aq (CP (i:=5) kY.nd rfl (bJ rfl) ar DJ)))))
  (aq (a_ (bD aj)))))),?_⟩
 nofun
 have va:(ps.map (·.1)).length=ps.length:=aB _;refine⟨_,rfl,qQ,λl0 Nm=>?_⟩;have s1:=af Nm (.lst []);have e1:upd H l0 (.lst []) l0=some (.lst []):=ae;generalize upd H l0 (.lst [])=H1 at s1 e1;refine⟨gE,λt0 YN=>?_⟩;have s2:=af YN (.tup [.str name,.ref l0]);have e2:aW K (upd H1 t0 (.tup [.str name,.ref l0])) t0 [.str name,.ref l0]:=aW.of ae;generalize upd H1 t0 (.tup [.str name,.ref l0])=H2 at s2 e2;refine⟨BK,λD hD=>?_⟩;have s3:=af hD (.lst [.ref t0]);have e3:upd H2 D (.lst [.ref t0]) D=some (.lst ([t0].map V.ref)):=ae;have XA:l0≠D:=ao (s2 _ _ e1) hD;generalize upd H2 D (.lst [.ref t0])=H3 at s3 e3;intro m hm;have s4:=af hm (.dK []);have e4:upd H3 m (.dK []) m=some (.dK []):=ae;generalize upd H3 m (.dK [])=H4 at s4 e4;have fD:H D=none:=(s1.trans s2).free hD;have fm:H m=none:=((s1.trans s2).trans s3).free hm;have W0:BV K (ps.map (·.1)) rk name H H4 D m [t0] [(name,l0)] [] []:=⟨((s1.trans s2).trans s3).trans s4,s4 _ _ e3,e4,rfl,jT,by simp,rfl,.cons ((s3.trans s4).tup e2) .nil,λe he=>by
  rw [bx.mp he];exact⟨DN,aF _,[],s4 _ _ (s3 _ _ (s2 _ _ e1)),by simp,XA⟩⟩
 refine⟨λmm σ H5=>∃(kb:List Addr)(i5:List (Str×Addr)) (ms:List Str)(kvs:List (aI×V)) (at_:Nat)(y6 y7 y8 y9:Option V),σ=[bz R,bz d,some (.str name),bz D,bz m,some (.int (at_:Int)),y6,y7,y8,y9]/\BV K (ps.map (·.1)) rk name H H5 D m kb i5 ms kvs /\
  at_<=i5.length/\mm=1002 - at_,⟨1002,[t0],[(name,l0)],[],[],0,none,none,none,none,rfl,W0,by simp,rfl⟩,?_⟩
 rintro mm σ H5 ⟨kb,i5,ms,kvs,at_,y6,y7,y8,y9,rfl,W,RZ,rfl⟩;obtain⟨lw,lk,lm⟩:=W.len;have X_:=W.wl;refine⟨_,rfl,_,rfl,D,_,rfl,.inl (aH.of W.hD),_,_,rfl,rfl,_,rfl,?_⟩;refine dj (λc=>?_) (λc=>?_)
 .have c':=cK c;rw [aB,lw] at c';have gZ:at_ < i5.length:=by omega
  obtain⟨n,l,en⟩:∃n l,i5[at_]?=some (n,l):=⟨(i5[at_]).1,(i5[at_]).2,cQ gZ⟩;obtain⟨t1,et1,U1⟩:=Paired.at_ W.wv at_ (n,l) en;have Pc:jD (kb.map V.ref) (at_:Int)=some (.ref t1):=cw (by rw [bo,et1];rfl);obtain⟨hn,U5,xs,hl,hxl,Jn⟩:=W.we (n,l) (bZ en);dsimp only at hn U5 hl Jn;obtain⟨pn,v9,xm⟩:=cA.mp hn;have vn:=fP ps S.n1 pn v9;rw [xm] at vn;obtain⟨TY,an,bn⟩:=S.lst pn v9;rw [xm] at bn;refine⟨λσ H5=>∃(kb:List Addr)(i5:List (Str×Addr)) (ms:List Str)(kvs:List (aI×V))(y6 y7 y8 y9:Option V),σ=[bz R,bz d,some (.str name),bz D,bz m,some (.int ((at_+1:Nat):Int)),y6,y7,y8,y9]/\BV K (ps.map (·.1)) rk name H H5 D m kb i5 ms kvs/\at_+1<=i5.length,?_,?_⟩
  .rintro σ H6 ⟨kb,i5,ms,kvs,y6,y7,y8,y9,rfl,W2,h2⟩;exact⟨1002 - (at_+1),∅,kb,i5,ms,kvs,at_+1,_,_,_,_,rfl,W2,h2,rfl⟩
  refine⟨_,rfl,_,rfl,D,_,_,_,rfl,rfl,aH.of W.hD,Pc,t1,_,_,_,rfl,rfl,U1,rfl,?_⟩;have hg:bX H5 d (.str n) (some (.ref pn.2)):=by
   have:=bX.r (k:=Sum.inr n) (Rd.same S.hd W.sm);rw [vn] at this;exact this
  refine⟨_,rfl,_,rfl,_,rfl,D,_,_,_,rfl,rfl,aH.of W.hD,Pc,t1,_,_,_,rfl,rfl,U1,rfl,d,_,rfl,hg,pn.2,rfl,⟨_,aH.of (W.sm _ _ an)⟩,?_⟩
  let zi:zj:=λi σ H6=>∃(kb:List Addr)(i5:List (Str×Addr)) (ms:List Str)(kvs:List (aI×V))(y7 y8 y9:Option V),σ=[bz R,bz d,some (.str name),bz D,bz m,some (.int (at_:Int)),bz l,y7,y8,y9]/\BV K (ps.map (·.1)) rk name H H6 D m kb i5 ms kvs /\
   at_+1<=i5.length/\∃e∈i5,e.2=l
  refine dW (xs:=TY.map V.ref) zi ⟨kb,i5,ms,kvs,_,_,_,rfl,W,gZ,(n,l),bZ en,rfl⟩ ?_ ?_ ?_
  .rintro i σ H6 _ ⟨kb,i5,ms,kvs,y7,y8,y9,rfl,W2,_⟩;exact aH.of (W2.sm _ _ an)
  .rintro i x σ H6 ex ⟨kb,i5,ms,kvs,y7,y8,y9,rfl,W2,h2,e0,RS,Sz⟩
   ac_nf0
   rw [bo] at ex;obtain⟨ti,VJ,rfl⟩:=cg.mp ex;have lbn:=a9 bn;have lti:=(bA.mp VJ).1;obtain⟨⟨k,j⟩,VS⟩:∃e,(st n)[i]?=some e:=⟨(st n)[i]'∅,cQ ∅⟩;obtain⟨ti',NI,YL⟩:=Paired.at_ bn i (k,j) VS;rw [VJ] at NI;cases NI;obtain⟨ru,z,er,ez,hz,U6⟩:=RT n hn (k,j) (bZ VS);obtain⟨r,Lh,p,v1,v2⟩:=Paired.at_ cR k ru er;have atr:jD (rs.map V.ref) (k:Int)=some (.ref r):=cw (by rw [bo,Lh];rfl);have N1:jD (ru.2.map V.str) (j:Int)=some (.str z):=cw (by rw [bo,ez];rfl);obtain⟨lw2,OL,Yi⟩:=W2.len;have UJ:=W2.wl;refine⟨ti,_,rfl,W2.sm.tup YL,rfl,_,_,rfl,_,_,rfl,rfl,?_⟩;refine⟨_,rfl,_,rfl,R,_,_,_,rfl,rfl,W2.sm.seq hR,atr,r,_,_,_,rfl,rfl,W2.sm.tup v1,rfl,_,rfl,p,_,_,_,rfl,rfl,W2.sm.tup v2,N1,?_⟩;refine⟨_,rfl,_,rfl,rfl,_,rfl,?_⟩;have nz:z≠name:=λe=>by rw [e] at U6;omega
   refine dj (λc=>absurd (cK c) (λe=>nz (by injection e))) (λ_=>?_);have mem:(aY kvs (Sum.inr z)).isSome=true↔z∈ms:=by rw [dB,W2.keys];exact cv
   refine⟨_,rfl,_,rfl,m,_,rfl,bX.k (k:=Sum.inr z) W2.hm,_,rfl,?_⟩;refine dj (λc=>?_) (λc=>?_)
   .have nm:z∉ms:=λh=>by rw [mem.mpr h] at c;exact absurd c nofun
    refine⟨_,rfl,_,rfl,m,_,rfl,mf.k (k:=Sum.inr z) W2.hm (bF ∅),?_⟩;obtain⟨_,_,BM,qf,YD,QA⟩:=W2.we e0 RS;rw [Sz] at qf QA;have OK:D≠m:=λe=>by have:=W2.hD;rw [e,W2.hm] at this;cases this
    have Xx:l≠m:=λe=>by rw [e,W2.hm] at qf;cases qf
    have J2:upd H6 m (.dK (bj kvs (Sum.inr z) (.bl true))) D=some (.lst (kb.map V.ref)):=by rw [ai OK];exact W2.hD
    have Y9:upd H6 m (.dK (bj kvs (Sum.inr z) (.bl true))) l=some (.lst BM):=by rw [ai Xx];exact qf
    refine⟨_,rfl,.inl ⟨rfl,_,aH.of J2⟩,_,rfl,_,rfl,_,rfl,_,rfl,gE,λt4 A7=>?_⟩;have Ug:=af A7 (.tup [.int (k:Int),.int (j:Int)]);generalize upd (upd H6 m (.dK (bj kvs (Sum.inr z) (.bl true)))) t4 (.tup [.int (k:Int),.int (j:Int)])=H7 at Ug;refine⟨BK,λl4 Za=>?_⟩;have Ue:=af Za (.lst [.ref t4]);have V6:upd H7 l4 (.lst [.ref t4]) l4=some (.lst [.ref t4]):=ae;generalize upd H7 l4 (.lst [.ref t4])=H8 at Ue V6;have P9:=Ug.trans Ue;refine⟨l,l4,BM,[.ref t4],rfl,rfl,P9 _ _ Y9,V6,fits (by simp;omega),λc0 Nw=>?_⟩;have Ud:=af Nw (.lst (BM++[.ref t4]));have V5:upd H8 c0 (.lst (BM++[.ref t4])) c0=some (.lst (BM++[.ref t4])):=ae;have XI:c0≠D:=(ao (P9 _ _ J2) Nw).symm;generalize upd H8 c0 (.lst (BM++[.ref t4]))=H9 at Ud V5;refine⟨gE,λt5 JK=>?_⟩;have P8:=af JK (.tup [.str z,.ref c0]);have V4:aW K (upd H9 t5 (.tup [.str z,.ref c0])) t5 [.str z,.ref c0]:=aW.of ae;generalize upd H9 t5 (.tup [.str z,.ref c0])=zm at P8 V4;have sA:=(P9.trans Ud).trans P8;refine⟨D,_,_,rfl,rfl,sA _ _ J2,bF (by rw [aB];omega),?_⟩;exact⟨kb++[t5],i5++[(z,c0)],ms++[z],_,_,_,_,rfl,W2.more fD fm hz ∅ nm sA V4 (P8 _ _ V5) (by rw [cu];simp;omega) XI,by rw [cu];omega,e0,jh _ RS,Sz⟩
   exact⟨kb,i5,ms,kvs,_,_,_,rfl,W2,h2,e0,RS,Sz⟩
  rintro σ H6 ⟨kb,i5,ms,kvs,y7,y8,y9,rfl,W2,h2,_⟩;exact⟨_,rfl,_,_,rfl,rfl,kb,i5,ms,kvs,_,_,_,_,rfl,W2,h2⟩
 refine⟨qQ,λD9 HM=>q D9 _ (W.sm.free HM) (W.sm.trans (af HM _)) ae⟩
end
end fh
namespace L2
open PySem
def Br {K:aV}{H:Hp}{p D:Addr}{ls:List Addr}{σ:St}{x:Str}{Qp:Hp->Prop}(hp:H p=some (.lst (ls.map V.ref)))(hl:∀l∈ls,H l=some (.lst []))(hD:H D=none)(q:∀H2,aC H H2->H2 D=some (.lst [])->Qp H2) :
  ∃W:Nat->Nat->List V->St->Hp->Prop,(∃m,W 0 m [] (dO [x] [] σ) (upd H D (.lst []))) /\
 ∀i m ys σ' H,W i m ys σ' H->((j5 K p).stop i H/\Qp H)\/((j5 K p).go i H/\∃m',m' < m/\∀x H',(j5 K p).mh i H x H'->dM 0 x σ' H' λσ2 H2=>fR 0 σ2 H2 λx H'=>∃k,BE K x H' k/\(λb H3 =>
  if b=true then fR 0 σ2 H3 λy H4=>H4 D=some (.lst ys)/\ys.length < sizeLine/\W (i+1) m' (ys++[y]) σ2 (upd H4 D (.lst (ys++[y]))) else W (i+1) m' ys σ2 H3) k H'):=by
 refine bT (tif:=λσ H Q=>fR 0 σ H λx H'=>∃k,BE K x H' k/\Q k H') (xs:=ls.map V.ref) (λi ys σ2 H5=>ys=[]/\(∃y0,σ2=[y0])/\aC H H5/\H5 D=some (.lst [])) ⟨rfl,⟨none,rfl⟩,af hD _,ae⟩ (λi ys σ2 H5 _ h=>aH.of (h.2.2.1 _ _ hp)) (λi x ys σ2 H5 ex h=>?_) (λys σ2 H5 h=>?_)
 .obtain⟨rfl,⟨y0,rfl⟩,s5,e5⟩:=h;rw [bo] at ex;obtain⟨l,el,rfl⟩:=cg.mp ex;refine goN ?_;refine⟨_,rfl,false,.inl ⟨[],aH.of (s5 _ _ (hl l (bZ el))),rfl⟩,?_⟩;refine iW ?_;exact⟨rfl,⟨_,rfl⟩,s5,e5⟩
 obtain⟨rfl,_,s5,e5⟩:=h;exact q H5 s5 e5
end L2
namespace fh
open PySem L2 M11
section
def EE (aa:List au)(rk:Str->Nat):Prop:=∀aX,u4 aa aX->wX aa aa.length aX->∀n k j,Lr aa (hd aa) (λz=>decide (z∈aX.map (·.1))) n k j->∀ru z,aa[k]?=some ru->ru.2[j]?=some z->rk z < rk n
def Co (K:aV):Sp:=λvs H Q _=>∃(R:Addr)(rs:List Addr)(aa:List au)(rk:Str->Nat),vs=[.ref R]/\aH K H R (rs.map V.ref)/\aR K H rs aa/\aa.length<=1000/\(∀ru∈aa,ru.2.length<=8)/\EE aa rk /\
 ∀(D:Addr)(H':Hp),H D=none->aC H H'->H' D=some (.lst [])->Q (.ref D) H'
def xR:aK ["rules","steps","loops"] ["rules"] (az CC):=iL rfl rfl rfl rfl nofun
def FY (F:hZ K "find_loop" "find_loop" CC f fd)(T:Txt mg)(GS:aE P w K mg base 2 "steps_with_like_rows" ["rules"] (zF K))(GW:aE P w K mg base 1 "way_back" ["rules","steps","name"] (Hd K)):bI P w K mg base e_ 3 f fd ["rules"] (Co K):=by
 refine F.ok xR (λvs H Q E h=>?_) (λdN A outer s H vs Q E hr h=>?_)
 .obtain⟨R,rs,aa,rk,rfl,_⟩:=h;rfl
 obtain⟨R,rs,aa,rk,rfl,hR,cR,bc,h8,Y2,q⟩:=h;refine⟨_,ak (aG (i:=1) xR.nd rfl (Or.inr rfl) (bE GS hr rfl (ab (pv 0) aj)))
  (ak (g_ (iy:=2) ["name"] [(0,"rules"),(1,"steps")] xR.nd rfl rfl rfl (zW (pv 1)) (br rfl rfl) nofun rfl nofun
   (λ_ _ _ _ _=>ay (i:=0) (show (["name","rules","steps"]:List Str).Nodup by decide +kernel) rfl (bJ rfl)) (λ_ _ _ _ _=>b_)
   (λ_ _ _ _ _=>bE (GW.mono (by decide:1<=2)) hr rfl (ab (pv 1) (ab (pv 2) (ab (pv 0) aj)))))
  (aq (a_ (FN rfl rfl T.min rfl T.len (ab (bG ["loop"] [] rfl (bq (pv 2)) (br rfl rfl) nofun rfl nofun
   (λ_ _ _ _ _=>ay (i:=0) (show (["loop"]:List Str).Nodup by decide +kernel) rfl (bJ rfl)) (λ_ _ _ _ _=>hJ (rN K (pv 0) (λ_=>rfl))) (λ_ _ _ _ _=>pv 0)) aj) (bD aj))))),?_⟩
 nofun
 refine⟨_,rfl,R,rs,aa,rfl,hR,cR,bc,h8,λd ps st aX H1 fd1 s1 e1 S1 m1 Ld emp Bk hits=>?_⟩;have UL:ps.length<=1000:=by
  have h1:=congrArg List.length m1;have h2:=hX (aa.map (·.1)) [];simp only [i0,aB] at h2;rw [aB] at h1;have h3:(hd aa).length=(uS [] (aa.map (·.1))).length:=rfl;omega
 have RT:Down aa (ps.map (·.1)) st rk:=λn hn e he=>by
  rw [m1] at hn ⊢;have hit:=(hits n e.1 e.2 hn).mp he;obtain⟨ru,z,er,_,ez,hz,_⟩:=id hit;exact⟨ru,z,er,ez,hz,Y2 aX emp Bk n e.1 e.2 hit ru z er ez⟩
 refine⟨_,rfl,d,_,rfl,e1,λo D hD=>?_⟩;have Qw:∀p∈ps,p.2≠d:=λp hp z=>by
  obtain⟨ts,a,_⟩:=S1.lst p hp;rw [z,e1] at a;cases a
 have s2:aC H (upd H1 d (.i_ o (.dK (ps.map iK)))):=λb u hb=>by
  rw [ai (λz=>by rw [z,fd1] at hb;cases hb)];exact s1 b u hb
 have S2:BX K ps st (upd H1 d (.i_ o (.dK (ps.map iK)))) d:=⟨.inr ⟨o,ae⟩,S1.n1,S1.n2,λp hp=>by
  obtain⟨ts,a,b⟩:=S1.lst p hp;exact⟨ts,by rw [ai (Qw p hp)];exact a,Paired.gy b λ_ _ z=>eI e1 z⟩⟩
 have e2:upd H1 d (.i_ o (.dK (ps.map iK))) d=some (.i_ o (.dK (ps.map iK))):=ae;generalize upd H1 d (.i_ o (.dK (ps.map iK)))=H2 at hD s2 S2 e2 ⊢;refine qD (λi ys σ2 H3=>∃ls:List Addr,ys=ls.map V.ref/\ls.length=i/\(∀l∈ls,H3 l=some (.lst [])/\l≠D)/\(∃y0,σ2=[y0,bz R,bz d])/\aC H2 H3/\H3 D=some (.lst ys))
  ⟨[],rfl,rfl,by simp,⟨none,rfl⟩,af hD _,ae⟩ (λi ys σ2 H3 _ h=>?_) (λi kv ys σ2 H3 ex h=>?_) (λys σ2 H3 h=>?_)
 .obtain⟨_,_,_,_,_,sm,_⟩:=h;exact sm _ _ e2
 .obtain⟨ls,rfl,Vf,hl,⟨y0,rfl⟩,sm,gO⟩:=h;rw [bo] at ex;obtain⟨p,ep,rfl⟩:=cg.mp ex;have hp:=bZ ep;have li:=(bA.mp ep).1;refine goN (vb ?_);have s3:=s2.trans sm;refine⟨_,rfl,_,rfl,_,rfl,R,d,rs,aa,ps,st,p.1,rk,rfl,s3.seq hR,cR.same s3,bc,S2.same sm,UL,il hp,RT,λD4 H4 f4 s4 e4=>?_⟩;have xj:=s4 _ _ gO;have UE:D4≠D:=λz=>by rw [z,gO] at f4;cases f4
  refine⟨xj,bF (by rw [aB];omega),ls++[D4],by rw [bw];rfl,by rw [cu,Vf];rfl,λl RG=>?_,⟨_,rfl⟩,λb u hb=>?_,ae⟩
  .rcases bN.mp RG with h | h
   .obtain⟨a1,a2⟩:=hl l h;exact⟨by rw [ai a2];exact s4 _ _ a1,a2⟩
   rw [bx.mp h];exact⟨by rw [ai UE];exact e4,UE⟩
  rw [ai (λz=>by rw [z,hD] at hb;cases hb)];exact s4 _ _ (sm b u hb)
 obtain⟨ls,rfl,Vf,hl,_,sm,gO⟩:=h;have s3:=s2.trans sm;refine⟨_,rfl,D,rfl,⟨_,aH.of gO⟩,λD5 K_=>?_⟩;refine Br gO (λl RG=>(hl l RG).1) K_ λH5 s5 e5=>?_;refine⟨qQ,λD6 Sb=>⟨D5,rfl,aH.of (af Sb _ _ _ e5),?_⟩⟩;exact q D6 _ ((s3.trans s5).free Sb) ((s3.trans s5).trans (af Sb _)) ae
end
end fh
namespace L2
open PySem
def zq {K:aV}{T:Addr}{pos:Pos}{qu:Str}{H H':Hp}{a:Addr}{xs:List V}(s:eQ T H H')(t:Tab T pos qu H)(h:aW K H a xs):aW K H' a xs:=by
 obtain⟨ps,b,_⟩:=t;rcases h with (h | ⟨u,h⟩) | h
 .exact .inl (.inl (s _ _ (λz=>by rw [z,b] at h;cases h) h))
 .exact .inl (.inr ⟨u,s _ _ (λz=>by rw [z,b] at h;cases h) h⟩)
 exact .inr h
def zP {K:aV}{T:Addr}{pos:Pos}{qu:Str}{H H':Hp}{a:Addr}{xs:List V}(s:eQ T H H')(t:Tab T pos qu H)(h:aH K H a xs):aH K H' a xs:=by
 obtain⟨ps,b,_⟩:=t;rcases h with (h | ⟨u,h⟩) | h
 .exact .inl (.inl (s _ _ (λz=>by rw [z,b] at h;cases h) h))
 .exact .inl (.inr ⟨u,s _ _ (λz=>by rw [z,b] at h;cases h) h⟩)
 exact .inr h
def zt {T T':Addr}{pos pos':Pos}{qu ET:Str}{H H':Hp}(s:eQ T H H')(t:Tab T pos qu H)(h:Tab T' pos' ET H)(n:T'≠T):Tab T' pos' ET H':=by
 obtain⟨ps,b,_⟩:=t;obtain⟨Ql,a,o,c⟩:=h;refine⟨Ql,s _ _ n a,o,c.imp id ?_⟩;rintro⟨c',e,g⟩;exact⟨c',e,s _ _ (λz=>by rw [z,b] at g;cases g) g⟩
def qA {K:aV}{H:Hp}{p D:Addr}{zs:List Str}{σ:St}{js:List (Nat×Str)}{cs:List (Option V)}{tif:TT}{te:TE}{Qp:Hp->Prop}(hσ:dO ["name"] js σ=none::cs)(hp:aH K H p (zs.map V.str))(hD:H D=none)
  (ht:∀z∈zs,∀H2 Q,aC H H2->Q false H2->tif (some (.str z)::cs) H2 Q)(q:∀H2,aC H H2->H2 D=some (.lst [])->Qp H2) :
  ∃W:Nat->Nat->List V->St->Hp->Prop,(∃m,W 0 m [] (dO ["name"] js σ) (upd H D (.lst []))) /\
 ∀i m ys σ' H,W i m ys σ' H->((j5 K p).stop i H/\Qp H)\/((j5 K p).go i H/\∃m',m' < m/\∀x H',(j5 K p).mh i H x H'->dM 0 x σ' H' λσ2 H2=>tif σ2 H2 λb H3 =>
  if b=true then te σ2 H3 λy H4=>H4 D=some (.lst ys)/\ys.length < sizeLine/\W (i+1) m' (ys++[y]) σ2 (upd H4 D (.lst (ys++[y]))) else W (i+1) m' ys σ2 H3):=by
 refine bT (xs:=zs.map V.str) (λi ys σ2 H5=>ys=[]/\(∃y0,σ2=y0::cs)/\aC H H5/\H5 D=some (.lst [])) ⟨rfl,⟨none,hσ⟩,af hD _,ae⟩ (λi ys σ2 H5 _ h=>h.2.2.1.seq hp) (λi x ys σ2 H5 ex h=>?_) (λys σ2 H5 h=>?_)
 .obtain⟨rfl,⟨y0,rfl⟩,s5,e5⟩:=h;rw [bo] at ex;obtain⟨z,ez,rfl⟩:=cg.mp ex;refine goN ?_;refine ht z (bZ ez) H5 _ s5 ?_;refine iW ?_;exact⟨rfl,⟨_,rfl⟩,s5,e5⟩
 obtain⟨rfl,_,s5,e5⟩:=h;exact q H5 s5 e5
end L2
namespace fh
open PySem L2 M11
section
structure Good (aa:List au)(rk:Str->Nat)(b:Str->Int):Prop where
 least:∀g,du M11.bl aa (vc aa) g->gM M11.bl aa g->∀h∈hd aa,∃n,g h=some n/\n<=60
 met:∀kN ms,aa[0]?=some kN->kN.1∈ms->EF aa aa.length ms->∀h∈hd aa,h∈ms
 loop:EE aa rk
 SV:wZ aa b
 most:∀h∈hd aa,b h<=60
def j3 (T1 T2:Addr)(H H':Hp):Prop:=∀b o,b≠T1->b≠T2->H b=some o->H' b=some o
def pL (K:aV)(T1 T2:Addr):Sp:=λvs H Q _=>∃(R S:Addr)(rs ss:List Addr)(aa str:List au)(rk:Str->Nat)(b:Str->Int),vs=[.ref R,.ref S]/\aH K H R (rs.map V.ref)/\aR K H rs aa/\aa.length<=1000/\(∀ru∈aa,ru.2.length<=8)/\aa≠[] /\
 aH K H S (ss.map V.ref)/\aR K H ss str/\str.length<=1000/\(∀ru∈str,ru.2.length<=8)/\(str.flatMap (·.2)).Nodup/\Good aa rk b/\Tab T1 p6.2.2.2 w_ H/\Tab T2 yC.2.2.2 Hy H/\T1≠T2 /\
 ∀H',j3 T1 T2 H H'->Tab T1 p6.2.2.2 w_ H'->Tab T2 yC.2.2.2 Hy H'->Q .eJ H'
def gk:aK ["rules","strengths","least","endless","met","unmet","steps","greatest","vast"] ["rules","strengths"] (az uc):=iL rfl rfl rfl rfl nofun
def AL {T1 T2:Addr}{tm:Tok}(F:hZ K "refuse_faults" "refuse_faults" uc f fd)(T:Txt mg)(hM:mg "MOST_RULES"=some (.int 60 tm))(GT:aE P w K mg base 1 "refuse_twice" ["strengths"] (zE K))(GL:aE P w K mg base 3 "least_sizes" ["rules"] (oE K T1))
  (GH:aE P w K mg base 1 "heads_of" ["rules"] (jF K))(GM:aE P w K mg base 1 "names_met" ["rules"] (Hf K))(GF:aE P w K mg base 3 "find_loop" ["rules"] (Co K))(GG:aE P w K mg base 3 "greatest_empty_sizes" ["rules"] (tT K T2)) :
  bI P w K mg base e_ 4 f fd ["rules","strengths"] (pL K T1 T2):=by
 refine F.ok gk (λvs H Q E h=>?_) (λdN A outer s H vs Q E hr h=>?_)
 .obtain⟨R,S,rs,ss,aa,str,rk,b,rfl,_⟩:=h;rfl
 obtain⟨R,S,rs,ss,aa,str,rk,b,rfl,hR,cR,bc,h8,qY,hS,xg,Rg,M7,Rm,gd,Gn,OW,nT,q⟩:=h;have hu:=gu hr;refine⟨_,ak (cW (yh (gU (pv 0) (λ_=>rfl))) (aq gq) bB)
  (ak (cC (bE (GT.mono (by decide:1<=3)) hr rfl (ab (pv 1) aj)))
  (ak (aG (i:=2) gk.nd rfl (Or.inr rfl) (bE GL hr rfl (ab (pv 0) aj)))
  (ak (g_ (iy:=3) ["name"] [(2,"least")] gk.nd rfl rfl rfl (bq (bE (GH.mono (by decide:1<=3)) hr rfl (ab (pv 0) aj))) (br rfl rfl) nofun rfl nofun
   (λ_ _ _ _ _=>ay (i:=0) (show (["name","least"]:List Str).Nodup by decide +kernel) rfl (bJ rfl)) (λ_ _ _ _ _=>hJ (d7 (di hu (pv 0) (pv 1)))) (λ_ _ _ _ _=>pv 0))
  (ak (cW (gU (pv 3) (λ_=>rfl)) (aq gq) bB)
  (ak (aG (i:=4) gk.nd rfl (Or.inr rfl) (bE (GM.mono (by decide:1<=3)) hr rfl (ab (pv 0) aj)))
  (ak (g_ (iy:=5) ["name"] [(4,"met")] gk.nd rfl rfl rfl (bq (bE (GH.mono (by decide:1<=3)) hr rfl (ab (pv 0) aj))) (br rfl rfl) nofun rfl nofun
   (λ_ _ _ _ _=>ay (i:=0) (show (["name","met"]:List Str).Nodup by decide +kernel) rfl (bJ rfl)) (λ_ _ _ _ _=>hJ (d7 (di hu (pv 0) (pv 1)))) (λ_ _ _ _ _=>pv 0))
  (ak (cW (gU (pv 5) (λ_=>rfl)) (aq gq) bB)
  (ak (aG (i:=6) gk.nd rfl (bJ rfl) (bE GF hr rfl (ab (pv 0) aj)))
  (ak (cW (gU (pv 6) (λ_=>rfl)) (aq gq) bB)
  (ak (aG (i:=7) gk.nd rfl (Or.inr rfl) (bE GG hr rfl (ab (pv 0) aj)))
  (ak (g_ (iy:=8) ["name"] [(2,"least"),(7,"greatest")] gk.nd rfl rfl rfl (bq (bE (GH.mono (by decide:1<=3)) hr rfl (ab (pv 0) aj))) (br rfl rfl) nofun rfl nofun
   (λ_ _ _ _ _=>ay (i:=0) (show (["name","least","greatest"]:List Str).Nodup by decide +kernel) rfl (bJ rfl)) (λ_ _ _ _ _=>hJ (bU pY (bR (Bt rfl) rfl T.max PyProof.Rows.boot_max (ab (d5 hu (pv 1) (pv 0) (λ_ _=>rfl)) (ab (C4 hu (pv 2) (pv 0) ar ⟨rfl,rfl,rfl,rfl⟩) aj))) (lH (v:=.int 60) rfl hM ⟨tm,rfl⟩) (bL _))) (λ_ _ _ _ _=>pv 0))
  (aq (cW (gU (pv 8) (λ_=>rfl)) (aq gq) bB))))))))))))),?_⟩
 nofun
 have ll:=a9 cR;obtain⟨kN,BQ⟩:∃kN,aa[0]?=some kN:=by
  cases aa with
  | nil=>exact absurd rfl qY
  | cons a r=>exact⟨a,rfl⟩
 have eR:(rs.map V.ref).isEmpty=false:=by
  have l0:=(bA.mp BQ).1;cases rs with
  | nil=>simp at ll;omega
  | cons a r=>rfl
 refine⟨_,rfl,true,.inl ⟨_,hR,by rw [eR];rfl⟩,?_⟩;refine iW ?_;refine⟨_,rfl,S,ss,str,rfl,hS,xg,Rg,M7,Rm,λH1 s1=>?_⟩;have Ox:=Gn.same s1;have WN:=OW.same s1;refine⟨_,rfl,R,rs,aa,rfl,s1.seq hR,cR.same s1,bc,h8,Ox,λdl kl ksl gl H2 fl s2 WQ el kkl vl WS sel _=>?_⟩;have wb:=zP s2 Ox (s1.seq hR);have qX:=(cR.same s1).keep λ_ _ z=>zq s2 Ox z;have WM:=zt s2 Ox WN nT.symm;have hl:=gd.least gl WS sel;have S02:j3 T1 T2 H H2:=λb o n1 _ hb=>s2 b o n1 (s1 b o hb);refine⟨_,rfl,R,rs,aa,rfl,wb,qX,bc,λD3 H3 f3 s3 e3=>⟨D3,rfl,⟨_,aH.of e3⟩,λD4 ZU=>qA rfl (aH.of e3) ZU (λz hz H' Q' s' hQ=>?_) λH4 s4 e4=>?_⟩⟩
 .obtain⟨n,en,_⟩:=hl z hz;have hg:bX H' dl (.str z) (some (.int n)):=by
   have:=bX.k (k:=Sum.inr z) (s' _ _ (s3 _ _ el));rw [vl,en] at this;exact this
  exact⟨_,rfl,_,rfl,dl,_,rfl,hg,_,rfl,hQ⟩
 refine⟨_,rfl,false,.inl ⟨[],aH.of e4,rfl⟩,?_⟩;refine iW ?_;have IU:=s3.trans s4;refine⟨_,rfl,R,rs,aa,kN,rfl,IU.seq wb,qX.same IU,BQ,bc,h8,λdm km ms H5 f5 s5 em Yw Ax _ X0=>?_⟩;have Qa:=IU.trans s5;refine⟨_,rfl,R,rs,aa,rfl,Qa.seq wb,qX.same Qa,bc,λD6 H6 f6 s6 e6=>⟨D6,rfl,⟨_,aH.of e6⟩,λD7 Sa=>qA rfl (aH.of e6) Sa (λz hz H' Q' s' hQ=>?_) λH7 s7 e7=>?_⟩⟩
 .have hm:=gd.met kN ms BQ Ax X0 z hz;have hv:(aY km (Sum.inr z)).isSome=true:=by rw [dB,Yw];exact cv.mpr hm
  refine⟨_,rfl,_,rfl,dm,_,rfl,bX.k (k:=Sum.inr z) (s' _ _ (s6 _ _ em)),_,rfl,?_⟩;rw [hv];exact hQ
 refine⟨_,rfl,false,.inl ⟨[],aH.of e7,rfl⟩,?_⟩;refine iW ?_;have P_:=(Qa.trans s6).trans s7;refine⟨_,rfl,R,rs,aa,rk,rfl,P_.seq wb,qX.same P_,bc,h8,gd.loop,λD8 H8 f8 s8 e8=>?_⟩;refine⟨_,rfl,false,.inl ⟨[],aH.of e8,rfl⟩,?_⟩;refine iW ?_;have Hl:=P_.trans s8;have WO:=WQ.same Hl;have LR:=WM.same Hl;refine⟨_,rfl,R,rs,aa,b,rfl,Hl.seq wb,qX.same Hl,bc,h8,gd.SV,LR,λdg kg ksg gg H9 f9 s9 WL eg kkg vg jg _ _=>?_⟩;have ZL:=zP s9 LR (Hl.seq wb);have Rp:=(qX.same Hl).keep λ_ _ z=>zq s9 LR z;have PX:=zt s9 LR WO nT;have VR:=Hl _ _ el;have el9:=s9 _ _ (λz=>by obtain⟨ps,a,_⟩:=LR;rw [<-z,VR] at a;cases a) VR;refine⟨_,rfl,R,rs,aa,rfl,ZL,Rp,bc,λTL zm f10 uj BU=>⟨TL,rfl,⟨_,aH.of BU⟩,λD11 Sd=>qA rfl (aH.of BU) Sd (λz hz H' Q' s' hQ=>?_) λBI Ft E4=>?_⟩⟩
 .obtain⟨n,en,Y3⟩:=hl z hz;have Gh:bX H' dl (.str z) (some (.int n)):=by
   have:=bX.k (k:=Sum.inr z) (s' _ _ (uj _ _ el9));rw [vl,en] at this;exact this
  have VU:=s' _ _ (uj _ _ eg);obtain⟨v,YG,hv2⟩:∃v:Int,((gg z).map V.int).getD (.int 0)=.int v/\v<=60:=by
   cases e:gg z with
   | none=>exact⟨0,rfl,nofun⟩
   | some v=>exact⟨v,rfl,Int.le_trans (jg z v e).2.1 (gd.most z hz)⟩
  have RL:bX H' dg (.str z) ((gg z).map V.int):=by
   have:=bX.k (k:=Sum.inr z) VU;rw [vg] at this;exact this
  refine⟨_,rfl,_,rfl,dl,_,rfl,Gh,_,rfl,dg,rfl,.inl ⟨_,.inl VU⟩,_,rfl,_,RL,?_⟩;rw [YG];refine⟨n,v,rfl,_,_,rfl,rfl,_,rfl,?_⟩;rw [fN (by split <;> omega)]
  exact hQ
 refine⟨_,rfl,false,.inl ⟨[],aH.of E4,rfl⟩,?_⟩;refine iW ?_;have IT:=uj.trans Ft;exact q BI (λc o n1 n2 hc=>IT c o (s9 c o n2 (Hl c o (S02 c o n1 n2 hc)))) (PX.same IT) (WL.same IT)
end
end fh
namespace M11
open PySem L2
abbrev Be:=Str×Str×Nat×Nat
def u7 (cf:List Be):List (Str×Str):=cf.map λb=>(b.1,b.2.1)
def lX (cf:List Be)(n:Str):List Str:=(cf.filter λb=>decide (b.1=n)).map (·.2.1)
def oq (names:List Str)(cf:List Be)(z:Str):List Str:=if z∈names then lX cf z else [z]
inductive vf (aa:List au) (names:List Str)(b:Str->Bool):List Be->Prop
 | nil:vf aa names b []
 | snoc {cf:List Be}{k j:Nat}{ru:au}{z w:Str}:vf aa names b cf->aa[k]?=some ru->ru.2[j]?=some z->j < Bf b ru.2->w∈oq names cf z->(ru.1,w)∉u7 cf->vf aa names b (cf++[(ru.1,w,k,j)])
def yO {cf:List Be}{n w:Str}:w∈lX cf n↔(n,w)∈u7 cf:=by
 unfold lX u7;rw [cA,cA];constructor
 .rintro⟨b,hb,rfl⟩;obtain⟨h1,h2⟩:=je.mp hb;exact⟨b,h1,by rw [cK h2]⟩
 rintro⟨b,hb,e⟩;cases e;exact⟨b,je.mpr ⟨hb,dI rfl⟩,rfl⟩
def z_ (cf:List Be)(b:Be)(n:Str):lX (cf++[b]) n=lX cf n++(if b.1=n then [b.2.1] else []):=by
 unfold lX;rw [kQ,bw];by_cases c:b.1=n
 .rw [av c];simp [c]
 rw [ax c];simp [c]
end M11
namespace fh
open PySem L2 M11
def GK:Stmt->List Stmt
 | .ClassDef _ _ _ b _ _ _ _ _ _ _=>b
 | _=>[]
abbrev MD (st:Stmt) (i:Nat):Stmt:=(GK st).getD i (.Pass ⟨0,0,0,0⟩)
abbrev x_:Stmt:=MD x9 0
abbrev CG:Stmt:=MD x9 1
abbrev xW:Stmt:=MD x9 2
abbrev ui:Stmt:=MD CF 0
section
structure BC (K:aV)(C:Addr):Prop where
 cls:BJ K C
 a1:dw K C "empties"
 a2:dw K C "empty"
 a3:dw K C "begins"
 a4:dw K C "firsts"
structure rh (K:aV)(C:Addr)(H0 H:Hp)(a e d bg:Addr)(kE:List (aI×V))(aX:List (Str×Nat))(ps:List (Str×Addr))(cf:List Be):Prop where
 sm:aC H0 H
 ia:∃dx fs,H a=some (.ins C dx fs)/\fs.lookup ("empty":Str)=some (.ref e)/\fs.lookup ("begins":Str)=some (.ref bg)/\fs.lookup ("firsts":Str)=some (.ref d)/\fs.lookup ("find_begins":Str)=none/\fs.lookup ("words_of_part":Str)=none
 he:H e=some (.dK kE)
 hd:H d=some (.dK (ps.map iK))
 n1:(ps.map (·.1)).Nodup
 n2:(ps.map (·.2)).Nodup
 dk:∀p∈ps,(∃kvs,H p.2=some (.dK kvs)/\kvs.map (·.1)=(lX cf p.1).map Sum.inr)/\H0 p.2=none/\p.2≠e/\p.2≠d
 lb:∃ts,H bg=some (.lst (ts.map V.ref))/\Paired (λt (b:Be)=>aW K H t [.str b.1,.str b.2.1,.int (b.2.2.1:Int),.int (b.2.2.2:Int)]) ts cf
 fb:H0 bg=none
 em:∃e1 ts,(∃dx fs,H a=some (.ins C dx fs)/\fs.lookup ("empties":Str)=some (.ref e1))/\H e1=some (.lst (ts.map V.ref))/\nN K H ts aX/\e1≠bg
def rh.same {C:Addr}{H0 H H':Hp}{a e d bg:Addr}{kE:List (aI×V)}{aX:List (Str×Nat)}{ps:List (Str×Addr)}{cf:List Be}(h:rh K C H0 H a e d bg kE aX ps cf)(s:aC H H'):rh K C H0 H' a e d bg kE aX ps cf:=by
 refine⟨h.sm.trans s,?_,s _ _ h.he,s _ _ h.hd,h.n1,h.n2,λp hp=>?_,?_,h.fb,?_⟩
 .obtain⟨dx,fs,q,r⟩:=h.ia;exact⟨dx,fs,s _ _ q,r⟩
 .obtain⟨⟨kvs,q,r⟩,t⟩:=h.dk p hp;exact⟨⟨kvs,s _ _ q,r⟩,t⟩
 .obtain⟨ts,q,r⟩:=h.lb;exact⟨ts,s _ _ q,Paired.gy r λ_ _ z=>s.tup z⟩
 obtain⟨e1,ts,⟨dx,fs,q1,q2⟩,q3,q4,q5⟩:=h.em;exact⟨e1,ts,⟨dx,fs,s _ _ q1,q2⟩,s _ _ q3,q4.keep λ_ _ z=>s.tup z,q5⟩
def zH (K:aV)(C:Addr):Sp:=λvs H Q _=>∃(H0:Hp)(a e d bg:Addr)(kE:List (aI×V))(aX:List (Str×Nat))(ps:List (Str×Addr))(cf:List Be)(z:Str),vs=[.ref a,.str z]/\rh K C H0 H a e d bg kE aX ps cf /\
 ∀(D:Addr)(H':Hp),H D=none->aC H H'->H' D=some (.lst ((oq (ps.map (·.1)) cf z).map V.str))->Q (.ref D) H'
def Fj:aK ["self","part"] ["self","part"] (az xW):=iL rfl rfl rfl rfl nofun
def Df {C:Addr}(F:hZ K "words_of_part" "BeginTable.words_of_part" xW f fd)(T:Txt mg)(B:BC K C):bI P w K mg base e_ 1 f fd ["self","part"] (zH K C):=by
 refine F.ok Fj (λvs H Q E h=>?_) (λdN A outer s H vs Q E hr h=>?_)
 .obtain⟨H0,a,e,d,bg,kE,aX,ps,cf,z,rfl,_⟩:=h;rfl
 obtain⟨H0,a,e,d,bg,kE,aX,ps,cf,z,rfl,S,q⟩:=h;have hu:=gu hr;obtain⟨dx,fs,ea,f1,f2,f3,f4,f5⟩:=S.ia;refine⟨_,aq (a_ (vI (d7 (mU hu (pv 1) (df (pv 0) rfl))) (a7 (kK rfl) rfl T.lst fK (ab (d5 hu (df (pv 0) rfl) (pv 1) (λ_ _=>rfl)) aj)) (bD (ab (pv 1) aj)))),?_⟩;dsimp only [qx];have mem:(aY (ps.map iK) (Sum.inr z)).isSome=true↔z∈ps.map (·.1):=by rw [dB,lP];exact cv
 refine⟨_,rfl,_,rfl,a,C,dx,fs,_,rfl,ea,B.cls,B.a4,f3,d,_,rfl,bX.k (k:=Sum.inr z) S.hd,_,rfl,?_⟩;refine dj (λc=>?_) (λc=>?_)
 .have hz:=mem.mp c;obtain⟨p,hp,ep⟩:=cA.mp hz;obtain⟨⟨kvs,hk,kk⟩,_⟩:=S.dk p hp;have vn:=fP ps S.n1 p hp;rw [ep] at vn;have hg:bX H d (.str z) (some (.ref p.2)):=by
   have:=bX.k (k:=Sum.inr z) S.hd;rw [vn] at this;exact this
  refine⟨_,rfl,a,C,dx,fs,_,rfl,ea,B.cls,B.a4,f3,_,rfl,d,_,rfl,hg,p.2,kvs,rfl,hk,λD hD=>?_⟩;refine q D _ hD (af hD _) ?_;rw [ae,keys_str kk,ep];unfold oq;rw [av hz]
 refine⟨_,rfl,BK,λD hD=>?_⟩;refine q D _ hD (af hD _) ?_;rw [ae];unfold oq;rw [ax (λh=>c (mem.mpr h))];rfl
def rh.more {C:Addr}{H0 H H2:Hp}{a e d bg t:Addr}{kE kvs:List (aI×V)}{aX:List (Str×Nat)}{ps:List (Str×Addr)}{cf:List Be}{p:Str×Addr}{wd:Str}{k j:Nat}{ts:List Addr}(h:rh K C H0 H a e d bg kE aX ps cf)(hp:p∈ps)(hk:H p.2=some (.dK kvs))(kk:kvs.map (·.1)=(lX cf p.1).map Sum.inr)
  (hn:(p.1,wd)∉u7 cf)(hb:H bg=some (.lst (ts.map V.ref)))(K9:Paired (λt (b:Be)=>aW K H t [.str b.1,.str b.2.1,.int (b.2.2.1:Int),.int (b.2.2.2:Int)]) ts cf)
  (s:aC (upd H p.2 (.dK (bj kvs (Sum.inr wd) (.bl true)))) H2)(ht:aW K H2 t [.str p.1,.str wd,.int (k:Int),.int (j:Int)]) :
  rh K C H0 (upd H2 bg (.lst (ts.map V.ref++[.ref t]))) a e d bg kE aX ps (cf++[(p.1,wd,k,j)]):=by
 have OI:bg≠p.2:=λz=>by rw [z,hk] at hb;cases hb
 have Gm:H2 bg=some (.lst (ts.map V.ref)):=s _ _ (by rw [ai OI];exact hb);obtain⟨_,fp,Uu,Uv⟩:=h.dk p hp;have up:∀c o,c≠bg->c≠p.2->H c=some o->upd H2 bg (.lst (ts.map V.ref++[.ref t])) c=some o:=λc o n1 n2 q=>by
  rw [ai n1];exact s _ _ (by rw [ai n2];exact q)
 refine⟨λc o hc=>up c o (λz=>by rw [z,h.fb] at hc;cases hc) (λz=>by rw [z,fp] at hc;cases hc) (h.sm c o hc),?_,up _ _ (λz=>by have:=h.he;rw [z,hb] at this;cases this) Uu.symm h.he,up _ _ (λz=>by have:=h.hd;rw [z,hb] at this;cases this) Uv.symm h.hd,h.n1,h.n2,λp' kF=>?_,⟨ts++[t],by rw [ae,bw];rfl,?_⟩,h.fb,?_⟩
 .obtain⟨dx,fs,q,r⟩:=h.ia;exact⟨dx,fs,up _ _ (λz=>by rw [z,hb] at q;cases q) (λz=>by rw [z,hk] at q;cases q) q,r⟩
 .obtain⟨⟨ky,q,r⟩,t'⟩:=h.dk p' kF;refine⟨?_,t'⟩;by_cases z:p'=p
  .rw [z];refine⟨bj kvs (Sum.inr wd) (.bl true),by rw [ai OI.symm];exact s _ _ ae,?_⟩;rw [gI (by rw [kk];exact λq=>hn (yO.mp (cv.mp q))),kk,z_,av rfl,bw];rfl
  have n1:p'.1≠p.1:=λq'=>z (by
   have w1:=fP ps h.n1 p' kF;have w2:=fP ps h.n1 p hp;rw [q',w2] at w1;injection w1 with w3;injection w3 with w4;exact Prod.ext q' w4.symm)
  have n2:p'.2≠p.2:=λq'=>by
   obtain⟨i,hi,ei⟩:=oT.mp kF;obtain⟨j',hj,ej⟩:=oT.mp hp;have EW:i=j':=by
    refine(o9 (xs:=ps.map (·.2)) (h₀:=by simpa using hi) (h₁:=by simpa using hj) h.n2).mp ?_;rw [mz,mz,ei,ej];exact q'
   subst EW;exact z (ei.symm.trans ej)
  refine⟨ky,up _ _ (λz=>by rw [z,hb] at q;cases q) n2 q,?_⟩;rw [r,z_,ax (λq'=>n1 q'.symm),eF]
 .exact fj (Paired.gy K9 λ_ _ z=>aN Gm (s.tup (eI hk z))) (aN Gm ht)
 obtain⟨e1,te,⟨dx,fs,q1,q2⟩,q3,q4,q5⟩:=h.em;exact⟨e1,te,⟨dx,fs,up _ _ (λz=>by rw [z,hb] at q1;cases q1) (λz=>by rw [z,hk] at q1;cases q1) q1,q2⟩,up _ _ q5 (λz=>by rw [z,hk] at q3;cases q3) q3,q4.keep λ_ _ z=>aN Gm (s.tup (eI hk z)),q5⟩
def Kb (l m:List Be)(n:Str):lX (l++m) n=lX l n++lX m n:=by
 unfold lX;rw [kQ,bw]
def Fd {names:List Str}(l m:List Be){z x:Str}(h:x∈oq names l z):x∈oq names (l++m) z:=by
 unfold oq at h ⊢
 split
 .rename_i c
  rw [av c] at h;rw [Kb];exact jh _ h
 rename_i c
 rw [ax c] at h;exact h
def Ka (cf:List Be)(n:Str):(lX cf n).length<=cf.length:=by
 unfold lX;rw [aB];exact oU _ _
def Kx {n i:Nat}(h:i < n):(cnt n)[i]?=some (.int (i:Int)):=by
 unfold cnt;rw [bo,List.getElem?_range h];rfl
def Ad (n:Nat):(cnt n).length=n:=by unfold cnt;rw [aB,oS]
def Cq (K:aV)(C:Addr):Sp:=λvs H Q _=>∃(H0:Hp)(a e d bg r:Addr)(kE:List (aI×V))(aX:List (Str×Nat))(ps:List (Str×Addr))(cf:List Be) (k:Nat)(ru:au)(aa:List au),vs=[.ref a,.int (k:Int),.ref r]/\rh K C H0 H a e d bg kE aX ps cf/\j4 K H0 r ru/\aa[k]?=some ru/\ru.2.length<=8 /\
 ru.1∈ps.map (·.1)/\(∀uV:List Be,vf aa (ps.map (·.1)) (λz=>(aY kE (Sum.inr z)).isSome) uV->uV.length<=900000)/\vf aa (ps.map (·.1)) (λz=>(aY kE (Sum.inr z)).isSome) cf /\
 ∀(uV:List Be)(H':Hp),rh K C H0 H' a e d bg kE aX ps uV->vf aa (ps.map (·.1)) (λz=>(aY kE (Sum.inr z)).isSome) uV->cf.length<=uV.length->(uV.length=cf.length->uV=cf/\∀j z,j < Bf (λz=>(aY kE (Sum.inr z)).isSome) ru.2->ru.2[j]?=some z->∀wd∈oq (ps.map (·.1)) cf z,(ru.1,wd)∈u7 cf)->Q .eJ H'
def ua:aK ["self","number","rule","own","place","word"] ["self","number","rule"] (az CG):=iL rfl rfl rfl rfl nofun
def FZ {C fW:Addr}{VD:FuncData}(F:hZ K "find_begins" "BeginTable.find_begins" CG f fd)(T:Txt mg)(B:BC K C)(GP:aE P w K mg base 1 "first_places" ["parts","empty"] (vB K))(FW:bI P w K mg base e_ 1 fW VD ["self","part"] (zH K C))(MW:Meth K C "words_of_part" fW)(BW:Binds K VD ["self","part"] []) :
  bI P w K mg base e_ 2 f fd ["self","number","rule"] (Cq K C):=by
 refine F.ok ua (λvs H Q E h=>?_) (λdN A outer s H vs Q E hr h=>?_)
 .obtain⟨H0,a,e,d,bg,r,kE,aX,ps,cf,k,ru,aa,rfl,_⟩:=h;rfl
 obtain⟨H0,a,e,d,bg,r,kE,aX,ps,cf,k,ru,aa,rfl,S,⟨p,v1,v2⟩,er,h8,hh,ZF,RY,q⟩:=h;have hu:=gu hr;refine⟨_,ak (aG (i:=3) ua.nd rfl (bJ rfl) (d5 hu (df (pv 0) rfl) (aO cH (pv 2) ar (λ_ _=>rfl)) (λ_ _=>rfl)))
  (aq (b8 cx rfl (bq (bE GP hr rfl (ab (aO cH (pv 2) ar (λ_ _=>rfl)) (ab (df (pv 0) rfl) aj)))) (ay (i:=4) ua.nd rfl (bJ rfl))
   (aq (b8 cx rfl (bq (zX (pv 0) B.cls MW FW hr BW .nil rO (ab (aO cH (aO cH (pv 2) ar (λ_ _=>rfl)) (pv 4) (λ_ _=>rfl)) aj))) (ay (i:=5) ua.nd rfl (bJ rfl))
    (aq (cW (d7 (di hu (pv 5) (pv 3)))
     (ak (gJ hu (pv 3) (pv 5) fO rfl)
     (aq (cC (dJ gC iq ir cq (df (pv 0) rfl) (ab (aP (ab (aO cH (pv 2) ar (λ_ _=>rfl)) (ab (pv 5) (ab (pv 1) (ab (pv 4) aj))))) aj))))) bB)))))),?_⟩
 nofun
 obtain⟨pn,v9,xm⟩:=cA.mp hh;have vn:=fP ps S.n1 pn v9;rw [xm] at vn;obtain⟨dx,fs,ea,f1,f2,f3,f4,f5⟩:=S.ia;have hg:bX H d (.str ru.1) (some (.ref pn.2)):=by
  have:=bX.k (k:=Sum.inr ru.1) S.hd;rw [vn] at this;exact this
 refine⟨_,rfl,a,C,dx,fs,_,rfl,ea,B.cls,B.a4,f3,_,rfl,r,_,_,_,rfl,rfl,S.sm.tup v1,rfl,d,_,rfl,hg,?_⟩;refine⟨_,rfl,r,_,_,_,rfl,rfl,S.sm.tup v1,rfl,_,rfl,a,C,dx,fs,_,rfl,ea,B.cls,B.a2,f1,p,e,ru.2,kE,rfl,S.sm.tup v2,∅,S.he,λD5 H5 f6 s5 e5=>⟨D5,rfl,⟨_,aH.of e5⟩,?_⟩⟩;obtain⟨ts0,ZG,_⟩:=S.lb;have XQ:D5≠bg:=λz=>by rw [z,ZG] at f6;cases f6
 have fle:=D_ (λz=>(aY kE (Sum.inr z)).isSome) ru.2;generalize hb:(λz=>(aY kE (Sum.inr z)).isSome)=b at *;generalize hn:Bf b ru.2=n at *
 let zi:zj:=λi σ H6=>∃(dA:List Be)(y4 y5:Option V),σ=[bz a,some (.int (k:Int)),bz r,some (.ref pn.2),y4,y5]/\rh K C H0 H6 a e d bg kE aX ps dA/\H6 D5=some (.lst (cnt n))/\vf aa (ps.map (·.1)) b dA/\cf.length<=dA.length /\
  (dA.length=cf.length->dA=cf/\∀j z,j < i->ru.2[j]?=some z->∀wd∈oq (ps.map (·.1)) cf z,(ru.1,wd)∈u7 cf)
 refine dW (xs:=cnt n) zi ⟨cf,none,none,rfl,S.same s5,e5,RY,aF _,λ_=>⟨rfl,λj z hj=>by omega⟩⟩ ?_ ?_ ?_
 .rintro i σ H6 _ ⟨dA,y4,y5,rfl,S2,e6,_⟩;exact aH.of e6
 .intro i x σ H6 ex R6
  ac_nf0
  obtain⟨dA,y4,y5,rfl,S2,e6,SX,l2,c2⟩:=R6;have li:i < n:=by have:=(bA.mp ex).1;rw [Ad] at this;exact this
  rw [Kx li] at ex;cases ex;have lz:i < ru.2.length:=by omega
  obtain⟨z,ez⟩:∃z,ru.2[i]?=some z:=⟨ru.2[i],cQ lz⟩;have N1:jD (ru.2.map V.str) (i:Int)=some (.str z):=cw (by rw [bo,ez];rfl);obtain⟨O_,qZ,NQ,g1,g2,g3,g4,g5⟩:=S2.ia;refine goN ?_
  ac_nf
  refine⟨_,rfl,a,O_,qZ,rfl,NQ,g5,_,rfl,r,_,_,_,rfl,rfl,S2.sm.tup v1,rfl,_,rfl,p,_,_,_,rfl,rfl,S2.sm.tup v2,N1,H0,a,e,d,bg,kE,aX,ps,dA,z,rfl,S2,λD6 H7 f7 s7 e7=>⟨D6,rfl,⟨_,aH.of e7⟩,?_⟩⟩;obtain⟨vx,Gm,_⟩:=S2.lb;have XR:D6≠bg:=λz=>by rw [z,Gm] at f7;cases f7
  generalize UW:oq (ps.map (·.1)) dA z=ws at *
  let G3:zj:=λm σ H8=>∃(l:List Be)(y5:Option V),σ=[bz a,some (.int (k:Int)),bz r,some (.ref pn.2),some (.int (i:Int)),y5]/\rh K C H0 H8 a e d bg kE aX ps (dA++l)/\H8 D5=some (.lst (cnt n))/\H8 D6=some (.lst (ws.map V.str))/\vf aa (ps.map (·.1)) b (dA++l) /\
   (l=[]->∀wd∈ws.take m,(ru.1,wd)∈u7 dA)
  refine dW (xs:=ws.map V.str) G3 ⟨[],_,rfl,by rw [eF];exact S2.same s7,s7 _ _ e6,e7,by rw [eF];exact SX,λ_ wd h=>by simp at h⟩ ?_ ?_ ?_
  .rintro m σ H8 _ ⟨l,y5,rfl,S3,e8,e9,_⟩;exact aH.of e9
  .intro m x σ H8 ex R6
   ac_nf0
   obtain⟨l,y5,rfl,S3,e8,e9,NY,c3⟩:=R6;rw [bo] at ex;obtain⟨wd,ew,rfl⟩:=cg.mp ex;obtain⟨⟨kvs,hk,kk⟩,fp,Uu,Uv⟩:=S3.dk pn v9;obtain⟨TZ,OV,Nx⟩:=S3.lb;have lim:=ZF _ NY;have ltk:kvs.length<=900000:=by
    have h1:=congrArg List.length kk;rw [aB,aB] at h1;have:=Ka (dA++l) pn.1;omega
   have ltt:=a9 Nx;have mem:(aY kvs (Sum.inr wd)).isSome=true↔(ru.1,wd)∈u7 (dA++l):=by rw [dB,kk,cv,yO,xm]
   refine goN ?_
   ac_nf
   refine⟨_,rfl,_,rfl,pn.2,_,rfl,bX.k (k:=Sum.inr wd) hk,_,rfl,?_⟩;refine dj (λc=>?_) (λc=>?_)
   .have nm:(ru.1,wd)∉u7 (dA++l):=λh=>by rw [mem.mpr h] at c;exact absurd c nofun
    refine⟨_,rfl,_,rfl,_,_,rfl,mf.k (k:=Sum.inr wd) hk (bF ∅),?_⟩;obtain⟨V_,EZ,SF,k1,k2,k3,k4,k5⟩:=S3.ia;have XJ:a≠pn.2:=λz=>by rw [z,hk] at SF;cases SF
    have OI:bg≠pn.2:=λz=>by rw [z,hk] at OV;cases OV
    have Kr:upd H8 pn.2 (.dK (bj kvs (Sum.inr wd) (.bl true))) a=some (.ins C V_ EZ):=by rw [ai XJ];exact SF
    have Vq:upd H8 pn.2 (.dK (bj kvs (Sum.inr wd) (.bl true))) bg=some (.lst (TZ.map V.ref)):=by rw [ai OI];exact OV
    refine⟨_,rfl,a,C,V_,EZ,_,rfl,Kr,B.cls,B.a3,k2,.inl ⟨rfl,_,aH.of Vq⟩,_,rfl,r,_,_,_,rfl,rfl,eI hk (S3.sm.tup v1),rfl,_,rfl,_,rfl,_,rfl,Pq,λt4 A7=>?_⟩;have s4:=af A7 (.tup [.str ru.1,.str wd,.int (k:Int),.int (i:Int)]);have e4:aW K (upd (upd H8 pn.2 (.dK (bj kvs (Sum.inr wd) (.bl true)))) t4 (.tup [.str ru.1,.str wd,.int (k:Int),.int (i:Int)])) t4 [.str ru.1,.str wd,.int (k:Int),.int (i:Int)]:=aW.of ae;generalize upd (upd H8 pn.2 (.dK (bj kvs (Sum.inr wd) (.bl true)))) t4 (.tup [.str ru.1,.str wd,.int (k:Int),.int (i:Int)])=H9 at s4 e4;refine⟨bg,_,_,rfl,rfl,s4 _ _ Vq,bF (by rw [aB];omega),?_⟩;have Xw:(pn.1,wd)∉u7 (dA++l):=by rw [xm];exact nm
    have S4:=S3.more (k:=k) (j:=i) v9 hk kk Xw OV Nx s4 (by rw [xm];exact e4);have HC:∀D ys,H8 D=some (.lst ys)->D≠bg->upd H9 bg (.lst (TZ.map V.ref++[.ref t4])) D=some (.lst ys):=λD ys hD nb=>by
     rw [ai nb];exact s4 _ _ (by rw [ai (λz=>by rw [z,hk] at hD;cases hD)];exact hD)
    rw [gh,xm] at S4;refine⟨l++[(ru.1,wd,k,i)],_,rfl,S4,HC _ _ e8 XQ,HC _ _ e9 XR,?_,λh=>by simp at h⟩;rw [<-gh];refine .snoc NY er ez (by rw [hn];exact li) (Fd dA l (by rw [UW];exact bZ ew)) nm
   refine⟨l,_,rfl,S3,e8,e9,NY,λhl x hx=>?_⟩;rw [cP,ew] at hx;rcases bN.mp hx with h | h
   .exact c3 hl x h
   rw [Option.toList_some,bx] at h;subst h;have hm:(ru.1,x)∈u7 (dA++l):=mem.mp (by
    cases hq:(aY kvs (Sum.inr x)).isSome with
    | true=>rfl
    | false=>exact absurd (by rw [hq];rfl) c)
   rw [hl,eF] at hm;exact hm
  rintro σ H8 ⟨l,y5,rfl,S3,e8,e9,NY,c3⟩;rw [aB,cU] at c3;refine⟨dA++l,_,_,rfl,S3,e8,NY,by rw [cu];omega,λNl=>?_⟩;rw [cu] at Nl;have Nm:l=[]:=vi.mp ∅;obtain⟨JZ,mi⟩:=c2 ∅;rw [Nm,eF];refine⟨JZ,λj z' hj Sn wd UY=>?_⟩;by_cases cj:j < i
  .exact mi j z' cj Sn wd UY
  have:j=i:=by omega
  subst this;rw [ez] at Sn;cases Sn;have:=c3 Nm wd (by rw [<-UW,JZ];exact UY);rw [JZ] at this;exact this
 rintro σ H6 ⟨dA,y4,y5,rfl,S2,e6,SX,l2,c2⟩;rw [Ad] at c2;exact q dA H6 S2 SX l2 c2
end
end fh
namespace L2
open PySem M11
def wF {K:aV}{H:Hp}{p D:Addr}{zs:List Str}{σ:St}{x:Str}{Qp:Hp->Prop}(hp:aH K H p (zs.map V.str))(hz:zs.length<=10000)(hD:H D=none)
  (q:∀ts (ps:List (Str×Addr)) H2,aC H H2->H2 D=some (.lst (ts.map V.ref))->ps.map (·.1)=zs->Paired (λt (p:Str×Addr)=>aW K H2 t [.str p.1,.ref p.2]) ts ps->(∀p∈ps,H2 p.2=some (.dK [])/\H p.2=none/\p.2≠D)->(ps.map (·.2)).Nodup->Qp H2) :
  ∃W:Nat->Nat->List V->St->Hp->Prop,(∃m,W 0 m [] (dO [x] [] σ) (upd H D (.lst []))) /\
 ∀i m ys σ' H,W i m ys σ' H->((j5 K p).stop i H/\Qp H)\/((j5 K p).go i H/\∃m',m' < m/\∀x H',(j5 K p).mh i H x H'->dM 0 x σ' H' λσ2 H2=>ix σ2 H2 λb H3 =>
  if b=true then qT (fq (fR 0) (fq (Cd) pF)) σ2 H3 λy H4=>H4 D=some (.lst ys)/\ys.length < sizeLine/\W (i+1) m' (ys++[y]) σ2 (upd H4 D (.lst (ys++[y]))) else W (i+1) m' ys σ2 H3):=by
 refine bT (xs:=zs.map V.str) (λi ys σ2 H2=>∃(ts:List Addr)(ps:List (Str×Addr)),ys=ts.map V.ref/\ts.length=i/\ps.map (·.1)=zs.take i/\Paired (λt (p:Str×Addr)=>aW K H2 t [.str p.1,.ref p.2]) ts ps /\
   (∀p∈ps,H2 p.2=some (.dK [])/\H p.2=none/\p.2≠D)/\(ps.map (·.2)).Nodup/\(∃y0,σ2=[y0])/\aC H H2/\H2 D=some (.lst ys))
  ⟨[],[],rfl,rfl,rfl,.nil,by simp,by simp,⟨none,rfl⟩,af hD _,ae⟩ (λi ys σ2 H2 _ h=>?_) (λi x ys σ2 H2 ex h=>?_) (λys σ2 H2 h=>?_)
 .obtain⟨_,_,_,_,_,_,_,_,_,sm,_⟩:=h;exact sm.seq hp
 .obtain⟨ts,ps,rfl,ht,hm,uM,hl,hn,⟨y0,rfl⟩,sm,hd⟩:=h;rw [bo] at ex;obtain⟨z,ez,rfl⟩:=cg.mp ex;have li:=(bA.mp ez).1;refine goN (vb ?_);refine⟨_,rfl,λl qf=>⟨gE,λt g7=>?_⟩⟩;have Jn:l≠D:=(ao hd qf).symm;have nt:t≠l:=λe=>by rw [e,ae] at g7;cases g7
  have M4:H2 t=none:=by rw [ai nt] at g7;exact g7
  have Xu:t≠D:=(ao hd M4).symm;have tW:aC H2 (upd (upd H2 l (.dK [])) t (.tup [.str z,.ref l])):=(af qf _).trans (af g7 _);have gO:=tW _ _ hd;have el:upd (upd H2 l (.dK [])) t (.tup [.str z,.ref l]) l=some (.dK []):=by rw [ai nt.symm,ae]
  have et:aW K (upd (upd H2 l (.dK [])) t (.tup [.str z,.ref l])) t [.str z,.ref l]:=aW.of ae;generalize upd (upd H2 l (.dK [])) t (.tup [.str z,.ref l])=H4 at tW gO el et;refine⟨gO,bF (by rw [aB];omega),ts++[t],ps++[(z,l)],by rw [bw];rfl,by rw [cu,ht];rfl,by rw [bw,hm,cP,ez];rfl,?_,?_,?_,⟨_,rfl⟩,?_,ae⟩
  .exact fj (Paired.gy uM λt' h' z=>aN gO (tW.tup z)) (aN gO et)
  .intro p' kF;rcases bN.mp kF with h | h
   .obtain⟨a1,a2,a3⟩:=hl p' h;exact⟨by rw [ai a3];exact tW _ _ a1,a2,a3⟩
   rw [bx.mp h];exact⟨by rw [ai Jn];exact el,sm.free qf,Jn⟩
  .rw [bw];refine ik.mpr ⟨hn,by simp,λa ha b hb e=>?_⟩;rw [rj,bx] at hb;obtain⟨p',kF,rfl⟩:=cA.mp ha;have:=(hl p' kF).1;rw [e,hb] at this;rw [show H2 l=none from qf] at this;cases this
  intro b o hb;rw [ai (λz=>by rw [z,hD] at hb;cases hb)];exact tW _ _ (sm b o hb)
 obtain⟨ts,ps,rfl,ht,hm,uM,hl,hn,_,sm,hd⟩:=h;rw [aB,cU] at hm;exact q ts ps H2 sm hd hm uM hl hn
def gi {K:aV}{H:Hp}{D a C dx:Addr}{xs:List V}{fs:List (Str×V)}{o:HO}(hD:H D=some (.ins C dx fs))(h:aW K H a xs):aW K (upd H D o) a xs:=by
 rcases h with (h | ⟨u,h⟩) | h
 .exact .inl (.inl (by rw [ai (λz=>by rw [z,hD] at h;cases h)];exact h))
 .exact .inl (.inr ⟨u,by rw [ai (λz=>by rw [z,hD] at h;cases h)];exact h⟩)
 exact .inr h
def wD {K:aV}{H:Hp}{R D:Addr}{rs:List Addr}{es:List (Str×Nat)}{σ:St}{x1 x2:Str}{Qp:Hp->Prop}(hR:aH K H R (rs.map V.ref))(cR:Paired (λt (e:Str×Nat)=>aW K H t [.str e.1,.int (e.2:Int)]) rs es)(bc:es.length<=1000)(hD:H D=none)
  (q:∀ts H2,aC H H2->H2 D=some (.lst (ts.map V.ref))->Paired (λt h=>aW K H2 t [.str h,.bl true]) ts (es.map (·.1))->Qp H2) :
  ∃W:Nat->Nat->List V->St->Hp->Prop,(∃m,W 0 m [] (dO [x1,x2] [] σ) (upd H D (.lst []))) /\
 ∀i m ys σ' H,W i m ys σ' H->((j5 K R).stop i H/\Qp H)\/((j5 K R).go i H/\∃m',m' < m/\∀x H',(j5 K R).mh i H x H'->Bc K 2 (jA (dM 0) (jA (dM 1) DY)) x σ' H' λσ2 H2=>ix σ2 H2 λb H3 =>
  if b=true then qT (fq (fR 0) (fq (tC (.bl true)) pF)) σ2 H3 λy H4=>H4 D=some (.lst ys)/\ys.length < sizeLine/\W (i+1) m' (ys++[y]) σ2 (upd H4 D (.lst (ys++[y]))) else W (i+1) m' ys σ2 H3):=by
 have ll:=a9 cR;refine bT (xs:=rs.map V.ref) (λi ys σ2 H2=>∃ts:List Addr,ys=ts.map V.ref/\ts.length=i/\Paired (λt h=>aW K H2 t [.str h,.bl true]) ts ((es.take i).map (·.1))/\(∃y0 y1,σ2=[y0,y1])/\aC H H2/\H2 D=some (.lst ys))
  ⟨[],rfl,rfl,.nil,⟨none,none,rfl⟩,af hD _,ae⟩ (λi ys σ2 H2 _ h=>?_) (λi x ys σ2 H2 ex h=>?_) (λys σ2 H2 h=>?_)
 .obtain⟨_,_,_,_,_,sm,_⟩:=h;exact sm.seq hR
 .obtain⟨ts,rfl,ht,hp,⟨y0,y1,rfl⟩,sm,hd⟩:=h;rw [bo] at ex;obtain⟨r,er,rfl⟩:=cg.mp ex;have lr:=(bA.mp er).1;obtain⟨ru,e1⟩:∃ru,es[i]?=some ru:=⟨es[i]'∅,cQ ∅⟩;obtain⟨r',Kj,v1⟩:=Paired.at_ cR i ru e1;rw [er] at Kj;cases Kj;have li:=(bA.mp e1).1;refine⟨r,_,rfl,sm.tup v1,rfl,_,_,rfl,_,_,rfl,rfl,?_⟩;refine vb ?_;refine⟨_,rfl,gE,λt g7=>⟨?_,bF (by rw [aB];omega),ts++[t],?_,?_,?_,⟨_,_,rfl⟩,?_,ae⟩⟩
  .rw [ai (ao hd g7)];exact hd
  .rw [bw];rfl
  .rw [cu,ht];rfl
  .rw [cP,e1,bw];have gO:upd H2 t (.tup [.str ru.1,.bl true]) D=some (.lst (ts.map V.ref)):=by rw [ai (ao hd g7)];exact hd
   exact fj (Paired.gy hp λt' h' z=>aN gO ((af g7 _).tup z)) (aN gO (aW.of ae))
  intro b o hb;rw [ai (λz=>by rw [z,hD] at hb;cases hb)];exact af g7 _ _ _ (sm b o hb)
 obtain⟨ts,rfl,ht,hp,_,sm,hd⟩:=h;rw [aB,ll,cU] at hp;exact q ts H2 sm hd hp
end L2
namespace M11
open PySem L2
def vf.sub {aa:List au}{names:List Str}{b:Str->Bool}{cf:List Be}(h:vf aa names b cf):∀q∈u7 cf,q.1∈aa.map (·.1)/\q.2∈aa.flatMap (·.2):=by
 induction h with
 | nil=>intro q hq;cases hq
 | @snoc cf k j ru z wd hb er ez _ hw _ ih =>
  intro q hq;unfold u7 at hq;rw [bw] at hq;rcases bN.mp hq with hq | hq
  .exact ih q hq
  rw [rj,bx] at hq;rw [hq];have hm:=bZ er;refine⟨il hm,?_⟩;unfold oq at hw
  split at hw
  .exact(ih (z,wd) (yO.mp hw)).2
  rw [bx.mp hw];exact gA.mpr ⟨ru,hm,bZ ez⟩
def vf.nd {aa:List au}{names:List Str}{b:Str->Bool}{cf:List Be}(h:vf aa names b cf):(u7 cf).Nodup:=by
 induction h with
 | nil=>exact jT
 | @snoc cf k j ru z wd hb er ez _ hw hn ih =>
  unfold u7;rw [bw];refine ik.mpr ⟨ih,by simp,λx hx y hy e=>?_⟩;rw [rj,bx] at hy;rw [e,hy] at hx;exact hn hx
theorem vH (m:List Str):∀l:List Str,(l.flatMap λn=>m.map λwd=>(n,wd)).length=l.length * m.length
 | []=>by simp
 | n::l=>by
  rw [List.flatMap_cons,cu,vH m l,aB,cX,Nat.add_mul];omega
def vf.len {aa:List au}{names:List Str}{b:Str->Bool}{cf:List Be}(h:vf aa names b cf)(hl:aa.length<=100)(h8:∀ru∈aa,ru.2.length<=8):cf.length<=80000:=by
 have h1:=eY (u7 cf) ((aa.map (·.1)).flatMap λn=>(aa.flatMap (·.2)).map λwd=>(n,wd)) h.nd λq hq=>by
  obtain⟨a,c⟩:=h.sub q hq;exact gA.mpr ⟨q.1,a,cA.mpr ⟨q.2,c,rfl⟩⟩
 rw [vH] at h1;have h2:=fh.iF aa 100 hl h8;unfold u7 at h1;rw [aB,aB] at h1;have h3:aa.length * (aa.flatMap (·.2)).length<=100 * 800:=Nat.mul_le_mul hl h2;omega
def G8 (aa:List au) (names:List Str)(b:Str->Bool) (n:Nat)(cf:List Be):Prop:=∀k ru,k < n->aa[k]?=some ru->∀j z,j < Bf b ru.2->ru.2[j]?=some z->∀wd∈oq names cf z,(ru.1,wd)∈u7 cf
end M11
namespace fh
open PySem L2 M11
section
def zN (K:aV)(C:Addr):Sp:=λvs H Q _=>∃(H0:Hp)(a dx R:Addr)(rs:List Addr)(aa:List au),vs=[.ref a,.ref R]/\aC H0 H/\H0 a=none/\H a=some (.ins C dx [])/\aH K H0 R (rs.map V.ref)/\aR K H0 rs aa/\aa.length<=100/\(∀ru∈aa,ru.2.length<=8) /\
 ∀(e d bg:Addr)(kE:List (aI×V))(aX:List (Str×Nat))(ps:List (Str×Addr))(cf:List Be)(H':Hp),rh K C H0 H' a e d bg kE aX ps cf->ps.map (·.1)=hd aa->u4 aa aX->wX aa aa.length aX->(∀z,(aY kE (Sum.inr z)).isSome=decide (z∈aX.map (·.1))) ->
  vf aa (hd aa) (λz=>decide (z∈aX.map (·.1))) cf->G8 aa (hd aa) (λz=>decide (z∈aX.map (·.1))) aa.length cf->Q .eJ H'
def k_:aK ["self","rules","number","many","rule"] ["self","rules"] (az x_):=iL rfl rfl rfl rfl nofun
def Dp {C fF:Addr}{VG:FuncData}(F:hZ K "__init__" "BeginTable.__init__" x_ f fd)(T:Txt mg)(B:BC K C)(GE:aE P w K mg base 1 "found_empties" ["rules"] (mP K))(GH:aE P w K mg base 1 "heads_of" ["rules"] (jF K))
  (FF:bI P w K mg base e_ 2 fF VG ["self","number","rule"] (Cq K C))(MF:Meth K C "find_begins" fF)(BF:Binds K VG ["self","number","rule"] []):bI P w K mg base e_ 3 f fd ["self","rules"] (zN K C):=by
 refine F.ok k_ (λvs H Q E h=>?_) (λdN A outer s H vs Q E hr h=>?_)
 .obtain⟨H0,a,dx,R,rs,aa,rfl,_⟩:=h;rfl
 obtain⟨H0,a,dx,R,rs,aa,rfl,s0,f0,ea,hR,cR,bc,h8,q⟩:=h;refine⟨_,ak (fC (pv 0) (bE (GE.mono (by decide:1<=2)) hr rfl (ab (pv 1) aj)) rfl)
  (ak (fC (pv 0) (a7 (dC rfl) rfl T.ve eP (ab (bG ["name","number"] [] rfl (bq (df (pv 0) rfl)) (br rfl rfl) nofun rfl nofun
   (λ_ _ _ _ _=>iS (n:=2) K rfl (aD (ay (i:=0) (show (["name","number"]:List Str).Nodup by decide +kernel) rfl (bJ rfl)) (aD (ay (i:=1) (show (["name","number"]:List Str).Nodup by decide +kernel) rfl (bJ rfl)) cb))) (λ_ _ _ _ _=>b_)
   (λ_ _ _ _ _=>aP (ab (pv 0) (ab fO aj)))) aj)) rfl)
  (ak (fC (pv 0) (bD aj) rfl)
  (ak (fC (pv 0) (a7 (dC rfl) rfl T.ve eP (ab (bG ["name"] [] rfl (bq (bE (GH.mono (by decide:1<=2)) hr rfl (ab (pv 1) aj))) (br rfl rfl) nofun rfl nofun
   (λ_ _ _ _ _=>ay (i:=0) (show (["name"]:List Str).Nodup by decide +kernel) rfl (bJ rfl)) (λ_ _ _ _ _=>b_)
   (λ_ _ _ _ _=>aP (ab (pv 0) (ab fI aj)))) aj)) rfl)
  (ak (aG (i:=3) k_.nd rfl (bJ rfl) (iA fQ ar))
  (aq (gW cx (bU pX (pv 3) (bR cI rfl T.len gP (ab (df (pv 0) rfl) aj)) (bL _))
   (ak (aG (i:=3) k_.nd rfl (bJ rfl) (bR cI rfl T.len gP (ab (df (pv 0) rfl) aj)))
   (aq (b8 cx rfl (lG rfl T.E3 (ab (pv 1) aj)) (d8 rfl (aD (ay (i:=2) k_.nd rfl (bJ rfl)) (aD (ay (i:=4) k_.nd rfl (bJ rfl)) cb)))
    (aq (cC (zX (pv 0) B.cls MF FF hr BF .nil rO (ab (pv 2) (ab (pv 4) aj)))))))))))))),?_⟩
 nofun
 have ll:=a9 cR;refine⟨_,rfl,R,rs,aa,rfl,s0.seq hR,cR.same s0,∅,h8,λD1 Aw aX H1 f1 s1 e1 w1 emp Bk=>?_⟩;have SG:=s1 _ _ ea;refine⟨_,rfl,a,C,dx,[],rfl,SG,B.cls,B.a1,(by show 0 < 1000;decide),?_⟩;have e2:upd H1 a (.ins C dx (c_ "empties" (.ref D1) [])) D1=some (.lst (Aw.map V.ref)):=by rw [ai (λz=>by rw [z,SG] at e1;cases e1)];exact e1
 have w2:nN K (upd H1 a (.ins C dx (c_ "empties" (.ref D1) []))) Aw aX:=w1.keep λ_ _ z=>gi SG z;have IX:aC H0 (upd H1 a (.ins C dx (c_ "empties" (.ref D1) []))):=λc o hc=>by rw [ai (λz=>by rw [z,f0] at hc;cases hc)];exact s1 _ _ (s0 c o hc)
 have NQ:upd H1 a (.ins C dx (c_ "empties" (.ref D1) [])) a=some (.ins C dx (c_ "empties" (.ref D1) [])):=ae;generalize upd H1 a (.ins C dx (c_ "empties" (.ref D1) []))=H2 at e2 w2 IX NQ;have lets:=emp.len;refine⟨_,rfl,a,C,dx,_,_,rfl,NQ,B.cls,B.a1,rfl,D1,rfl,⟨_,aH.of e2⟩,λD2 jM=>wD (aH.of e2) w2 ∅ jM λvx H3 s3 e3 p3=>?_⟩;have kp:Paired (λt (kv:aI×V)=>aW K H3 t [kV kv.1,kv.2]) vx ((aX.map (·.1)).map λh=>((Sum.inr h:aI),V.bl true)):=cy p3 λ_ _ z=>z;refine⟨D2,vx,_,rfl,e3,kp,λe he=>?_⟩;have AY:∀z,(aY (cE ((aX.map (·.1)).map λh=>((Sum.inr h:aI),V.bl true)) []) (Sum.inr z)).isSome=decide (z∈aX.map (·.1)):=λz=>by
  rw [pD];by_cases c:z∈aX.map (·.1)
  .rw [av c,dI c];rfl
  rw [ax c,fN c];rfl
 generalize cE ((aX.map (·.1)).map λh=>((Sum.inr h:aI),V.bl true)) []=kE at AY;have Uj:=(IX.trans s3).trans (af he (.dK kE));have Kr:=af he (.dK kE) _ _ (s3 _ _ NQ);have O7:upd H3 e (.dK kE) e=some (.dK kE):=ae;have IU:aC H2 (upd H3 e (.dK kE)):=s3.trans (af he (.dK kE));generalize upd H3 e (.dK kE)=H4 at Uj Kr O7 IU;have SN:=IU _ _ e2;have Wx:nN K H4 Aw aX:=w2.keep λ_ _ z=>IU.tup z;refine⟨_,rfl,a,C,dx,_,rfl,Kr,B.cls,B.a2,(by show 1 < 1000;decide),?_⟩;generalize RP:c_ "empty" (.ref e) (c_ "empties" (.ref D1) [])=HP;have NP:upd H4 a (.ins C dx HP) e=some (.dK kE):=by rw [ai (λz=>by rw [z,Kr] at O7;cases O7)];exact O7
 have Qb:aC H0 (upd H4 a (.ins C dx HP)):=λc o hc=>by rw [ai (λz=>by rw [z,f0] at hc;cases hc)];exact Uj c o hc
 have V1:upd H4 a (.ins C dx HP) a=some (.ins C dx HP):=ae;have SM:upd H4 a (.ins C dx HP) D1=some (.lst (Aw.map V.ref)):=by rw [ai (λz=>by rw [z,Kr] at SN;cases SN)];exact SN
 have TR:nN K (upd H4 a (.ins C dx HP)) Aw aX:=Wx.keep λ_ _ z=>gi Kr z;generalize upd H4 a (.ins C dx HP)=H5 at NP Qb V1 SM TR;refine⟨qQ,λbg JX=>?_⟩;have fbg:H0 bg=none:=Qb.free JX;have O8:upd H5 bg (.lst []) bg=some (.lst []):=ae;have Ui:=Qb.trans (af JX (.lst []));have Ko:=af JX (.lst []) _ _ NP;have Lk:=af JX (.lst []) _ _ V1;have QI:D1≠bg:=ao SM JX;have Pa:=af JX (.lst []) _ _ SM;have TQ:nN K (upd H5 bg (.lst [])) Aw aX:=TR.keep λ_ _ z=>(af JX (.lst [])).tup z;generalize upd H5 bg (.lst [])=H6 at O8 Ui Ko Lk Pa TQ;refine⟨_,rfl,a,C,dx,_,rfl,Lk,B.cls,B.a3,(by rw [<-RP];show 2 < 1000;decide),?_⟩;generalize Vl:c_ "begins" (.ref bg) HP=Gq;have Kn:upd H6 a (.ins C dx Gq) e=some (.dK kE):=by rw [ai (λz=>by rw [z,Lk] at Ko;cases Ko)];exact Ko
 have VZ:upd H6 a (.ins C dx Gq) bg=some (.lst []):=by rw [ai (λz=>by rw [z,Lk] at O8;cases O8)];exact O8
 have IW:aC H0 (upd H6 a (.ins C dx Gq)):=λc o hc=>by rw [ai (λz=>by rw [z,f0] at hc;cases hc)];exact Ui c o hc
 have V0:upd H6 a (.ins C dx Gq) a=some (.ins C dx Gq):=ae;have Wb:upd H6 a (.ins C dx Gq) D1=some (.lst (Aw.map V.ref)):=by rw [ai (λz=>by rw [z,Lk] at Pa;cases Pa)];exact Pa
 have TN:nN K (upd H6 a (.ins C dx Gq)) Aw aX:=TQ.keep λ_ _ z=>gi Lk z;generalize upd H6 a (.ins C dx Gq)=H7 at Kn VZ IW V0 Wb TN;refine⟨_,rfl,R,rs,aa,rfl,IW.seq hR,cR.same IW,∅,λD4 H8 f8 s8 e8=>?_⟩;have Jv:=hX (aa.map (·.1)) [];simp only [i0,aB] at Jv;refine⟨D4,rfl,⟨_,aH.of e8⟩,λD5 K_=>wF (aH.of e8) ∅ K_ λts ps H9 s9 e9 m9 p9 l9 n9=>?_⟩;have n1:(ps.map (·.1)).Nodup:=by rw [m9];exact ny _ jT
 have DE:Paired (λt (kv:aI×V)=>aW K H9 t [kV kv.1,kv.2]) ts (ps.map iK):=cy p9 λ_ _ z=>z;refine⟨D5,ts,_,rfl,e9,DE,λd sh=>?_⟩;have NK:cE (ps.map iK) []=ps.map iK:=lY _ [] (by
  rw [nP,lP];exact uD n1)
 rw [NK];have KW:=s8.trans s9;have sd:=af sh (.dK (ps.map iK));have yc:=KW.trans sd;have oy:upd H9 d (.dK (ps.map iK)) d=some (.dK (ps.map iK)):=ae;have Ju:∀p∈ps,upd H9 d (.dK (ps.map iK)) p.2=some (.dK [])/\p.2≠d:=λp hp=>⟨sd _ _ (l9 p hp).1,λz=>by have:=(l9 p hp).1;rw [z,sh] at this;cases this⟩;generalize upd H9 d (.dK (ps.map iK))=zm at yc oy Ju;have yV:=yc _ _ V0;have uQ:=yc _ _ Kn;have Kq:=yc _ _ VZ;have Qc:=IW.trans yc;have Kw:=yc _ _ Wb;have Pz:nN K zm Aw aX:=TN.keep λ_ _ z=>yc.tup z;refine⟨_,rfl,a,C,dx,_,rfl,yV,B.cls,B.a4,(by rw [<-Vl,<-RP];show 3 < 1000;decide),?_⟩;have fp:∀p∈ps,H0 p.2=none/\p.2≠e:=λp hp=>by
  have VB:H8 p.2=none:=(l9 p hp).2.1;refine⟨(IW.trans s8).free VB,λz=>?_⟩;have:=s8 _ _ Kn;rw [<-z,VB] at this;cases this
 have Zh:∃fs,c_ "firsts" (.ref d) Gq=fs/\fs.lookup ("empty":Str)=some (.ref e)/\fs.lookup ("begins":Str)=some (.ref bg)/\fs.lookup ("firsts":Str)=some (.ref d)/\fs.lookup ("find_begins":Str)=none/\fs.lookup ("words_of_part":Str)=none/\fs.lookup ("empties":Str)=some (.ref D1):=by
  refine⟨_,rfl,?_⟩;rw [<-Vl,<-RP];refine⟨?_,?_,?_,?_,?_,?_⟩ <;> rfl
 obtain⟨fs,efs,k1,k2,k3,k4,k5,k6⟩:=Zh;rw [efs];have B1:rh K C H0 (upd zm a (.ins C dx fs)) a e d bg kE aX ps []:=by
  refine⟨λc o hc=>by rw [ai (λz=>by rw [z,f0] at hc;cases hc)];exact Qc c o hc,⟨dx,fs,ae,k1,k2,k3,k4,k5⟩,?_,?_,n1,n9,λp hp=>⟨⟨[],?_,rfl⟩,(fp p hp).1,(fp p hp).2,(Ju p hp).2⟩,⟨[],?_,.nil⟩,fbg,⟨D1,Aw,⟨dx,fs,ae,k6⟩,by rw [ai (λz=>by rw [z,yV] at Kw;cases Kw)];exact Kw,Pz.keep λ_ _ z=>gi yV z,QI⟩⟩
  .rw [ai (λz=>by rw [z,yV] at uQ;cases uQ)];exact uQ
  .rw [ai (λz=>by rw [z,yV] at oy;cases oy)];exact oy
  .have:=(Ju p hp).1;rw [ai (λz=>by rw [z,yV] at this;cases this)];exact this
  rw [ai (λz=>by rw [z,yV] at Kq;cases Kq)];exact Kq
 generalize upd zm a (.ins C dx fs)=BI at B1;have eb:(λz=>(aY kE (Sum.inr z)).isSome)=λz=>decide (z∈aX.map (·.1)):=funext AY;refine⟨1,rfl,?_⟩;refine⟨λmm σ wU=>∃(cf:List Be) (many:Int)(y2 y4:Option V),σ=[bz a,bz R,y2,some (.int many),y4]/\rh K C H0 wU a e d bg kE aX ps cf/\vf aa (hd aa) (λz=>decide (z∈aX.map (·.1))) cf/\-1<=many/\many<=cf.length /\
  (many=cf.length->G8 aa (hd aa) (λz=>decide (z∈aX.map (·.1))) aa.length cf)/\(mm:Int)=80001 - many,⟨80002,[],-1,none,none,rfl,B1,.nil,∅,by simp,by simp,∅⟩,?_⟩
 rintro mm σ wU ⟨cf,many,y2,y4,rfl,E8,KA,b1,b2,cl,em⟩;obtain⟨O_,qZ,q1,q2,q3,q4,q5,q6⟩:=E8.ia;obtain⟨tb,Vr,Gm⟩:=E8.lb;have lb:=a9 Gm;have Jz:=KA.len bc h8;refine⟨_,rfl,_,rfl,a,C,O_,qZ,_,rfl,q1,B.cls,B.a3,q3,bg,_,rfl,.inl (aH.of Vr),_,_,rfl,rfl,_,rfl,?_⟩;refine dj (λc=>?_) (λc=>?_)
 .have c':=cK c;rw [aB,lb] at c';refine⟨λσ Aq=>∃(dA:List Be)(y2 y4:Option V),σ=[bz a,bz R,y2,some (.int (cf.length:Int)),y4]/\rh K C H0 Aq a e d bg kE aX ps dA/\vf aa (hd aa) (λz=>decide (z∈aX.map (·.1))) dA/\cf.length<=dA.length /\
   (dA.length=cf.length->dA=cf/\G8 aa (hd aa) (λz=>decide (z∈aX.map (·.1))) aa.length cf),?_,?_⟩
  .rintro σ Aq ⟨dA,y2,y4,rfl,EA,Bx,QT,GQ⟩;have:=Bx.len bc h8;refine⟨(80001 - cf.length:Int).toNat,∅,dA,_,_,_,rfl,EA,Bx,∅,∅,λz=>?_,∅⟩;obtain⟨Gw,Bl⟩:=GQ ∅;rw [Gw];exact Bl
  refine⟨_,rfl,a,C,O_,qZ,_,rfl,q1,B.cls,B.a3,q3,bg,_,rfl,.inl (aH.of Vr),?_⟩;rw [aB,lb];refine⟨_,rfl,R,_,rfl,E8.sm.seq hR,?_⟩;refine jB (xs:=rs.map V.ref) (λi σ Aq=>∃(dA:List Be)(y2 y4:Option V),σ=[bz a,bz R,y2,some (.int (cf.length:Int)),y4]/\rh K C H0 Aq a e d bg kE aX ps dA/\vf aa (hd aa) (λz=>decide (z∈aX.map (·.1))) dA/\cf.length<=dA.length /\
   (dA.length=cf.length->dA=cf/\G8 aa (hd aa) (λz=>decide (z∈aX.map (·.1))) i cf)) ⟨cf,_,_,rfl,E8,KA,aF _,λ_=>⟨rfl,λk ru hk=>by omega⟩⟩ ?_ ?_ ?_
  .rintro i σ Aq _ ⟨dA,y2,y4,rfl,EA,_⟩;exact EA.sm.seq hR
  .rintro i x σ Aq t ex ⟨dA,y2,y4,rfl,EA,Bx,QT,GQ⟩ ht
   ac_nf0
   rw [bo] at ex;obtain⟨r,er,rfl⟩:=cg.mp ex;obtain⟨ru,oi,rv⟩:=cR.get er;have nj:=bZ oi;have Oa:=EA.same (af ht (.tup [.int (i:Int),.ref r]));have M0:aW K (upd Aq t (.tup [.int (i:Int),.ref r])) t [.int (i:Int),.ref r]:=aW.of ae;generalize upd Aq t (.tup [.int (i:Int),.ref r])=H14 at Oa M0;obtain⟨dx4,Lc,r1,r2,r3,r4,r5,r6⟩:=Oa.ia;refine⟨t,_,rfl,M0,rfl,_,_,rfl,_,_,rfl,rfl,?_⟩;refine⟨_,rfl,a,dx4,Lc,rfl,r1,r5,_,rfl,_,rfl,H0,a,e,d,bg,r,kE,aX,ps,dA,i,ru,aa,rfl,Oa,rv,oi,h8 ru nj,by rw [m9];exact(fY _ _ _).mpr (.inr (il nj)),?_,?_,?_⟩
   .intro uV BS;have:=BS.len bc h8;omega
   .rw [m9,eb];exact Bx
   rw [m9,eb];intro S_ H15 Tv SY l15 SU;refine⟨S_,_,_,rfl,Tv,SY,∅,λhl3=>?_⟩;obtain⟨x1,x2⟩:=GQ ∅;obtain⟨x3,x4⟩:=SU ∅;refine⟨x3.trans x1,λk u6 hk Sq j z hj ez wd hw=>?_⟩;by_cases ck:k < i
   .exact x2 k u6 ck Sq j z hj ez wd hw
   have:k=i:=by omega
   subst this;rw [oi] at Sq;cases Sq;rw [<-x1] at hw ⊢;exact x4 j z hj ez wd hw
  rintro σ Aq ⟨dA,y2,y4,rfl,EA,Bx,QT,GQ⟩;rw [aB,ll] at GQ;exact⟨dA,_,_,rfl,EA,Bx,QT,GQ⟩
 have c':=of_decide_eq_false (nS.mpr c);rw [aB,lb] at c';exact q e d bg kE aX ps cf wU E8 m9 emp Bk AY KA (cl ∅)
end
end fh
namespace L2
open PySem PySem.W
section
variable {X:Cx}{ah:List (Addr×Obj)}{σ:St}{H:Hp}{s:Shared}{a:Addr}{kvs:List (aI×V)}{k:aI}{u:Value}{A:Around}{E:Value->Shared->Prop}
def Ku {z:V}{r:Value}{Q:Value->Shared->Prop}(I:Inv X ah σ H s)(e:H a=some (.dK kvs))(hl:kvs.length < sizeLine)(ry:RelV (kV k) u)(rz:RelV z r)
  (h1:∀v w' s',aY kvs k=some v->Inv X ah σ H s'->RelV v w'->Q w' s')(h2:aY kvs k=none->∀s',Inv X ah σ (upd H a (.dK (bj kvs k z))) s'->Q r s') :
  wpAny (model X.prog X.w) A (call (.builtin "dict.setdefault") [.ref a,u,r]) Q E s:=by
 obtain⟨zl,hd,vs,rel,dd⟩:=wo I.bQ e;refine call_meetsIn PySem.F.slot_dict_setdefault dd.typeIs PySem.F.entry_dict_setdefault (PySem.F.args_dict_setdefault_3 _ _ _) (kt_meets_setdefault (aU X.prog X.w) a (jX ry) hd r)
  ⟨vs,dd,by rw [<-rel.length];exact zl,λv hv=>?_,λhn h' E5 hs=>?_⟩
 .have rv:=rel.val k;rw [hv] at rv;cases e2:aY kvs k with
  | none=>rw [e2] at rv;cases rv
  | some x=>rw [e2] at rv;exact h1 x v _ e2 (I.tok _) rv
 have HJ:aY kvs k=none:=by
  have rv:=rel.val k;rw [hn] at rv;cases e2:aY kvs k with
  | none=>rfl
  | some x=>rw [e2] at rv;cases rv
 have he:∃q,h'.get? a=some q:=let ⟨q,_,_,hq,_⟩:=E5;⟨q,hq⟩;exact h2 HJ _ (oO I (by rw [e];exact True.intro) hs he (qw (by have:=dS kvs k z;omega) hd (rel.put k rz) E5))
end
section
variable {X:Cx}{o e f:Expr}{apos eK:Pos}{td ty tx:TE}
def IB (td ty tx:TE):TE:=λσ H Q=>td σ H λx H1=>∃a,x=.ref a/\Pj H1 a/\ty σ H1 λy H2=>tx σ H2 λz H3=>∃kvs k,H3 a=some (.dK kvs)/\y=kV k/\kvs.length < sizeLine /\
 (∀v,aY kvs k=some v->Q v H3)/\(aY kvs k=none->Q z (upd H3 a (.dK (bj kvs k z))))
def C2 (ho:PE X o td)(he:PE X e ty)(hf:PE X f tx)(m:M2 X o "setdefault" apos e f eK):PE X (.Call (.Attribute o "setdefault" apos) [e,f] [] eK) (IB td ty tx):=by
 intro ah s σ H Q I h;refine wpAny_Call_method m.base m.Gs m.line xr PySem.F.slot_dict_setdefault PySem.F.type_dict_setdefault (cD (ho ah s σ H _ I h) λu s1 a8=>?_);obtain⟨x,H1,I1,rx,a,ex,d,q1⟩:=a8;subst ex;obtain rfl:u=Value.ref a:=rx;obtain⟨t1,t2,_⟩:=yH I1 d;refine⟨t1,t2,?_⟩;rw [m.trees];refine sY rfl (sR (mD (cD (he ah s1 σ H1 _ I1 q1) λiv s2 ⟨y,H2,I2,ry,q2⟩ =>
  mD (cD (hf ah s2 σ H2 _ I2 q2) λfv s3 ⟨z,H3,I3,rz,kvs,k,ea,ey,hl,q3,q4⟩=>Calls.spliced_nil ?_))))
 subst ey;exact Ku I3 ea hl ry rz (λv w' s4 l I4 ye=>⟨v,_,I4,ye,q3 v l⟩) λl s4 I4=>⟨z,_,I4,rz,q4 l⟩
end
end L2
namespace fh
open PySem L2 M11
section
def Mg {ps:List (Str×Addr)}(n1:(ps.map (·.1)).Nodup)(n2:(ps.map (·.2)).Nodup){p p':Str×Addr}(hp:p∈ps)(kF:p'∈ps)(z:p'≠p):p'.1≠p.1/\p'.2≠p.2:=by
 refine⟨λq=>z ?_,λq=>z ?_⟩
 .have w1:=fP ps n1 p' kF;have w2:=fP ps n1 p hp;rw [q,w2] at w1;injection w1 with w3;injection w3 with w4;exact Prod.ext q w4.symm
 obtain⟨i,hi,ei⟩:=oT.mp kF;obtain⟨j,hj,ej⟩:=oT.mp hp;have EW:i=j:=by
  refine(o9 (xs:=ps.map (·.2)) (h₀:=by simpa using hi) (h₁:=by simpa using hj) n2).mp ?_;rw [mz,mz,ei,ej];exact q
 subst EW;exact ei.symm.trans ej
structure E9 (ps:List (Str×Addr))(st:Str->List Int)(H:Hp)(d:Addr):Prop where
 hd:H d=some (.dK (ps.map iK))
 n1:(ps.map (·.1)).Nodup
 n2:(ps.map (·.2)).Nodup
 lst:∀p∈ps,H p.2=some (.lst ((st p.1).map V.int))
def E9.same {ps:List (Str×Addr)}{st:Str->List Int}{H H':Hp}{d:Addr}(h:E9 ps st H d)(s:aC H H'):E9 ps st H' d:=⟨s _ _ h.hd,h.n1,h.n2,λp hp=>s _ _ (h.lst p hp)⟩
def Al (st:Str->List Int)(n:Str) (k:Int):Str->List Int:=λz=>if z=n then st z++[k] else st z
def E9.more {ps:List (Str×Addr)}{st:Str->List Int}{H:Hp}{d:Addr}(h:E9 ps st H d){p:Str×Addr}(hp:p∈ps) (k:Int):E9 ps (Al st p.1 k) (upd H p.2 (.lst ((st p.1).map V.int++[.int k]))) d:=by
 have a:=h.lst p hp;have nd:d≠p.2:=λz=>by have:=h.hd;rw [z,a] at this;cases this
 refine⟨by rw [ai nd];exact h.hd,h.n1,h.n2,λp' kF=>?_⟩;by_cases z:p'=p
 .rw [z,ae];have e1:Al st p.1 k p.1=st p.1++[k]:=av rfl;rw [e1,bw];rfl
 obtain⟨a1,a2⟩:=Mg h.n1 h.n2 hp kF z;have e1:Al st p.1 k p'.1=st p'.1:=ax a1;rw [ai a2,e1];exact h.lst p' kF
def Cn (K:aV):Sp:=λvs H Q _=>∃(R:Addr)(rs:List Addr)(aa:List au),vs=[.ref R]/\aH K H R (rs.map V.ref)/\aR K H rs aa/\aa.length<=1000 /\
 ∀(d:Addr)(ps:List (Str×Addr))(H':Hp),H d=none->aC H H'->E9 ps (λn=>nums aa n aa.length) H' d->ps.map (·.1)=hd aa->(∀p∈ps,H p.2=none)->Q (.ref d) H'
def t_:aK ["rules","numbers","number","rule"] ["rules"] (az CB):=iL rfl rfl rfl rfl nofun
def FX (F:hZ K "numbers_by_name" "numbers_by_name" CB f fd)(T:Txt mg)(GH:aE P w K mg base 1 "heads_of" ["rules"] (jF K)):bI P w K mg base e_ 2 f fd ["rules"] (Cn K):=by
 refine F.ok t_ (λvs H Q E h=>?_) (λdN A outer s H vs Q E hr h=>?_)
 .obtain⟨R,rs,aa,rfl,_⟩:=h;rfl
 obtain⟨R,rs,aa,rfl,hR,cR,bc,q⟩:=h;have hu:=gu hr;refine⟨_,ak (aG (i:=1) t_.nd rfl (bJ rfl) (a7 (dC rfl) rfl T.ve eP (ab
   (bG ["name"] [] rfl (bq (bE GH hr rfl (ab (pv 0) aj))) (br rfl rfl) nofun rfl nofun
    (λ_ _ _ _ _=>ay (i:=0) (show (["name"]:List Str).Nodup by decide +kernel) rfl (bJ rfl)) (λ_ _ _ _ _=>b_)
    (λ_ _ _ _ _=>aP (ab (pv 0) (ab (bD aj) aj)))) aj)))
  (ak (b8 cx rfl (lG rfl T.E3 (ab (pv 0) aj)) (d8 rfl (aD (ay (i:=2) t_.nd rfl (bJ rfl)) (aD (ay (i:=3) t_.nd rfl (bJ rfl)) cb)))
   (aq (cC (dJ gC iq ir cq (d5 hu (pv 1) (aO cH (pv 3) ar (λ_ _=>rfl)) (λ_ _=>rfl)) (ab (pv 2) aj)))))
  (aq (a_ (pv 1)))),?_⟩
 nofun
 have ll:=a9 cR;refine⟨_,rfl,R,rs,aa,rfl,hR,cR,bc,λD2 H3 f3 s3 e3=>?_⟩;have Jv:=hX (aa.map (·.1)) [];simp only [i0,aB] at Jv;refine⟨D2,rfl,⟨_,aH.of e3⟩,λD3 HN=>qC (aH.of e3) ∅ HN λts ps H4 s4 e4 m4 p4 l4 n4=>?_⟩;have n1:(ps.map (·.1)).Nodup:=by rw [m4];exact ny _ jT
 have DE:Paired (λt (kv:aI×V)=>aW K H4 t [kV kv.1,kv.2]) ts (ps.map iK):=cy p4 λ_ _ z=>z;refine⟨D3,ts,_,rfl,e4,DE,λd sh=>?_⟩;have NK:cE (ps.map iK) []=ps.map iK:=lY _ [] (by
  rw [nP,lP];exact uD n1)
 rw [NK];have s5:=(s3.trans s4).trans (af sh (.dK (ps.map iK)));have AA:=af sh (.dK (ps.map iK));have vd:H d=none:=(s3.trans s4).free sh;have S5:E9 ps (λn=>nums aa n 0) (upd H4 d (.dK (ps.map iK))) d:=⟨ae,n1,n4,λp hp=>AA _ _ (l4 p hp).1⟩;have Ld:∀p∈ps,H p.2=none:=λp hp=>s3.free (l4 p hp).2.1;generalize upd H4 d (.dK (ps.map iK))=H5 at s5 S5;clear AA;refine⟨_,rfl,R,_,rfl,s5.seq hR,?_⟩
 let zi:zj:=λi σ H6=>∃(y2 y3:Option V),σ=[bz R,bz d,y2,y3]/\aC H H6/\E9 ps (λn=>nums aa n i) H6 d
 refine jB (xs:=rs.map V.ref) zi ⟨none,none,rfl,s5,S5⟩ ?_ ?_ ?_
 .rintro i σ H6 _ ⟨y2,y3,rfl,s6,_⟩;exact s6.seq hR
 .rintro i x σ H6 t ex ⟨y2,y3,rfl,s6,S6⟩ ht
  ac_nf0
  rw [bo] at ex;obtain⟨r,er,rfl⟩:=cg.mp ex;obtain⟨ru,oi,p,v1,v2⟩:=cR.get er;have nj:=bZ oi;have li:=(bA.mp oi).1;have EN:=af ht (.tup [.int (i:Int),.ref r]);have HI:aW K (upd H6 t (.tup [.int (i:Int),.ref r])) t [.int (i:Int),.ref r]:=aW.of ae;have s7:=s6.trans EN;have S7:=S6.same EN;generalize upd H6 t (.tup [.int (i:Int),.ref r])=H7 at HI s7 S7;obtain⟨pn,v9,xm⟩:∃pn∈ps,pn.1=ru.1:=by
   have:ru.1∈ps.map (·.1):=by rw [m4];exact(fY _ _ _).mpr (.inr (il nj))
   obtain⟨pn,a,b⟩:=cA.mp this;exact⟨pn,a,b⟩
  have an:=S7.lst pn v9;have vn:=fP ps n1 pn v9;rw [xm] at vn;have hg:bX H7 d (.str ru.1) (some (.ref pn.2)):=by
   have:=bX.k (k:=Sum.inr ru.1) S7.hd;rw [vn] at this;exact this
  have ln:=vO aa pn.1 i;refine⟨t,_,rfl,HI,rfl,_,_,rfl,_,_,rfl,rfl,?_⟩;refine⟨_,rfl,_,rfl,r,_,_,_,rfl,rfl,s7.tup v1,rfl,d,_,rfl,hg,.inl ⟨rfl,_,aH.of an⟩,_,rfl,pn.2,_,_,rfl,rfl,an,bF (by rw [aB];omega),?_⟩;have S8:=S7.more v9 (i:Int);refine⟨_,_,rfl,λb o hb=>by rw [ai (λz=>by rw [z,Ld pn v9] at hb;cases hb)];exact s7 b o hb,S8.hd,S8.n1,S8.n2,λp' kF=>?_⟩;have:=S8.lst p' kF;rw [this]
  congr 3
  unfold Al;rw [AR];by_cases c:p'.1=pn.1
  .rw [av c,av];unfold K3;rw [oi,c,xm];simp
  rw [ax c,ax,eF];unfold K3;rw [oi];intro z;have z2:=cK z;injection z2 with z3;exact c (by rw [xm];exact z3.symm)
 rintro σ H6 ⟨y2,y3,rfl,s6,S6⟩;rw [aB,ll] at S6;exact⟨_,rfl,q d ps H6 vd s6 S6 m4 Ld⟩
def He (K:aV):Sp:=λvs H Q _=>∃(R:Addr)(rs:List Addr)(aa:List au),vs=[.ref R]/\aH K H R (rs.map V.ref)/\aR K H rs aa/\aa.length<=1000/\(∀ru∈aa,ru.2.length<=8) /\
 ∀(d:Addr)(H':Hp),H d=none->aC H H'->Q (.ref d) H'
structure BY (H0 H:Hp)(d:Addr)(kvs:List (aI×V)) (n:Nat):Prop where
 hd:H d=some (.dK kvs)
 ln:kvs.length<=n
 lst:∀kv∈kvs,∃a xs,kv.2=.ref a/\H a=some (.lst xs)/\H0 a=none/\xs.length<=n
def BY.same {H0 H H':Hp}{d:Addr}{kvs:List (aI×V)}{n:Nat}(h:BY H0 H d kvs n)(s:aC H H'):BY H0 H' d kvs n:=⟨s _ _ h.hd,h.ln,λkv hk=>let ⟨a,xs,e1,e2,e3,e4⟩:=h.lst kv hk;⟨a,xs,e1,s _ _ e2,e3,e4⟩⟩
def BY.more {H0 H:Hp}{d a:Addr}{kvs:List (aI×V)}{n:Nat}{xs:List V}{y:V}(h:BY H0 H d kvs (n+1))(ha:H a=some (.lst xs))(lx:xs.length<=n)(l2:∀kv∈kvs,∃a xs,kv.2=.ref a/\H a=some (.lst xs)/\H0 a=none/\xs.length<=n):BY H0 (upd H a (.lst (xs++[y]))) d kvs (n+1):=by
 have nd:d≠a:=λz=>by have:=h.hd;rw [z,ha] at this;cases this
 refine⟨by rw [ai nd];exact h.hd,h.ln,λkv hk=>?_⟩;obtain⟨b,ys,e1,e2,e3,e4⟩:=l2 kv hk;by_cases c:b=a
 .exact⟨b,xs++[y],e1,by rw [c,ae],e3,by rw [cu];simp;omega⟩
 exact⟨b,ys,e1,by rw [ai c];exact e2,e3,∅⟩
def Iq {kvs:List (aI×V)}{k:aI}{v:V}(h:aY kvs k=some v):∃kv∈kvs,kv.2=v:=by
 unfold aY at h;obtain⟨kv,e1,e2⟩:=cg.mp h;exact⟨kv,List.mem_of_find?_eq_some e1,e2⟩
def rK:aK ["rules","standings","number","rule","place","part"] ["rules"] (az IL):=iL rfl rfl rfl rfl nofun
def Jh (F:hZ K "standings_by_part" "standings_by_part" IL f fd)(T:Txt mg):bI P w K mg base e_ 1 f fd ["rules"] (He K):=by
 refine F.ok rK (λvs H Q E h=>?_) (λdN A outer s H vs Q E hr h=>?_)
 .obtain⟨R,rs,aa,rfl,_⟩:=h;rfl
 obtain⟨R,rs,aa,rfl,hR,cR,bc,h8,q⟩:=h;have hu:=gu hr;refine⟨_,ak (aG (i:=1) rK.nd rfl (bJ rfl) fI)
  (ak (b8 cx rfl (lG rfl T.E3 (ab (pv 0) aj)) (d8 rfl (aD (ay (i:=2) rK.nd rfl (bJ rfl)) (aD (ay (i:=3) rK.nd rfl (bJ rfl)) cb)))
   (aq (b8 cx rfl (lF rfl T.E3 (ab (aO cH (pv 3) ar (λ_ _=>rfl)) aj)) (d8 rfl (aD (ay (i:=4) rK.nd rfl (bJ rfl)) (aD (ay (i:=5) rK.nd rfl (bJ rfl)) cb)))
    (aq (cC (dJ gC iq ir cq (C2 (pv 1) (pv 5) (bD aj) ⟨rfl,rfl,rfl,rfl⟩) (ab (aP (ab (pv 2) (ab (pv 4) aj))) aj)))))))
  (aq (a_ (pv 1)))),?_⟩
 nofun
 have ll:=a9 cR;intro d sh;have s1:=af sh (.dK []);have S1:BY H (upd H d (.dK [])) d [] (8 * 0):=⟨ae,aF _,λkv hk=>by cases hk⟩;generalize upd H d (.dK [])=H1 at s1 S1;refine⟨_,rfl,R,_,rfl,s1.seq hR,?_⟩
 let G3:zj:=λi σ H6=>∃(kvs:List (aI×V))(y2 y3 y4 y5:Option V),σ=[bz R,bz d,y2,y3,y4,y5]/\aC H H6/\BY H H6 d kvs (8 * i)
 refine jB (xs:=rs.map V.ref) G3 ⟨[],none,none,none,none,rfl,s1,S1⟩ ?_ ?_ ?_
 .rintro i σ H6 _ ⟨kvs,y2,y3,y4,y5,rfl,s6,_⟩;exact s6.seq hR
 .rintro i x σ H6 t ex ⟨kvs,y2,y3,y4,y5,rfl,s6,S6⟩ ht
  ac_nf0
  rw [bo] at ex;obtain⟨r,er,rfl⟩:=cg.mp ex;obtain⟨ru,oi,p,v1,v2⟩:=cR.get er;have nj:=bZ oi;have La:=h8 ru nj;have li:=(bA.mp oi).1;have EN:=af ht (.tup [.int (i:Int),.ref r]);have HI:aW K (upd H6 t (.tup [.int (i:Int),.ref r])) t [.int (i:Int),.ref r]:=aW.of ae;have s7:=s6.trans EN;have S7:=S6.same EN;generalize upd H6 t (.tup [.int (i:Int),.ref r])=H7 at HI s7 S7;refine⟨t,_,rfl,HI,rfl,_,_,rfl,_,_,rfl,rfl,?_⟩;refine⟨_,rfl,r,_,_,_,rfl,rfl,s7.tup v1,rfl,p,_,rfl,s7.tup v2,?_⟩
  let TF:zj:=λj σ H9=>∃(kvs:List (aI×V))(y4 y5:Option V),σ=[bz R,bz d,some (.int (i:Int)),bz r,y4,y5]/\aC H H9/\BY H H9 d kvs (8 * i+j)
  refine nr (xs:=ru.2.map V.str) TF ⟨kvs,_,_,rfl,s7,S7⟩ ?_ ?_ ?_
  .rintro j σ H9 _ ⟨kvs,y4,y5,rfl,s9,_⟩;exact s9.tup v2
  .rintro j x σ H9 t2 Ed ⟨kvs,y4,y5,rfl,s9,S9⟩ g7
   ac_nf0
   rw [bo] at Ed;obtain⟨z,ez,rfl⟩:=cg.mp Ed;have lj:=(bA.mp ez).1;have vF:=af g7 (.tup [.int (j:Int),.str z]);have DK:aW K (upd H9 t2 (.tup [.int (j:Int),.str z])) t2 [.int (j:Int),.str z]:=aW.of ae;have uj:=s9.trans vF;have Ig:=S9.same vF;generalize upd H9 t2 (.tup [.int (j:Int),.str z])=zm at DK uj Ig;refine⟨t2,_,rfl,DK,rfl,_,_,rfl,_,_,rfl,rfl,?_⟩;have lk:=Ig.ln;refine⟨_,rfl,d,rfl,.inl ⟨kvs,.inl Ig.hd⟩,_,rfl,qQ,λl hl=>?_⟩;have Ft:=af hl (.lst []);have E4:upd zm l (.lst []) l=some (.lst []):=ae;have fl:H l=none:=uj.free hl;have B1:=Ig.same Ft;have sA:=uj.trans Ft;generalize upd zm l (.lst [])=BI at Ft E4 B1 sA;have fin:∀(a:Addr)(xs:List V)(ky:List (aI×V))(wU:Hp),wU a=some (.lst xs)->H a=none->xs.length<=8 * i+j->BY H wU d ky (8 * i+j+1)->(∀kv∈ky,∃a xs,kv.2=.ref a/\wU a=some (.lst xs)/\H a=none/\xs.length<=8 * i+j)->aC H wU ->
     ∀t4,wU t4=none->xs.length < sizeLine/\∃(kvs:List (aI×V))(y4 y5:Option V),[some (V.ref R),bz d,some (.int (i:Int)),bz r,some (.int (j:Int)),some (.str z)]=[bz R,bz d,some (.int (i:Int)),bz r,y4,y5]/\aC H (upd (upd wU t4 (.tup [.int (i:Int),.int (j:Int)])) a (.lst (xs++[.ref t4])))/\BY H (upd (upd wU t4 (.tup [.int (i:Int),.int (j:Int)])) a (.lst (xs++[.ref t4]))) d kvs (8 * i+(j+1)) :=
    λa xs ky wU ea fa lx E8 MN Hm t4 A7=>by
     have yd:=af A7 (.tup [.int (i:Int),.int (j:Int)]);refine⟨bF ∅,ky,_,_,rfl,λb o hb=>by rw [ai (λz=>by rw [z,fa] at hb;cases hb)];exact yd _ _ (Hm b o hb),?_⟩;exact(E8.same yd).more (yd _ _ ea) lx λkv hk=>let ⟨b,ys,e1,e2,e3,e4⟩:=MN kv hk;⟨b,ys,e1,yd _ _ e2,e3,e4⟩
   refine⟨kvs,Sum.inr z,B1.hd,rfl,bF ∅,λv hv=>?_,λhn=>?_⟩
   .obtain⟨kv,hk,ek⟩:=Iq hv;obtain⟨a,xs,e1,e2,e3,e4⟩:=B1.lst kv hk;rw [e1] at ek;subst ek;refine⟨.inl ⟨rfl,_,aH.of e2⟩,_,rfl,_,rfl,gE,λt4 A7=>?_⟩;obtain⟨g1,g2⟩:=fin a xs kvs BI e2 e3 e4 ⟨B1.hd,∅,λkv hk=>let ⟨b,ys,e1,e2,e3,e4⟩:=B1.lst kv hk;⟨b,ys,e1,e2,e3,∅⟩⟩ B1.lst sA t4 A7;exact⟨a,_,_,rfl,rfl,af A7 _ _ _ e2,g1,g2⟩
   have nd:d≠l:=λz=>by have:=B1.hd;rw [z,E4] at this;cases this
   have HU:upd BI d (.dK (bj kvs (Sum.inr z) (.ref l))) l=some (.lst []):=by rw [ai nd.symm];exact E4
   have vd:H d=none:=sh;have Hm:aC H (upd BI d (.dK (bj kvs (Sum.inr z) (.ref l)))):=λb o hb=>by rw [ai (λz=>by rw [z,vd] at hb;cases hb)];exact sA b o hb
   have MN:∀kv∈bj kvs (Sum.inr z) (.ref l),∃a xs,kv.2=.ref a/\upd BI d (.dK (bj kvs (Sum.inr z) (.ref l))) a=some (.lst xs)/\H a=none/\xs.length<=8 * i+j:=λkv hk=>by
    rw [vG _ hn] at hk;rcases bN.mp hk with h | h
    .obtain⟨b,ys,e1,e2,e3,e4⟩:=B1.lst kv h;exact⟨b,ys,e1,by rw [ai (λz=>by rw [z,B1.hd] at e2;cases e2)];exact e2,e3,e4⟩
    rw [bx.mp h];exact⟨l,[],rfl,HU,fl,by simp⟩
   have lp:=dS kvs (Sum.inr z:aI) (.ref l);have E8:BY H (upd BI d (.dK (bj kvs (Sum.inr z) (.ref l)))) d (bj kvs (Sum.inr z) (.ref l)) (8 * i+j+1):=⟨ae,∅,λkv hk=>let ⟨b,ys,e1,e2,e3,e4⟩:=MN kv hk;⟨b,ys,e1,e2,e3,∅⟩⟩;generalize upd BI d (.dK (bj kvs (Sum.inr z) (.ref l)))=wU at HU Hm MN E8;refine⟨.inl ⟨rfl,_,aH.of HU⟩,_,rfl,_,rfl,gE,λt4 A7=>?_⟩;obtain⟨g1,g2⟩:=fin l [] _ wU HU fl (by simp) E8 MN Hm t4 A7;exact⟨l,_,_,rfl,rfl,af A7 _ _ _ HU,g1,g2⟩
  rintro σ H9 ⟨kvs,y4,y5,rfl,s9,S9⟩;rw [aB] at S9;refine⟨kvs,_,_,_,_,rfl,s9,S9.hd,by have:=S9.ln;omega,λkv hk=>let ⟨b,ys,e1,e2,e3,e4⟩:=S9.lst kv hk;⟨b,ys,e1,e2,e3,∅⟩⟩
 rintro σ H6 ⟨kvs,y2,y3,y4,y5,rfl,s6,S6⟩;exact⟨_,rfl,q d H6 sh s6⟩
end
end fh
namespace L2
open PySem PySem.W PyProof.Rows
section
variable {n:Nat}{lt:Nat->Nat->Bool}{cmp:Nat->Nat->(Bool->Shared->Prop)->Shared->Prop}{s:Shared}
structure G1 (n:Nat)(lt:Nat->Nat->Bool):Prop where
 trans:∀a b c,a < n->b < n->c < n->lt b a=false->lt c b=false->lt c a=false
 Tj:∀a b,a < n->b < n->lt a b=true->lt b a=false
structure Lo (n:Nat)(p:Array Nat):Prop where
 pm:p.Perm (List.range n).toArray
theorem Lo.size {p:Array Nat}(h:Lo n p):p.size=n:=by
 have:=h.pm.size_eq;simpa using this
def Lo.HF {p:Array Nat}(h:Lo n p){i:Nat}(hi:i < n):p.getD i 0 < n:=by
 have hs:=h.size;have e:p.getD i 0=p[i]'∅:=by simp [Array.getD,hs,hi]
 rw [e];have:p[i]'∅∈(List.range n).toArray:=h.pm.mem_iff.mp (Array.getElem_mem _);simpa using this
abbrev at_ (p:Array Nat) (i:Nat):Nat:=p.getD i 0
def KH (lt:Nat->Nat->Bool)(p:Array Nat) (k:Nat):Prop:=∀i j,i<=j->j < k->lt (at_ p j) (at_ p i)=false
def KO (lt:Nat->Nat->Bool)(p:Array Nat) (k:Nat):Prop:=∀i j,i<=j->j < k->lt (at_ p i) (at_ p j)=false
def G1.UT (o:G1 n lt){a:Nat}(h:a < n):lt a a=false:=by
 cases e:lt a a with
 | false=>rfl
 | true=>rw [<-o.Tj a a h h e,e]
def KH.more {p:Array Nat}{m:Nat}(o:G1 n lt)(P:Lo n p)(h:KH lt p m)(hm:1<=m)(hn:m < n)(c:lt (at_ p m) (at_ p (m - 1))=false):KH lt p (m+1):=by
 intro i j EW hj;by_cases e:j=m
 .subst e;by_cases e2:i=j
  .subst e2;exact o.UT (P.HF hn)
  exact o.trans _ (at_ p (j - 1)) _ (P.HF ∅) (P.HF ∅) (P.HF hn) (h i (j - 1) ∅ ∅) c
 exact h i j EW ∅
def KO.more {p:Array Nat}{m:Nat}(o:G1 n lt)(P:Lo n p)(h:KO lt p m)(hm:1<=m)(hn:m < n)(c:lt (at_ p (m - 1)) (at_ p m)=false):KO lt p (m+1):=by
 intro i j EW hj;by_cases e:j=m
 .subst e;by_cases e2:i=j
  .subst e2;exact o.UT (P.HF hn)
  exact o.trans _ (at_ p (j - 1)) _ (P.HF hn) (P.HF ∅) (P.HF ∅) c (h i (j - 1) ∅ ∅)
 exact h i j EW ∅
end
open PySem PySem.Spec PyProof.Rows
def Inv.MM {X:Cx}{ah:List (Addr×Obj)}{σ:St}{H:Hp}{s:Shared}{h':Heap}{a:Addr}{o:HO}{t':Nat}(I:Inv X ah σ H s)(k:∀b u,b≠X.env.locals->s.heap.get? b=some u->h'.get? b=some u)
  (ns:∀m,s.heap.Ns X.env.locals m->h'.Ns X.env.locals m)(hp:s.heap.get? a=none)(hn:H a=none)(new:bY X.prog X.w (upd H a o) h' a o):Inv X ah σ (upd H a o) { s with heap:=h',toks:=t' }:=by
 have ne:∀b u,s.heap.get? b=some u->b≠a:=λb u q z=>by rw [z,hp] at q;cases q
 refine I.step (g':=s.gens) (d':=s.drawn) (ch:=[]) (λ_ z=>nomatch z) (λb u hb _ _ e _=>k b u hb e) (λb u hb _ _ e _=>⟨u.slots,k b u hb e⟩) (λb u _ e n=>by rw [ai (ne b u e)];exact n)
  (λb u _ e=>?_) (λb xs q=>by rw [ai (ao q hn)];exact q) (λb u xs q=>by rw [ai (ao q hn)];exact q) (λb ps q=>⟨#[],by rw [ai (ao q hn),q];simp⟩) ns (λb u e=>?_) I.bare
 .by_cases hb:b=X.env.locals
  .obtain⟨m,hm,_⟩:=I.loc;obtain⟨o',_,_,Gf,_⟩:=ns m hm;exact⟨o',by rw [hb];exact Gf⟩
  exact⟨u,k b u hb e⟩
 by_cases hb:b=a
 .subst hb;rw [ae] at e;cases e;exact new
 rw [ai hb] at e;refine(I.bQ b u e).g6 (λc v hc q=>k c v ?_ q) (λc q=>by rw [ai (ao q hn)];exact q) λc xs q=>by rw [ai (ao q hn)];exact q
 rintro rfl;rcases hc with rfl | hc
 .rw [I.free] at e;cases e
 rw [I.free] at hc;cases hc
def Dc {P:Program}{w:World}{H:Hp}{h:Heap}{a:Addr}{o:HO}(x:bY P w H h a o):∃u,h.get? a=some u:=by
 cases o with
 | lst xs=>obtain⟨_,_,_,_,e⟩:=x;exact⟨_,e⟩
 | tup xs=>obtain⟨_,_,_,ob,e,_⟩:=x;exact⟨_,e⟩
 | dK kvs=>obtain⟨_,_,_,_,o,_,_,e,_⟩:=x;exact⟨_,e⟩
 | dT kvs=>obtain⟨_,_,_,_,o,_,_,e,_⟩:=x;exact⟨_,e⟩
 | set S n=>obtain⟨o,_,_,_,e,_⟩:=x;exact⟨_,e⟩
 | ins C dx fs=>obtain⟨_,_,_,e,_⟩:=x;exact⟨_,e⟩
 | own y=>obtain⟨_,e⟩:=x;exact⟨_,e⟩
 | xd fs=>obtain⟨_,⟨_,_,_,e,_⟩,_⟩:=x;exact⟨_,e⟩
 | ES lo hi=>obtain⟨_,_,_,e⟩:=x;exact⟨_,e⟩
 | i_ ob u=>obtain⟨e,_⟩:=x;exact⟨_,e⟩
 | qR ps=>exact⟨_,(show h.get? a=some _ from x)⟩
 | met f y=>exact⟨_,(show h.get? a=some _ from x)⟩
 | ext φ=>obtain⟨_,⟨_,e⟩,_⟩:=x;exact⟨_,e⟩
open PySem PySem.Spec PyProof.Rows PySem.W
section
variable {P:Program}{w:World}{A:Around}{E:Value->Shared->Prop}{s:Shared}
def DG {f c' c d:Addr}{q:Str}{params:Arguments}{scope:Scope}{cl:List (Str×Addr)}{pm fg:Value}{p1 p2 p3:Pos}{xs xh:Str}{vs:List (aI×Value)}{z:Str}{t:Tok}{u:Value}{oc:Obj}{Q:Value->Shared->Prop}
  (M_:A.depth < recursionLimit)(nl:s.heap.NoLimit)(hf:s.heap.get? f=some (kla_obj "<lambda>" q params (.Subscript (.Name xs p1) (.Name xh p2) p3) scope cl pm c' fg))(hc:s.heap.CodeRec (.ref c') q)
  (hb:∀us:List Value,us.length=1->bindArgs (kla_fn "<lambda>" q params (.Subscript (.Name xs p1) (.Name xh p2) p3) scope cl pm (.ref c') fg) ⟨us,[]⟩=pure ([xh].zip us))
  (hk:scope.kind=.function)(RW:scope.isCoroutine=false)(JR:scope.isGenerator=false)(RB:∀x∈scope.names,x.2≠.cell)(hh:scope.names.lookup xh=some .local)(hs:scope.names.lookup xs=some .free)
  (mi:cl.lookup xs=some c)(ho:s.heap.get? c=some oc)(xi:oc.data=.cell (some (.ref d)))(dd:s.heap.DictOf (aU P w) d vs)(hv:valueAt vs (Sum.inr z)=some u)
  (d1:(xs == ("__debug__":Str))=false)(d2:(xh == ("__debug__":Str))=false)(d3:(xs == ("__classdict__":Str))=false)
  (h:∀h' tk,(∀b o,s.heap.get? b=some o->h'.get? b=some o)->Q u { s with heap:=h',toks:=tk }):wpAny (model P w) A (call (.ref f) [.str z t]) Q E s:=by
 refine ji (kla_callFunE M_ hf rfl RW JR rfl hc ?_);rw [hb [.str z t] rfl];refine aZ (wpAny_newFunctionEnv RB (λx hx=>?_) (λh₁ r_ U3=>⟨nl.fresh _ U3,?_⟩) hk)
 .have:x=(xh,Value.str z t):=by simpa using hx
  rw [this];exact hh
 show codeAny _ _ (.expr (.Subscript (.Name xs p1) (.Name xh p2) p3) (envX q scope s.heap.objs.size f (.ref c') cl)) _ _;have k1:∀b o,s.heap.get? b=some o->h₁.get? b=some o:=λb o e=>U3.extBut b o (bM (ba e)) (bS _ e);refine kla_codeExpr (zA PySem.F.slot_dict_getitem.lookup (λ_ _=>rfl) ?_);refine wpAny_Name (wpAny_loadName_free hk hs mi ⟨oc,k1 _ _ ho,xi⟩ ?_ d3) d1;refine wpAny_Name (sU hk hh r_ (show ([(xh,Value.str z t)]:List (Str×Value)).reverse.lookup xh=some (.str z t) by simp [List.lookup]) ?_) d2;have Wa:h₁.DictOf (aU P w) d vs:=by
  obtain⟨o,es,ep,g,r⟩:=dd;exact⟨o,es,ep,k1 _ _ g,r⟩
 refine⟨Wa.typeIs,wpAny_getItem_of (jX (k:=Sum.inr z) ⟨t,rfl⟩) Wa.mapOf hv ?_⟩;exact h h₁ _ k1
end
section
variable {X:Cx}{params:Arguments}{body:Expr}{scope:Scope}{pos:Pos}{c T:Addr}
abbrev hV (X:Cx)(params:Arguments)(body:Expr)(scope:Scope)(cl:List (Str×Addr))(c':Addr)(fg:Value):Obj:=kla_obj "<lambda>" (X.env.qual ++ "<lambda>") params body scope cl ((X.mg "__name__").getD .none) c' fg
def LK (X:Cx)(params:Arguments)(body:Expr)(scope:Scope)(pos:Pos)(T:Addr):TE:=λσ H Q=>Tab T pos (X.env.qual ++ "<lambda>") H /\
 ∀f c' fg cl H',G6 X.env scope cl->eQ T H H'->Tab T pos (X.env.qual ++ "<lambda>") H'->H f=none->H' f=some (mX f (hV X params body scope cl c' fg))->H' c'=some (i7 c' (X.env.qual ++ "<lambda>"))->Q (.ref f) H'
def FO (qh:X.env.code=.ref c)(hC:codeHdIn X.K c T=true)(hB:qP X.mg X.base)(lU:∀y,(y,NameKind.free)∈scope.names->X.env.scope.names.lookup y=some .cell)(DS:defaultsOf params X.env=([],[]):=by rfl):PE X (.Lambda params body scope pos) (LK X params body scope pos T):=by
 intro ah s σ H Q I h;obtain⟨⟨ps,hT,ht,DT⟩,q⟩:=h;refine kla_eval DS ?_;obtain⟨cl,mi⟩:=uT (env:=X.env) (scope:=scope) λy hy=>I.ok.has y (.inl (lU y hy));have J0:s.heap.get? T=some (tabObj ps):=(show bY X.prog X.w H s.heap T (.qR ps) from I.bQ T _ hT);have hg:=I.mod.glob.keeps I.bk;have C:=codeHd_of_K I.xb hC;obtain⟨bm,ob,b1,b2,b3,b4,b5,b6,b7⟩:=hB;have Tf:=I.bk _ _ b4;have QF:bm≠T:=λz=>by
  have:=(I.bs _ _ b4).2;rw [z,hT] at this;cases this
 have QB:mainGlobals≠T:=λz=>by
  obtain⟨o,es,ep,e,d,_⟩:=hg;rw [z,J0] at e;cases e;cases d
 have NB:s.heap.BuiltinsAt X.mg T:=⟨bm,ob,b1,b2,b3,QF,Tf,b5,b6,b7⟩;have EL:∀b v,H b=some v->b < s.heap.objs.size:=λb v e=>I.bQ.lt e;rcases DT with Ni | ⟨c',hf,i9⟩
 .refine kla_makeFunction mi.eq I.ok.glob hg qh C J0 ht Ni QB NB λc' fg h' tk hx JS gZ DL M3=>?_;have Zz:∃oc,h'.get? c'=some oc:=by
   obtain⟨c2,oc,vs,t,e,xi,_⟩:=DL;cases e;exact⟨oc,xi⟩
  have qg:h'.objs.size > s.heap.objs.size:=nW JS gZ;have keep:∀b o,b≠T->s.heap.get? b=some o->(h'.push (hV X params body scope cl c' fg)).get? b=some o:=λb o n e=>bS _ (hx b o n e)
  let H':Hp:=upd (upd (upd H T (.qR (ps++#[rawInt pos.line,rawInt pos.col,.ref c']))) c' (i7 c' (X.env.qual ++ "<lambda>"))) h'.objs.size (mX h'.objs.size (hV X params body scope cl c' fg))
  have yA:∀b v,H b=some v->b≠c'/\b≠h'.objs.size:=λb v e=>⟨bM (eW (EL b v e) JS),bM (j8 (EL b v e) qg)⟩;have QE:c'≠h'.objs.size:=bM gZ;have Mx:=yA T _ hT;have eT:H' T=some (.qR (ps++#[rawInt pos.line,rawInt pos.col,.ref c'])):=by
   show upd (upd (upd H T _) c' _) h'.objs.size _ T=_;rw [ai Mx.2,ai Mx.1,ae]
  have ec:H' c'=some (i7 c' (X.env.qual ++ "<lambda>")):=by
   show upd (upd (upd H T _) c' _) h'.objs.size _ c'=_;rw [ai QE,ae]
  have ef:H' h'.objs.size=some (mX h'.objs.size (hV X params body scope cl c' fg)):=ae;have eo:∀b,b≠T->b≠c'->b≠h'.objs.size->H' b=H b:=λb n1 n2 n3=>by
   show upd (upd (upd H T _) c' _) h'.objs.size _ b=_;rw [ai n3,ai n2,ai n1]
  have sT:eQ T H H':=λb o n e=>by rw [eo b n (yA b o e).1 (yA b o e).2];exact e
  have I2:Inv X ah σ H' { s with heap:=h'.push (hV X params body scope cl c' fg),toks:=tk }:=by
   refine I.call (g':=s.gens) (t':=tk) (d':=s.drawn) (ch:=[]) ⟨λb o e n _ _=>keep b o (λz=>by rw [z,hT] at n;cases n) e,λb o e n _ _=>⟨o.slots,keep b o (λz=>by rw [z,hT] at n;cases n) e⟩,λb o e n _=>?_,λb o e _=>?_,λb xs e=>?_,λb o u e=>?_,λb Ql e=>?_⟩ (λb v e=>?_) I.bare (λb hb=>nomatch hb)
   .have lb:=ba e;rw [eo b (λz=>by rw [z,hT] at n;cases n) (bM (eW lb JS)) (bM (j8 lb qg))];exact n
   .by_cases z:b=T
    .exact⟨_,by rw [z];exact bS _ M3⟩
    exact⟨o,keep b o z e⟩
   .exact sT b _ (λz=>by rw [z,hT] at e;cases e) e
   .exact sT b _ (λz=>by rw [z,hT] at e;cases e) e
   .by_cases z:b=T
    .subst z;rw [hT] at e;cases e;exact⟨_,eT⟩
    exact⟨#[],by rw [Array.append_empty];exact sT b _ z e⟩
   by_cases z1:b=h'.objs.size
   .subst z1;rw [ef] at e;cases e;exact oJ (cV _ rfl)
   by_cases z2:b=c'
   .subst z2;rw [ec] at e;cases e;refine wJ ?_;obtain⟨c2,oc,vs,t,e',xi,hd,hv⟩:=DL;cases e';exact⟨_,oc,vs,t,rfl,bS _ xi,hd,hv⟩
   by_cases z3:b=T
   .subst z3;rw [eT] at e;cases e;exact bS _ M3
   rw [eo b z3 z2 z1] at e;refine(I.bQ b v e).g6 (λd o A_ e'=>?_) (λd e'=>sT d _ (λz=>by rw [z,hT] at e';cases e') e') λd ys e'=>sT d _ (λz=>by rw [z,hT] at e';cases e') e';rcases A_ with rfl | A_
   .exact keep d o z3 e'
   exact keep d o (λz=>by rw [z,hT] at A_;cases A_) e'
  have fresh:H h'.objs.size=none:=I.bQ.fresh (jk qg);exact⟨.ref h'.objs.size,H',I2,rfl,q _ c' fg cl H' mi sT ⟨_,eT,by rw [pq];exact iN _ ht,.inr ⟨c',by rw [pq];exact codeAmong_snoc _ ht Ni,ec⟩⟩ fresh ef ec⟩
 refine kla_makeFunctionHit mi.eq I.ok.glob hg qh C J0 ht hf NB λfg h' tk hk hsz=>?_;have keep:∀b o,s.heap.get? b=some o->(h'.push (hV X params body scope cl c' fg)).get? b=some o:=λb o e=>bS _ (hk b o e);have fresh:H h'.objs.size=none:=I.bQ.fresh hsz;refine⟨.ref h'.objs.size,_,I.laid (a:=h'.objs.size) (o:=mX h'.objs.size (hV X params body scope cl c' fg)) (t':=tk) keep hsz (oJ (cV _ rfl)),rfl,?_⟩;refine q _ c' fg cl _ mi (λb o _ e=>by rw [ai (ao e fresh)];exact e) ⟨ps,by rw [ai (ao hT fresh)];exact hT,ht,.inr ⟨c',hf,by rw [ai (ao i9 fresh)];exact i9⟩⟩ fresh ae (by rw [ai (ao i9 fresh)];exact i9)
end
theorem zB:∀{zs:List Str}{aL:List Value},aT (zs.map V.str) aL->∀(i:Nat)(v:Value),aL[i]?=some v->∃z t,zs[i]?=some z/\v=.str z t
 | [],[],_,i,v,h=>by simp at h
 | z::r,u::aL,h,i,v,hi=>by
  cases h with
  | cons a b =>
   cases i with
   | zero =>
    cases hi;obtain⟨t,e⟩:=(show ∃t,u=Value.str z t from a);exact⟨z,t,rfl,e⟩
   | succ i=>exact zB b i v hi
theorem rD:∀(ps:List (Str×Tok)),aT ((ps.map (·.1)).map V.str) (ps.map λp=>Value.str p.1 p.2)
 | []=>.nil
 | p::r=>.cons ⟨p.2,rfl⟩ (rD r)
theorem rE:∀{zs:List Str}{aL:List Value},aT (zs.map V.str) aL->∃ps:List (Str×Tok),ps.map (·.1)=zs/\aL=ps.map λp=>Value.str p.1 p.2
 | [],[],_=>⟨[],rfl,rfl⟩
 | z::r,u::aL,h=>by
  cases h with
  | cons a b =>
   obtain⟨t,e⟩:=(show ∃t,u=Value.str z t from a);obtain⟨ps,e1,e2⟩:=rE b;exact⟨(z,t)::ps,by rw [bu,e1],by rw [bu,e2,e]⟩
def yj {α β:Type}{f:α->β}{l m:List β}(h:l.Perm m):∀ps:List α,m=ps.map f->∃qs:List α,l=qs.map f/\qs.Perm ps:=by
 induction h with
 | nil =>
  intro ps e;cases ps with
  | nil=>exact⟨[],rfl,.nil⟩
  | cons p r=>cases e
 | cons x h ih =>
  intro ps e;cases ps with
  | nil=>cases e
  | cons p r =>
   rw [bu] at e;injection e with e1 e2;obtain⟨qs,a,b⟩:=ih r e2;exact⟨p::qs,by rw [bu,a,e1],b.cons p⟩
 | swap x y l =>
  intro ps e
  match ps,e with
  | [],e=>cases e
  | [_],e=>cases e
  | p::p2::r,e =>
   rw [bu,bu] at e;injection e with e1 e2;injection e2 with e3 e4;exact⟨p2::p::r,by rw [bu,bu,e1,e3,e4],.swap p p2 r⟩
 | trans h1 h2 i1 i2 =>
  intro ps e;obtain⟨qs,a,b⟩:=i2 ps e;obtain⟨rs,c,d⟩:=i1 qs a;exact⟨rs,c,d.trans b⟩
def C6 {g:Str->Int}{ps:List (Str×Tok)}{out:List Value}(h:KskOut false ((ps.map (·.1)).map g) (ps.map λp=>Value.str p.1 p.2) out) :
  ∃qs:List (Str×Tok),out=qs.map (λp=>Value.str p.1 p.2)/\(qs.map (·.1)).Perm (ps.map (·.1))/\(qs.map (·.1)).Pairwise λx y=>g x<=g y:=by
 obtain⟨rs,h1,h2,h3⟩:=h;have ez:((ps.map (·.1)).map g).zip (ps.map λp=>Value.str p.1 p.2)=ps.map λp=>(g p.1,Value.str p.1 p.2):=by
  rw [g8,List.zip_map,List.zip_eq_zipWith]
  induction ps with
  | nil=>rfl
  | cons p r ih=>simp_all
 rw [ez] at h1;obtain⟨qs,q1,q2⟩:∃qs:List (Str×Tok),rs=qs.map (λp=>(g p.1,Value.str p.1 p.2))/\qs.Perm ps:=by
  exact yj h1 ps rfl
 subst q1;refine⟨qs,by rw [h2,g8];rfl,q2.map _,?_⟩;rw [List.pairwise_map] at h3 ⊢;exact h3.imp λh=>by simpa using h
section
variable {X:Cx}{i:Nat}{xs xh:Str}{params:Arguments}{scope:Scope}{p pos yB kp p1 p2 p3:Pos}{e:Expr}{ta:TA}{c T:Addr}{k:Nat}
abbrev Af (xs xh:Str)(p1 p2 p3:Pos):Expr:=.Subscript (.Name xs p1) (.Name xh p2) p3
def Iy (X:Cx) (i:Nat)(yB:Pos)(T:Addr)(ta:TA):TE:=λσ H Q=>ta σ H λvs H1=>Tab T yB (X.env.qual ++ "<lambda>") H1/\∃(a:Addr) (zs:List Str)(d:Addr)(kvs:List (aI×V))(g:Str->Int),vs=[.ref a]/\aH X.K H1 a (zs.map V.str)/\zs.length < 64/\σ[i]?=some (some (.ref d))/\Rd H1 d (.dK kvs) /\
 (∀z∈zs,aY kvs (Sum.inr z)=some (.int (g z)))/\∀(l:Addr) (Il:List Str)(H':Hp),eQ T H1 H'->Tab T yB (X.env.qual ++ "<lambda>") H'->H1 l=none->Il.Perm zs->Il.Pairwise (λx y=>g x<=g y)->H' l=some (.lst (Il.map V.str))->Q (.ref l) H'
def C0 (hr:dX (k+1) X.A)(qh:X.env.code=.ref c)(hC:codeHdIn X.K c T=true)(hB:qP X.mg X.base)(hg:Gl X "sorted")(hm:X.mg "sorted"=none)(ha:PA X [e] ta)
  (hN:X.N[i]?=some xs)(hx:X.env.scope.names.lookup xs=some .cell)(lU:∀y,(y,NameKind.free)∈scope.names->X.env.scope.names.lookup y=some .cell)
  (hb:∀(q:Str)(cl:List (Str×Addr))(pm fg:Value)(c':Addr)(us:List Value),us.length=1->bindArgs (kla_fn "<lambda>" q params (Af xs xh p1 p2 p3) scope cl pm (.ref c') fg) ⟨us,[]⟩=pure ([xh].zip us))
  (hk:scope.kind=.function)(RW:scope.isCoroutine=false)(JR:scope.isGenerator=false)(RB:∀x∈scope.names,x.2≠.cell)(hh:scope.names.lookup xh=some .local)(hs:scope.names.lookup xs=some .free)
  (d1:(xs == ("__debug__":Str))=false:=by decide)(d2:(xh == ("__debug__":Str))=false:=by decide)(d3:(xs == ("__classdict__":Str))=false:=by decide)
  (DS:defaultsOf params X.env=([],[]):=by rfl)
  (he:backTo pos (starEach [e] X.env)=(false,eval e X.env)::backTo pos (starEach [] X.env):=by rfl)(hp:(backTo pos (starEach [e] X.env)).any (·.1)=false:=by rfl) :
  PE X (.Call (.Name "sorted" p) [e] [⟨some "key",.Lambda params (Af xs xh p1 p2 p3) scope yB,kp⟩] pos) (Iy X i yB T ta):=by
 intro ah s σ H Q I h;refine nV (ig I hg hm boot_sorted ?_);refine callWith_kw (cD (ha pos ah s σ H _ I h) λus s1 a8=>?_) he hp rfl rfl;obtain⟨vs,H1,I1,r1,Gn,a,zs,d,kvs,g,ev,hq,OZ,hσ,hd,hv,q1⟩:=a8;subst ev;have low:=FO (X:=X) (params:=params) (body:=Af xs xh p1 p2 p3) (scope:=scope) (pos:=yB) (c:=c) (T:=T) qh hC hB lU DS ah s1 σ H1
  (λfv H2=>∃f c' fg cl,fv=.ref f/\G6 X.env scope cl/\eQ T H1 H2/\Tab T yB (X.env.qual ++ "<lambda>") H2/\H2 f=some (mX f (hV X params (Af xs xh p1 p2 p3) scope cl c' fg))/\H2 c'=some (i7 c' (X.env.qual ++ "<lambda>"))) I1
  ⟨Gn,λf c' fg cl H' a1 a2 a3 a4 a5 a6=>⟨f,c',fg,cl,rfl,a1,a2,a3,a5,a6⟩⟩
 refine kws_cons (cD low λu2 s2 a8=>?_);obtain⟨fv,H2,I2,r2,f,c',fg,cl,ef,mi,st,OW,hf,i9⟩:=a8;refine kws_nil ?_;subst ef;cases (show u2=Value.ref f from r2);obtain⟨u,rfl,rx⟩:=vals1 r1;cases (show u=Value.ref a from rx);obtain⟨pt,eT,_⟩:=id Gn;have Rt:aH X.K H2 a (zs.map V.str):=by
  rcases hq with (h | ⟨o,h⟩) | h
  .exact .inl (.inl (st _ _ (λz=>by rw [z,eT] at h;cases h) h))
  .exact .inl (.inr ⟨o,st _ _ (λz=>by rw [z,eT] at h;cases h) h⟩)
  exact .inr h
 have hd2:Rd H2 d (.dK kvs):=by
  rcases hd with h | ⟨o,h⟩
  .exact .inl (st _ _ (λz=>by rw [z,eT] at h;cases h) h)
  exact .inr ⟨o,st _ _ (λz=>by rw [z,eT] at h;cases h) h⟩
 obtain⟨aL,rv,pl,hz⟩:=I2.list Rt;obtain⟨pzs,ez,ei⟩:=rE rv;have zU:=pl.isList;obtain⟨oa,ga,ca,na,da⟩:=id zU;obtain⟨m,r_,lk⟩:=id I2.loc;have F3:∀b o,H2 b=some o->b≠X.env.locals:=λb o hb z=>by rw [z,I2.free] at hb;cases hb
 have Mo:d≠X.env.locals:=by
  rcases hd2 with h | ⟨o,h⟩
  .exact F3 d _ h
  exact F3 d _ h
 have XE:a≠X.env.locals:=λz=>by
  obtain⟨o,es,ep,ho,uO,_⟩:=r_;rw [<-z,ga] at ho;cases ho;rw [da] at uO;cases uO
 obtain⟨ud,rd,Yl⟩:=lk i xs (.ref d) hN hσ (.inr (.inl hx));cases (show ud=Value.ref d from rd);obtain⟨cc,ecc,oc,Ng,Nf⟩:∃cc,X.env.cells.lookup xs=some cc/\s2.heap.IsCell cc (some (.ref d)):=by
  rcases Yl with ⟨l,_⟩ | ⟨_,c2,e2,h2⟩
  .have l':X.env.scope.names.lookup xs=some .local:=l;rw [hx] at l';cases l'
  exact⟨c2,e2,h2⟩
 obtain⟨cc',VX⟩:=mi.all xs (uF hs);have e3:=mi.sub _ _ VX;rw [ecc] at e3;cases e3;have K0:cc≠X.env.locals:=λz=>by
  obtain⟨o,es,ep,ho,uO,_⟩:=r_;rw [<-z,Ng] at ho;cases ho;rw [Nf] at uO;cases uO
 obtain⟨gf,_⟩:=I2.bQ f _ hf;obtain⟨gc,_⟩:=I2.bQ c' _ i9;obtain⟨zl,U2,qS,rel,dd⟩:=l7 I2.bQ hd2;obtain⟨m0,F0⟩:=I2.fr;refine ksk_sorted (kz:=zs.map g) (f:=.ref f) (b:=false) (vs:=aL) (h₀:=Fb.pZ s2.heap) (L:=X.env.locals) (m:=m) (news:=(a,oa)::Fb.ledger s2.heap X.env.locals a) (Fb.Kc r_) (Fb.vR XE ga) zU (by rw [aB,<-rv.length,aB]) (by rw [<-rv.length,aB];exact OZ)
  (ksk_s1 _ _) (λx=>ksk_l1 _ _) (λx=>ksk_t1 f x) (λj v kk hj Vh ng tk own F N=>?_) λD h' tk out cnt F' N' lt' ko=>?_
 .obtain⟨z,t,O4,rfl⟩:=zB rv j v hj;rw [bo,O4] at Vh;cases Vh;have keep:∀b u,b≠X.env.locals->s2.heap.get? b=some u->ng.get? b=some u:=λb u nb hb=>by
   by_cases e:b=a
   .subst e;rw [ga] at hb;cases hb;exact(N (b,oa) (by simp)).1
   exact(N (b,u) (jh _ (bC _ (Fb.iU.mpr ⟨nb,e,hb⟩)))).1
  have YF:=hv z (bZ O4);obtain⟨w',hw,ye⟩:=iY.some_of (v:=.int (g z)) (o:=valueAt qS (Sum.inr z)) (by rw [<-YF];exact rel.val (Sum.inr z));obtain⟨tw,rfl⟩:=(show ∃t,w'=Value.int (g z) t from ye);have dd2:ng.DictOf (aU X.prog X.w) d qS:=by
   obtain⟨o,es,ep,g1,r⟩:=dd;exact⟨o,es,ep,keep _ _ Mo g1,r⟩
  have gc2:ng.CodeRec (.ref c') (X.env.qual ++ "<lambda>"):=by
   obtain⟨c2,Xq,TU,t2,e2,xi,gO,K4⟩:=gc;cases e2;exact⟨_,Xq,TU,t2,rfl,keep _ _ (F3 c' _ i9) xi,gO,K4⟩
  have nl:ng.NoLimit:=I2.mod.nolimit.keeps λb o e=>keep b o (bM (eW (ba e) F0.above)) (I2.bk b o e);exact DG (s:={ s2 with heap:=ng,toks:=tk }) (A:=X.A.in1.in1) hr.depth nl (keep _ _ (F3 f _ hf) gf) gc2 (λus hl=>hb _ _ _ _ _ us hl) hk RW JR RB hh hs VX (keep _ _ K0 Ng) Nf dd2 hw d1 d2 d3
   λh3 tk3 UR=>KskEnd.intro (F.kept UR) (N.grown UR) λp hp=>hp
 have keep:∀b u,b≠X.env.locals->s2.heap.get? b=some u->h'.get? b=some u:=λb u nb hb=>by
  by_cases e:b=a
  .subst e;rw [ga] at hb;cases hb;exact(N' (b,oa) (by simp)).1
  exact(N' (b,u) (bC _ (bC _ (Fb.iU.mpr ⟨nb,e,hb⟩)))).1
 have hD:s2.heap.get? D=none:=by
  cases e:s2.heap.get? D with
  | none=>rfl
  | some o =>
   exfalso;have nD:D≠X.env.locals:=(N' (D,_) bp).2.1;by_cases ea:D=a
   .have:=lt' (a,oa) bp;rw [ea] at this;exact absurd this (jl _)
   exact absurd (lt' (D,o) (bC _ (Fb.iU.mpr ⟨nD,ea,e⟩))) (jl _)
 have fD:H2 D=none:=by
  cases e:H2 D with
  | none=>rfl
  | some u =>
   obtain⟨ob,g⟩:=Dc (I2.bQ D u e);rw [hD] at g;cases g
 have fD1:H1 D=none:=by
  cases e:H1 D with
  | none=>rfl
  | some u =>
   by_cases z:D=T
   .obtain⟨pt2,eT2,_⟩:=OW;rw [z,eT2] at fD;cases fD
   rw [st _ _ z e] at fD;cases fD
 rw [ei,<-ez] at ko;obtain⟨qs,eo,pe,ps⟩:=C6 ko;rw [ez] at pe;have gD:=(N' (D,_) bp).1;have lq:qs.length=zs.length:=by have:=pe.length_eq;rw [aB] at this;exact this
 have sl:=af fD (.lst ((qs.map (·.1)).map V.str));refine⟨.ref D,_,I2.MM (t':=tk) keep (λm' hm=>?_) hD fD (show bY X.prog X.w _ _ _ (.lst ((qs.map (·.1)).map V.str)) from ⟨by rw [aB,aB];exact fits ∅,qs.map (λp=>Value.str p.1 p.2),cnt,rD qs,by rw [<-eo];simpa using gD⟩),rfl,q1 D (qs.map (·.1)) _ (λb o n hb=>sl _ _ (st b o n hb)) ?_ fD1 pe ps ae⟩
 .have:=F'.ns;have e:m'=m:=by
   obtain⟨o,es,ep,ho,uO,_,hf⟩:=hm;obtain⟨o2,Gu,ep2,Vb,Nu,_,Np⟩:=r_;rw [ho] at Vb;cases Vb;rw [uO] at Nu;cases Nu
   funext x
   rw [<-hf x,<-Np x]
  rw [e];exact this
 obtain⟨OG,b1,b2,b3⟩:=OW;refine⟨OG,sl _ _ b1,b2,b3.imp id λa8=>?_⟩;obtain⟨c3,e3,g3⟩:=a8;exact⟨c3,e3,sl _ _ g3⟩
end
open PySem M11
def yY {K:aV}{H:Hp}{p D d:Addr}{zs:List Str}{kvs:List (aI×V)}{g:G}{σ:St}{js:List (Nat×Str)}{Qp:Hp->Prop}(hσ:dO ["part"] js σ=[none,bz d])(hp:aW K H p (zs.map V.str))(hz:zs.length<=1000)
  (hd:Rd H d (.dK kvs))(hv:∀z,aY kvs (Sum.inr z)=(g z).map V.int)(ha:∀z∈zs,(g z).isSome=true)(hD:H D=none)(q:∀H2,aC H H2->H2 D=some (.lst ((zs.map λz=>(g z).getD 0).map V.int))->Qp H2) :
  ∃W:Nat->Nat->List V->St->Hp->Prop,(∃m,W 0 m [] (dO ["part"] js σ) (upd H D (.lst []))) /\
 ∀i m ys σ' H,W i m ys σ' H->((qN K p).stop i H/\Qp H)\/((qN K p).go i H/\∃m',m' < m/\∀x H',(qN K p).mh i H x H'->dM 0 x σ' H' λσ2 H2=>ix σ2 H2 λb H3 =>
  if b=true then zx (fR 1) (fR 0) σ2 H3 λy H4=>H4 D=some (.lst ys)/\ys.length < sizeLine/\W (i+1) m' (ys++[y]) σ2 (upd H4 D (.lst (ys++[y]))) else W (i+1) m' ys σ2 H3):=by
 refine iG (xs:=zs.map V.str) (λi ys σ2 H2=>ys=(((zs.take i).map λz=>(g z).getD 0).map V.int)/\(∃y0,σ2=[y0,bz d])/\aC H H2/\H2 D=some (.lst ys))
  ⟨rfl,⟨none,hσ⟩,af hD _,ae⟩ (λi ys σ2 H2 _ h=>h.2.2.1.tup hp) (λi x ys σ2 H2 ex h=>?_) (λys σ2 H2 h=>?_)
 .obtain⟨rfl,⟨y0,rfl⟩,sm,hd2⟩:=h;rw [bo] at ex;obtain⟨z,ez,rfl⟩:=cg.mp ex;have li:=(bA.mp ez).1;obtain⟨n,en⟩:=kS.mp (ha z (bZ ez));have hg:bX H2 d (.str z) (some (.int n)):=by
   have:=bX.r (k:=Sum.inr z) (fh.Rd.same hd sm);rw [hv,en] at this;exact this
  refine goN (vb ?_);refine⟨_,rfl,_,rfl,d,_,rfl,hg,hd2,bF (by rw [aB,aB,eV];omega),?_,⟨_,rfl⟩,?_,ae⟩
  .rw [cP,ez,bw,bw];show _=_++[V.int ((g z).getD 0)];rw [en];rfl
  intro b o hb;rw [ai (λz=>by rw [z,hD] at hb;cases hb)];exact sm b o hb
 obtain⟨rfl,_,sm,hd2⟩:=h;rw [aB,cU] at hd2;exact q H2 sm hd2
end L2
namespace fh
open PySem L2 M11
section
def pK (K:aV):Sp:=λvs H Q _=>∃(d r:Addr)(kvs:List (aI×V))(g:G)(ru:au),vs=[.ref d,.ref r]/\Rd H d (.dK kvs)/\(∀z,aY kvs (Sum.inr z)=(g z).map V.int)/\j4 K H r ru/\ru.2.length<=8/\(∀z∈ru.2,(g z).isSome=true)/\∀H',aC H H'->Q (.int (aM g ru)) H'
def xQ:aK ["sizes","rule"] ["sizes","rule"] (az mQ):=iL rfl rfl rfl rfl nofun
def vN (F:hZ K "rule_size" "rule_size" mQ f fd)(T:Txt mg):bI P w K mg base e_ 1 f fd ["sizes","rule"] (pK K):=by
 refine F.ok xQ (λvs H Q E h=>?_) (λdN A outer s H vs Q E hr h=>?_)
 .obtain⟨d,r,kvs,g,ru,rfl,_⟩:=h;rfl
 obtain⟨d,r,kvs,g,ru,rfl,hd,hv,⟨p,v1,v2⟩,h8,al,q⟩:=h;have hu:=gu hr;refine⟨_,aq (a_ (bh dH ar (bR (sr rfl) rfl T.sum PyProof.Rows.boot_sum (ab (bG ["part"] [(0,"sizes")] rfl (gX (aO cH (pv 1) ar (λ_ _=>rfl))) (br rfl rfl) nofun rfl nofun
   (λ_ _ _ _ _=>ay (i:=0) (show (["part","sizes"]:List Str).Nodup by decide +kernel) rfl (bJ rfl)) (λ_ _ _ _ _=>b_) (λ_ _ _ _ _=>d5 hu (pv 1) (pv 0) (λ_ _=>rfl))) aj)))),?_⟩
 dsimp only [qx];refine⟨_,rfl,r,_,_,_,rfl,rfl,v1,rfl,p,rfl,⟨_,v2⟩,λD hD=>yY (g:=g) rfl v2 ∅ hd hv al hD λH2 s2 e2=>?_⟩;refine⟨D,_,rfl,aH.of e2,_,_,rfl,rfl,?_⟩;exact q H2 s2
end
end fh
namespace M11
open PySem
def u4.at_ {aa:List au}{aX:List (Str×Nat)}(h:u4 aa aX):∀(i:Nat)(x:Str) (k:Nat),aX[i]?=some (x,k)->∃gG,aa[k]?=some (x,gG)/\∀p∈gG,p∈(aX.take i).map (·.1):=by
 induction h with
 | nil=>intro i x k e;simp at e
 | @snoc aX k2 ru h e n p ih =>
  intro i x k ei;by_cases hi:i < aX.length
  .rw [oV hi] at ei;obtain⟨gG,a,b⟩:=ih i x k ei;exact⟨gG,a,λq hq=>by rw [xA (jk hi)];exact b q hq⟩
  have li:=(bA.mp ei).1;rw [cu,pA] at li;have e2:i=aX.length:=by omega
  subst e2;rw [oW (aF _),Nat.sub_self] at ei;cases ei;exact⟨ru.2,e,λq hq=>by rw [List.take_left'];exact p q hq;rfl⟩
end M11
namespace fh
open PySem L2 M11
section
def qz {H:Hp}{p D d:Addr}{zs:List Str}{kvs:List (aI×V)}{σ:St}{js:List (Nat×Str)}{Qp:Hp->Prop}(hσ:dO ["part"] js σ=[none,bz d])(hp:aW K H p (zs.map V.str))(hz:zs.length<=1000)
  (hd:H d=some (.dK kvs))(ha:∀z∈zs,(Sum.inr z:aI)∈kvs.map (·.1))(hD:H D=none)(q:∀ys H2,ys.length=zs.length->aC H H2->H2 D=some (.lst ys)->Qp H2) :
  ∃W:Nat->Nat->List V->St->Hp->Prop,(∃m,W 0 m [] (dO ["part"] js σ) (upd H D (.lst []))) /\
 ∀i m ys σ' H,W i m ys σ' H->((qN K p).stop i H/\Qp H)\/((qN K p).go i H/\∃m',m' < m/\∀x H',(qN K p).mh i H x H'->dM 0 x σ' H' λσ2 H2=>ix σ2 H2 λb H3 =>
  if b=true then zx (fR 1) (fR 0) σ2 H3 λy H4=>H4 D=some (.lst ys)/\ys.length < sizeLine/\W (i+1) m' (ys++[y]) σ2 (upd H4 D (.lst (ys++[y]))) else W (i+1) m' ys σ2 H3):=by
 refine iG (xs:=zs.map V.str) (λi ys σ2 H2=>ys.length=i/\(∃y0,σ2=[y0,bz d])/\aC H H2/\H2 D=some (.lst ys))
  ⟨rfl,⟨none,hσ⟩,af hD _,ae⟩ (λi ys σ2 H2 _ h=>h.2.2.1.tup hp) (λi x ys σ2 H2 ex h=>?_) (λys σ2 H2 h=>?_)
 .obtain⟨rfl,⟨y0,rfl⟩,sm,hd2⟩:=h;rw [bo] at ex;obtain⟨z,ez,rfl⟩:=cg.mp ex;have li:=(bA.mp ez).1;obtain⟨v,ev⟩:=kS.mp ((dB kvs (Sum.inr z)).mpr (ha z (bZ ez)));have hg:bX H2 d (.str z) (some v):=by
   have:=bX.k (k:=Sum.inr z) (sm _ _ hd);rw [ev] at this;exact this
  refine goN (vb ?_);refine⟨_,rfl,_,rfl,d,_,rfl,hg,hd2,bF ∅,by rw [cu];rfl,⟨_,rfl⟩,?_,ae⟩;intro b o hb;rw [ai (λz=>by rw [z,hD] at hb;cases hb)];exact sm b o hb
 obtain⟨e,_,sm,hd2⟩:=h;rw [aB] at e;exact q ys H2 e sm hd2
def rJ (K:aV):Sp:=λvs H Q _=>∃(R D:Addr)(rs ts:List Addr)(aa:List au)(aX:List (Str×Nat)),vs=[.ref R,.ref D]/\aH K H R (rs.map V.ref)/\aR K H rs aa/\aa.length<=1000/\(∀ru∈aa,ru.2.length<=8)/\aH K H D (ts.map V.ref)/\nN K H ts aX/\u4 aa aX/\aX.length<=1000 /\
 ∀(d:Addr)(kvs:List (aI×V))(H':Hp),H d=none->aC H H'->H' d=some (.dK kvs)->kvs.map (·.1)=(aX.map (·.1)).map Sum.inr->Q (.ref d) H'
def jI:aK ["rules","empties","trees","name","number"] ["rules","empties"] (az pS):=iL rfl rfl rfl rfl nofun
def yr (F:hZ K "empty_by_name" "empty_by_name" pS f fd)(T:Txt mg):bI P w K mg base e_ 1 f fd ["rules","empties"] (rJ K):=by
 refine F.ok jI (λvs H Q E h=>?_) (λdN A outer s H vs Q E hr h=>?_)
 .obtain⟨R,D,rs,ts,aa,aX,rfl,_⟩:=h;rfl
 obtain⟨R,D,rs,ts,aa,aX,rfl,hR,cR,bc,h8,hD,JU,Nq,Vn,q⟩:=h;have hu:=gu hr;refine⟨_,ak (aG (i:=2) jI.nd rfl (Or.inr rfl) fI)
  (ak (b8 cx rfl (bq (pv 1)) (iS (n:=2) K rfl (aD (ay (i:=3) jI.nd rfl (bJ rfl)) (aD (ay (i:=4) jI.nd rfl (bJ rfl)) cb)))
   (aq (gJ hu (pv 2) (pv 3) (aP (ab (pv 4) (ab (a7 eM rfl T.tup vj (ab (bG ["part"] [(2,"trees")] rfl (gX (aO cH (aO aS (pv 0) (pv 4) (λ_ _=>rfl)) ar (λ_ _=>rfl))) (br rfl rfl) nofun rfl nofun
    (λ_ _ _ _ _=>ay (i:=0) (show (["part","trees"]:List Str).Nodup by decide +kernel) rfl (bJ rfl)) (λ_ _ _ _ _=>b_) (λ_ _ _ _ _=>d5 hu (pv 1) (pv 0) (λ_ _=>rfl))) aj)) aj))) rfl)))
  (aq (a_ (pv 2)))),?_⟩
 nofun
 refine λd vd=>?_;have s1:=af vd (.dK []);have e1:upd H d (.dK []) d=some (.dK []):=ae;generalize upd H d (.dK [])=H1 at s1 e1;refine goN ?_
 ac_rfl
 have lt:=a9 JU;have ll:=a9 cR;have nd:=Nq.nd
 let zi:zj:=λi σ H3=>∃(kvs:List (aI×V))(y3 y4:Option V),σ=[bz R,bz D,bz d,y3,y4]/\aC H H3/\H3 d=some (.dK kvs)/\kvs.map (·.1)=((aX.take i).map (·.1)).map Sum.inr
 refine⟨_,rfl,D,rfl,⟨_,s1.seq hD⟩,dW (xs:=ts.map V.ref) zi ⟨[],_,_,rfl,s1,e1,rfl⟩ ?_ ?_ ?_⟩
 .rintro i σ H3 _ ⟨kvs,y3,y4,rfl,s3,_⟩;exact s3.seq hD
 .rintro i x σ H3 ex ⟨kvs,y3,y4,rfl,s3,ed,ek⟩
  ac_nf0
  rw [bo] at ex;obtain⟨t,et,rfl⟩:=cg.mp ex;have li:=(bA.mp et).1;obtain⟨e,ee⟩:∃e,aX[i]?=some e:=⟨aX[i]'∅,cQ ∅⟩;obtain⟨t',VL,vt⟩:=Paired.at_ JU i e ee;rw [et] at VL;cases VL;obtain⟨x,k⟩:=e;obtain⟨gG,hk,K6⟩:=Nq.at_ i x k ee;obtain⟨r,er,p,v1,v2⟩:=Paired.at_ cR k _ hk;have N3:jD (rs.map V.ref) (k:Int)=some (.ref r):=cw (by rw [bo,er];rfl);have Va:gG.length<=8:=h8 _ (bZ hk);refine⟨t,_,rfl,s3.tup vt,rfl,_,_,rfl,_,_,rfl,rfl,?_⟩;refine⟨_,rfl,_,rfl,_,rfl,R,_,_,_,rfl,rfl,s3.seq hR,N3,r,_,_,_,rfl,rfl,s3.tup v1,rfl,p,rfl,⟨_,s3.tup v2⟩,λD2 jM=>qz (zs:=gG) rfl (s3.tup v2) ∅ ed (λz hz=>by rw [ek];exact cv.mpr (K6 z hz)) jM λys H4 ly s4 e4=>?_⟩;refine⟨D2,ys,rfl,.inl ⟨aH.of e4,λt2 Sh=>⟨gE,λDv Kf=>?_⟩⟩⟩;have k5:=(af Sh (.tup ys)).trans (af Kf (.tup [.int (k:Int),.ref t2]));generalize upd (upd H4 t2 (.tup ys)) Dv (.tup [.int (k:Int),.ref t2])=H5 at k5;have ed5:=k5 _ _ (s4 _ _ ed);have lkv:kvs.length=i:=by
   have:=congrArg List.length ek;rw [aB,aB,aB,eV] at this;omega
  have nx:x∉(aX.take i).map (·.1):=λz=>by
   obtain⟨e2,m2,q2⟩:=cA.mp z;obtain⟨j,hj⟩:=i4 m2;rw [List.getElem?_take] at hj
   split at hj
   .rename_i Vi
    have a1:(aX.map (·.1))[j]?=some x:=by rw [bo,hj];exact congrArg some q2
    have a2:(aX.map (·.1))[i]?=some x:=by rw [bo,ee];rfl
    have:=(List.getElem?_inj (by rw [aB];omega) nd).mp (a1.trans a2.symm);omega
   cases hj
  refine⟨_,rfl,_,rfl,d,_,rfl,.inl ⟨kvs,Sum.inr x,ed5,rfl,bF ∅,rfl⟩,?_⟩;refine⟨_,_,_,rfl,λb o hb=>?_,ae,?_⟩
  .rw [ai (λz=>by rw [z,vd] at hb;cases hb)];exact k5 _ _ (s4 _ _ (s3 b o hb))
  rw [gI (by rw [ek];exact λz=>nx (cv.mp z)),ek,cP,ee,bw,bw];rfl
 rintro σ H3 ⟨kvs,y3,y4,rfl,s3,ed,ek⟩;rw [aB,lt,cU] at ek;exact⟨_,rfl,q d kvs H3 vd s3 ed ek⟩
end
end fh
namespace M11
open PySem
def Le (g' g:G):Prop:=∀z n,g z=some n->∃m,g' z=some m/\m<=n
def wj {g:G}{ru:au}(f:b9 bl g ru=true):i8 g ru=true/\∀n,g ru.1=some n->aM g ru < n:=by
 unfold b9 at f;rw [jf] at f;refine⟨f.1,λn e=>?_⟩;have:=f.2;rw [e] at this;have:(!(some n:Option Int).isSome || bl (aM g ru) n)=true:=this
 simpa [bl] using this
def le_step {g:G}{ru:au}(f:b9 bl g ru=true):Le (cZ g ru.1 (aM g ru)) g:=λz n e=>by
 unfold cZ;by_cases c:z=ru.1
 .rw [av c];subst c;exact⟨_,rfl,Int.le_of_lt ((wj f).2 n e)⟩
 rw [ax c];exact⟨n,e,ml _⟩
theorem Cf {g g':G}(h:Le g' g):∀ps:List Str,(∀p∈ps,(g p).isSome=true)->(∀p∈ps,(g' p).isSome=true)/\(ps.map λp=>(g' p).getD 0).sum<=(ps.map λp=>(g p).getD 0).sum
 | [],_=>⟨λp hp=>(by cases hp),ml _⟩
 | p::r,a=>by
  obtain⟨h1,h2⟩:=Cf h r λq hq=>a q (bC _ hq);obtain⟨n,en⟩:=kS.mp (a p bp);obtain⟨m,em,lm⟩:=h p n en;refine⟨λq hq=>?_,?_⟩
  .rcases aQ.mp hq with rfl | hq
   .rw [em];rfl
   exact h1 q hq
  rw [bu,bu,jd,jd,en,em];show m+_<=n+_;omega
def sG {g:G}{ru:au}:i8 g ru=true↔∀p∈ru.2,(g p).isSome=true:=by
 unfold i8;rw [gb]
def size_le {g g':G}{ru:au}(h:Le g' g)(a:i8 g ru=true):i8 g' ru=true/\aM g' ru<=aM g ru:=by
 obtain⟨h1,h2⟩:=Cf h ru.2 (sG.mp a);exact⟨sG.mpr h1,by unfold aM;omega⟩
def Lm (aa:List au) (hs:List Str)(g:G):Prop:=∀h n,g h=some n->h∉hs\/∃ru∈aa,ru.1=h/\i8 g ru=true/\aM g ru<=n
def B5 {aa:List au}{hs:List Str}(g:G)(ru:au)(j:Lm aa hs g)(m:ru∈aa)(f:b9 bl g ru=true):Lm aa hs (cZ g ru.1 (aM g ru)):=λh n e=>by
 have le:=le_step f;by_cases c:h=ru.1
 .have e2:n=aM g ru:=by
   unfold cZ at e;rw [av c] at e;exact(f_ e).symm
  obtain⟨a1,a2⟩:=size_le le (wj f).1;exact .inr ⟨ru,m,c.symm,a1,∅⟩
 have e2:g h=some n:=by
  unfold cZ at e;rw [ax c] at e;exact e
 rcases j h n e2 with h1 | ⟨KY,m2,q2,a2,l2⟩
 .exact .inl h1
 obtain⟨b1,b2⟩:=size_le le a2;exact .inr ⟨KY,m2,q2,b1,∅⟩
def A1 {aa:List au}{hs:List Str}{g0 g:G}(j0:Lm aa hs g0)(st:du bl aa g0 g)(se:gM bl aa g){h:Str}{n:Int}(hh:h∈hs)(e:g h=some n):∃ru∈aa,ru.1=h/\i8 g ru=true/\aM g ru=n:=by
 have j:Lm aa hs g:=du.keep (J:=Lm aa hs) (λg ru j m f=>B5 g ru j m f) st j0;rcases j h n e with z | ⟨ru,m,q,a,l⟩
 .exact absurd hh z
 refine⟨ru,m,q,a,?_⟩;have f:=se ru m;unfold b9 at f;rw [a,q,e] at f;have f:(true && (!(some n:Option Int).isSome || bl (aM g ru) n))=false:=f
 have f2:¬aM g ru < n:=by simpa [bl] using f
 omega
theorem zY {g:G}(nn:NN g):∀(ps:List Str)(p:Str) (m:Int),p∈ps->g p=some m->m<=(ps.map λp=>(g p).getD 0).sum
 | q::r,p,m,hp,e=>by
  rw [bu,jd];have h1:=iO g nn r;rcases aQ.mp hp with rfl | hp
  .rw [e];show m<=m+_;omega
  have h2:=zY nn r p m hp e;have h3:0<=(g q).getD 0:=by
   cases eq:g q with
   | none=>exact ml _
   | some n=>exact nn q n eq
  omega
def AG {g:G}(nn:NN g){ru:au}{p:Str}{m:Int}(hp:p∈ru.2)(e:g p=some m):m < aM g ru:=by
 have:=zY nn ru.2 p m hp e;unfold aM;omega
theorem zp:∀(bH ps bf:List Str),(∀z∈bf,z∉bH)->∀z∈oB bH bf ps,z∉bH
 | _,[],bf,h=>h
 | bH,p::r,bf,h=>by
  show ∀z∈oB bH (addW bH bf p) r,z∉bH;refine zp bH r _ ?_;unfold addW
  split
  .exact h
  rename_i hp
  unfold gw
  split
  .exact h
  intro z hz;rcases bN.mp hz with hz | hz
  .exact h z hz
  rw [bx.mp hz];exact hp
def tV {g:Str->Int}{zs:List Str}(h:zs.Pairwise λx y=>g x<=g y){i:Nat}{x p:Str}(e:zs[i]?=some x)(hp:p∈zs)(l:g p < g x):p∈zs.take i:=by
 obtain⟨j,ej⟩:=i4 hp;obtain⟨li,ei⟩:=bA.mp e;obtain⟨lj,ej2⟩:=bA.mp ej;have Vi:j < i:=by
  rcases Nat.lt_trichotomy j i with h1 | h1 | h1
  .exact h1
  .subst h1;rw [e] at ej;cases ej;omega
  have:=List.pairwise_iff_getElem.mp h i j li lj h1;rw [ei,ej2] at this;omega
 rw [List.mem_iff_getElem?];exact⟨j,by rw [List.getElem?_take,av Vi];exact ej⟩
end M11
namespace fh
open PySem L2 M11
def Py (aa:List au):Lm aa (hd aa) (vc aa):=λh n e=>by
 unfold vc at e;by_cases c:h∈oB (hd aa) [] (aa.flatMap (·.2))
 .exact .inl (zp _ _ [] (λz hz=>by cases hz) h c)
 rw [ax c] at e;cases e
def Xv (aa:List au):NN (vc aa):=λh n e=>by
 unfold vc at e;by_cases c:h∈oB (hd aa) [] (aa.flatMap (·.2))
 .rw [av c] at e;cases e;exact ml _
 rw [ax c] at e;cases e
def Jm {aa:List au}{g:G}(st:du M11.bl aa (vc aa) g):NN g:=du.keep (J:=NN) (λg ru j m f=>uC j ru) st (Xv aa)
theorem tP (bH:List Str):∀(ps bf:List Str)(x:Str),(x∈bf\/(x∈ps/\x∉bH))->x∈oB bH bf ps
 | [],bf,x,h=>by
  rcases h with h | ⟨h,_⟩
  .exact h
  cases h
 | p::r,bf,x,h=>by
  show x∈oB bH (addW bH bf p) r;apply tP bH r;unfold addW;by_cases c:p∈bH
  .rw [av c];rcases h with h | ⟨h,n⟩
   .exact .inl h
   rcases aQ.mp h with z | z
   .exact absurd (z ▸ c) n
   exact .inr ⟨z,n⟩
  rw [ax c];rcases h with h | ⟨h,n⟩
  .exact .inl ((iJ _ _ _).mpr (.inl h))
  rcases aQ.mp h with z | z
  .exact .inl ((iJ _ _ _).mpr (.inr z))
  exact .inr ⟨z,n⟩
def Mh:List Stmt->Pos
 | [_,_,_,.For _ (.Call _ _ [⟨_,.Lambda _ _ _ pos,_⟩] _) _ _ _,_]=>pos
 | _=>⟨0,0,0,0⟩
abbrev posB:Pos:=Mh (bV lh)
abbrev EU:Str := "least_by_part" ++ ".<locals>." ++ "<lambda>"
section
def mN (K:aV)(T1 T3:Addr):Sp:=λvs H Q _=>∃(R:Addr)(rs:List Addr)(aa:List au),vs=[.ref R]/\aH K H R (rs.map V.ref)/\aR K H rs aa/\aa.length < 64/\(∀ru∈aa,ru.2.length<=8)/\(∀g,du M11.bl aa (vc aa) g->gM M11.bl aa g->∀h∈hd aa,∃n,g h=some n/\n<=60)/\Tab T1 p6.2.2.2 w_ H/\Tab T3 posB EU H/\T1≠T3 /\
 ∀(d:Addr)(kvs:List (aI×V))(H':Hp),H d=none->j3 T1 T3 H H'->Tab T1 p6.2.2.2 w_ H'->Tab T3 posB EU H'->H' d=some (.dK kvs)->(∀z,z∈hd aa->(Sum.inr z:aI)∈kvs.map (·.1))->Q (.ref d) H'
structure LB (K:aV)(rs:List Addr)(aa:List au)(oK:List (aI×V))(ps:List (Str×Addr))(R dz dn T1 T3:Addr)(H5:Hp):Prop where
 hR:aH K H5 R (rs.map V.ref)
 cR:aR K H5 rs aa
 nm:E9 ps (λn=>nums aa n aa.length) H5 dn
 rz:Rd H5 dz (.dK oK)
 t1:Tab T1 p6.2.2.2 w_ H5
 t3:Tab T3 posB EU H5
theorem LB.same {rs:List Addr}{aa:List au}{oK:List (aI×V)}{ps:List (Str×Addr)}{R dz dn T1 T3:Addr}{H5 H6:Hp}(h:LB K rs aa oK ps R dz dn T1 T3 H5)(s:aC H5 H6):LB K rs aa oK ps R dz dn T1 T3 H6 :=
 ⟨s.seq h.hR,h.cR.same s,h.nm.same s,fh.Rd.same h.rz s,h.t1.same s,h.t3.same s⟩
def LB.HB {rs:List Addr}{aa:List au}{oK:List (aI×V)}{ps:List (Str×Addr)}{R dz dn T1 T3 d:Addr}{H5 H6:Hp}{kv:List (aI×V)}(h:LB K rs aa oK ps R dz dn T1 T3 H5)(e:H5 d=some (.dK kv))(n1:dn≠d)(n2:dz≠d)(s:eQ d H5 H6):LB K rs aa oK ps R dz dn T1 T3 H6:=by
 have tk:∀a xs,aW K H5 a xs->aW K H6 a xs:=λa xs z=>by
  rcases z with (z | ⟨u,z⟩) | z
  .exact .inl (.inl (s _ _ (λy=>by rw [y,e] at z;cases z) z))
  .exact .inl (.inr ⟨u,s _ _ (λy=>by rw [y,e] at z;cases z) z⟩)
  exact .inr z
 have tb:∀{T':Addr}{pos':Pos}{ET:Str},Tab T' pos' ET H5->Tab T' pos' ET H6:=λ{T' pos' ET} ⟨p,a,b,cc⟩=>⟨p,s _ _ (λy=>by rw [y,e] at a;cases a) a,b,cc.imp id λ⟨c',e1,e2⟩=>⟨c',e1,s _ _ (λy=>by rw [y,e] at e2;cases e2) e2⟩⟩;refine⟨?_,h.cR.keep tk,⟨s _ _ n1 h.nm.hd,h.nm.n1,h.nm.n2,λp hp=>s _ _ (λy=>by have a:=h.nm.lst p hp;rw [y,e] at a;cases a) (h.nm.lst p hp)⟩,?_,tb h.t1,tb h.t3⟩
 .rcases h.hR with (z | ⟨u,z⟩) | z
  .exact .inl (.inl (s _ _ (λy=>by rw [y,e] at z;cases z) z))
  .exact .inl (.inr ⟨u,s _ _ (λy=>by rw [y,e] at z;cases z) z⟩)
  exact .inr z
 rcases h.rz with z | ⟨u,z⟩
 .exact .inl (s _ _ n2 z)
 exact .inr ⟨u,s _ _ n2 z⟩
def LB.LW {rs:List Addr}{aa:List au}{oK:List (aI×V)}{ps:List (Str×Addr)}{R dz dn T1 T3:Addr}{H5 H6:Hp}(h:LB K rs aa oK ps R dz dn T1 T3 H5)(nT:T1≠T3)(s:eQ T3 H5 H6)(t:Tab T3 posB EU H6):LB K rs aa oK ps R dz dn T1 T3 H6:=by
 obtain⟨pt,eT,_⟩:=id h.t3;refine⟨zP s h.t3 h.hR,h.cR.keep λ_ _ z=>zq s h.t3 z,⟨s _ _ (λy=>by have a:=h.nm.hd;rw [y,eT] at a;cases a) h.nm.hd,h.nm.n1,h.nm.n2,λp hp=>s _ _ (λy=>by have a:=h.nm.lst p hp;rw [y,eT] at a;cases a) (h.nm.lst p hp)⟩,?_,zt s h.t3 h.t1 nT,t⟩;rcases h.rz with z | ⟨u,z⟩
 .exact .inl (s _ _ (λy=>by rw [y,eT] at z;cases z) z)
 exact .inr ⟨u,s _ _ (λy=>by rw [y,eT] at z;cases z) z⟩
theorem m_:∀(hs:List Str)(bf:List (aI×V)) (as:List Str),bf.map (·.1)=as.map Sum.inr->(cE (hs.map λh=>((Sum.inr h:aI),V.str h)) bf).map (·.1)=(M11.uS as hs).map Sum.inr
 | [],bf,as,e=>e
 | h::r,bf,as,e=>m_ r (bj bf (Sum.inr h) (.str h)) (M11.gw as h) (fh.jy e h)
def gN:aK ["rules","numbers","trees","name","least","sizes"] ["rules"] (az lh):=iL rfl rfl rfl rfl nofun
def yq {T1 T3:Addr}(F:wV K "least_by_part" "least_by_part" lh f fd T3)(T:Txt mg)(hB:qP mg base)(hS:mg "sorted"=none)(GH:aE P w K mg base 3 "heads_of" ["rules"] (jF K))(GL:aE P w K mg base 3 "least_sizes" ["rules"] (oE K T1))(GN:aE P w K mg base 3 "numbers_by_name" ["rules"] (Cn K))(GZ:aE P w K mg base 3 "rule_size" ["sizes","rule"] (pK K)):bI P w K mg base e_ 4 f fd ["rules"] (mN K T1 T3):=by
 refine F.ok gN (λvs H Q E h=>?_) (λc A outer s H vs Q E hC hr h=>?_)
 .obtain⟨R,rs,aa,rfl,_⟩:=h;rfl
 obtain⟨R,rs,aa,rfl,hR,cR,bc,h8,DQ,Gn,R4,nT,q⟩:=h;have hu:=gu hr;refine⟨_,ak (aG (i:=5) gN.nd rfl (Or.inr rfl) (bE GL hr rfl (ab (pv 0) aj)))
  (ak (aG (i:=1) gN.nd rfl (Or.inr rfl) (bE GN hr rfl (ab (pv 0) aj)))
  (ak (aG (i:=2) gN.nd rfl (Or.inr rfl) (a7 (dC rfl) rfl T.ve eP (ab (bG ["part"] [(1,"numbers")] rfl (zW (pv 5)) (br rfl rfl) nofun rfl nofun
    (λ_ _ _ _ _=>ay (i:=0) (show (["part","numbers"]:List Str).Nodup by decide +kernel) rfl (bJ rfl)) (λ_ _ _ _ _=>hJ (d7 (di hu (pv 0) (pv 1)))) (λ_ _ _ _ _=>aP (ab (pv 0) (ab (pv 0) aj)))) aj)))
  (ak (b8 cx rfl (bq (C0 (i:=5) (T:=T3) hr rfl hC hB rfl hS (ab (bE GH hr rfl (ab (pv 0) aj)) aj) rfl rfl (λy hy=>by
    rcases aQ.mp hy with h | h
    .cases h
    rcases aQ.mp h with h | h
    .cases h;rfl
    cases h) (λq cl pm fg c' us hl=>match us,hl with | [_],_=>rfl) rfl rfl rfl nofun rfl rfl)) (ay (i:=3) gN.nd rfl (Or.inr rfl))
   (ak (g_ (iy:=4) ["number"] [(5,"sizes"),(0,"rules"),(3,"name")] gN.nd rfl rfl rfl (bq (d5 hu (pv 1) (pv 3) (λ_ _=>rfl))) (br rfl rfl) nofun rfl nofun
    (λ_ _ _ _ _=>ay (i:=0) (show (["number","sizes","rules","name"]:List Str).Nodup by decide +kernel) rfl (bJ rfl)) (λ_ _ _ _ _=>hJ (bU n_ (bE GZ hr rfl (ab (pv 1) (ab (aO (p_ K) (pv 2) (pv 0) (λ_ _=>rfl)) aj))) (d5 hu (pv 1) (pv 3) (λ_ _=>rfl)) (bL _))) (λ_ _ _ _ _=>pv 0))
   (aq (gJ hu (pv 2) (pv 3) (aP (ab (aO aS (pv 4) ar (λ_ _=>rfl)) (ab (a7 eM rfl T.tup vj (ab (bG ["part"] [(2,"trees")] rfl (gX (aO cH (aO aS (pv 0) (aO aS (pv 4) ar (λ_ _=>rfl)) (λ_ _=>rfl)) ar (λ_ _=>rfl))) (br rfl rfl) nofun rfl nofun
    (λ_ _ _ _ _=>ay (i:=0) (show (["part","trees"]:List Str).Nodup by decide +kernel) rfl (bJ rfl)) (λ_ _ _ _ _=>b_) (λ_ _ _ _ _=>d5 hu (pv 1) (pv 0) (λ_ _=>rfl))) aj)) aj))) rfl))))
  (aq (a_ (pv 2)))))),?_⟩
 nofun
 refine⟨_,rfl,R,rs,aa,rfl,hR,cR,∅,h8,Gn,λdz oK Hz g H1 fz s1 t1 ez kz vz Oy Uc lz=>?_⟩;refine goN ?_
 ac_rfl
 have Vt:=zP s1 Gn hR;have Nc:=cR.keep λ_ _ z=>zq s1 Gn z;have T7:=zt s1 Gn R4 (fk nT);refine⟨_,rfl,R,rs,aa,rfl,Vt,Nc,∅,λdn ps H2 fn s2 nm pk pf=>?_⟩;refine goN ?_
 ac_rfl
 have Lf:=s2 _ _ ez;refine⟨_,rfl,dz,oK,rfl,Lf,λo D hD=>?_⟩;have Qw:∀p∈ps,p.2≠dz:=λp hp z=>by
  have a:=nm.lst p hp;rw [z,Lf] at a;cases a
 have XF:dn≠dz:=λz=>by rw [z,ez] at fn;cases fn
 have Xs:T1≠dz:=λz=>by
  obtain⟨p,a,_⟩:=t1;rw [z,ez] at a;cases a
 have Xr:T3≠dz:=λz=>by
  obtain⟨p,a,_⟩:=T7;rw [z,ez] at a;cases a
 have Ly:∀{T':Addr}{pos':Pos}{ET:Str},T'≠dz->Tab T' pos' ET H2->Tab T' pos' ET (upd H2 dz (.i_ o (.dK oK))):=λ{T' pos' ET} n ⟨p,a,b,cc⟩=>⟨p,by rw [ai n];exact a,b,cc.imp id λ⟨c',e1,e2⟩=>⟨c',e1,by rw [ai (λz=>by rw [z,Lf] at e2;cases e2)];exact e2⟩⟩;have L3:LB K rs aa oK ps R dz dn T1 T3 (upd H2 dz (.i_ o (.dK oK))):=by
  refine⟨?_,(Nc.same s2).keep λ_ _ z=>eI Lf z,⟨by rw [ai XF];exact nm.hd,nm.n1,nm.n2,λp hp=>by rw [ai (Qw p hp)];exact nm.lst p hp⟩,.inr ⟨o,ae⟩,Ly Xs (t1.same s2),Ly Xr (T7.same s2)⟩;rcases s2.seq Vt with (h | ⟨u,h⟩) | h
  .exact .inl (.inl (by rw [ai (λz=>by rw [z,Lf] at h;cases h)];exact h))
  .exact .inl (.inr ⟨u,by rw [ai (λz=>by rw [z,Lf] at h;cases h)];exact h⟩)
  exact .inr h
 have e3:upd H2 dz (.i_ o (.dK oK)) dz=some (.i_ o (.dK oK)):=ae;have ER:j3 T1 T3 H (upd H2 dz (.i_ o (.dK oK))):=λb u n1 n3 hb=>by
  rw [ai (λz=>by rw [z,fz] at hb;cases hb)];exact s2 _ _ (s1 b u n1 hb)
 generalize upd H2 dz (.i_ o (.dK oK))=H3 at hD L3 e3 ER ⊢;have Yj:oK.length=Hz.length:=by
  have:=congrArg List.length kz;rwa [aB,aB] at this
 refine qD (λi ys σ2 H4=>∃ts:List Addr,ys=ts.map V.ref/\(∃y0,σ2=[y0,bz dn])/\aC H3 H4/\H4 D=some (.lst ys)/\ts.length<=i/\Paired (λt h=>aW K H4 t [.str h,.str h]) ts ((Hz.take i).filter λz=>!decide (z∈hd aa)))
  ⟨[],rfl,⟨none,rfl⟩,af hD _,ae,aF _,.nil⟩ (λi ys σ2 H4 _ h=>?_) (λi kv ys σ2 H4 ex h=>?_) (λys σ2 H4 h=>?_)
 .obtain⟨_,_,_,sm,_⟩:=h;exact sm _ _ e3
 .obtain⟨ts,rfl,⟨y0,rfl⟩,sm,e4,Yb,pt⟩:=h;obtain⟨z,Ki,ekz⟩:∃z,Hz[i]?=some z/\kv.1=Sum.inr z:=by
   have a1:(oK.map (·.1))[i]?=some kv.1:=by rw [bo,ex];rfl
   rw [kz,bo] at a1;obtain⟨z,a2,a3⟩:=cg.mp a1;exact⟨z,a2,a3.symm⟩
  rw [ekz];have L4:=L3.same sm;have Zd:(aY (ps.map iK) (Sum.inr z)).isSome=decide (z∈hd aa):=by
   rw [ij,dB,decide_eq_true_iff,<-pk];rw [g8];constructor
   .intro h;obtain⟨p,hp,e⟩:=cA.mp h;exact cA.mpr ⟨p,hp,j7 e⟩
   intro h;obtain⟨p,hp,e⟩:=cA.mp h;exact cA.mpr ⟨p,hp,congrArg Sum.inr e⟩
  refine goN ?_;refine⟨_,rfl,_,rfl,dn,_,rfl,bX.k (k:=Sum.inr z) L4.nm.hd,_,rfl,?_⟩;rw [Zd];have NH:((Hz.take (i+1)).filter λz=>!decide (z∈hd aa))=((Hz.take i).filter λz=>!decide (z∈hd aa))++(if (!decide (z∈hd aa))=true then [z] else []):=by
   rw [cP,Ki,kQ]
   congr 1
   by_cases c:z∈hd aa <;> simp [c]
  refine dj (λcc=>?_) (λcc=>?_)
  .refine⟨_,rfl,_,rfl,gE,λt ht=>?_⟩;have k5:=af ht (.tup [kV (Sum.inr z),kV (Sum.inr z)]);have v5:aW K (upd H4 t (.tup [kV (Sum.inr z),kV (Sum.inr z)])) t [.str z,.str z]:=aW.of ae;generalize upd H4 t (.tup [kV (Sum.inr z),kV (Sum.inr z)])=H5 at k5 v5;have li:=(bA.mp ex).1;have e5:=k5 _ _ e4;refine⟨e5,bF (by rw [aB];omega),ts++[t],by rw [bw];rfl,⟨_,rfl⟩,λb u hb=>?_,ae,by rw [cu,pA];omega,?_⟩
   .rw [ai (λz=>by rw [z,hD] at hb;cases hb)];exact k5 _ _ (sm b u hb)
   rw [NH,av cc];exact fj (Paired.gy pt λ_ _ z=>aN e5 (k5.tup z)) (aN e5 v5)
  refine⟨ts,rfl,⟨_,rfl⟩,sm,e4,∅,?_⟩;rw [NH,ax cc,eF];exact pt
 obtain⟨ts,rfl,_,s4,e4,Yb,pt⟩:=h;rw [Yj,cU] at pt;have UX:∀z,z∉hd aa->(g z).isSome=true->z∈Hz.filter λz=>!decide (z∈hd aa):=λz hz gz=>by
  refine je.mpr ⟨?_,by simpa using hz⟩;have a1:(aY oK (Sum.inr z)).isSome=true:=by rw [vz,mF];exact gz
  rw [dB,kz] at a1;exact cv.mp a1
 have X9:(Hz.filter λz=>!decide (z∈hd aa)).length<=20000:=cO (oU _ _) ∅;generalize Hz.filter (λz=>!decide (z∈hd aa))=ws at pt UX X9;have kp:Paired (λt (kv:aI×V)=>aW K H4 t [kV kv.1,kv.2]) ts (ws.map λh=>((Sum.inr h:aI),V.str h)):=cy pt λ_ _ z=>z;refine⟨D,ts,_,rfl,e4,kp,λdt uO=>?_⟩;have kt:∀z∈ws,(Sum.inr z:aI)∈(cE (ws.map λh=>((Sum.inr h:aI),V.str h)) []).map (·.1):=λz hz=>by
  rw [m_ ws [] [] rfl];exact cv.mpr ((fY ws [] z).mpr (.inr hz))
 have Yk:(cE (ws.map λh=>((Sum.inr h:aI),V.str h)) []).length<=20000:=by
  have a:=congrArg List.length (m_ ws [] [] rfl);rw [aB,aB] at a;have:=hX ws [];simp only [i0] at this;omega
 generalize cE (ws.map λh=>((Sum.inr h:aI),V.str h)) []=MP at kt Yk;have s5:=s4.trans (af uO (.dK MP));have e5:upd H4 dt (.dK MP) dt=some (.dK MP):=ae;have HR:H3 dt=none:=s4.free uO;generalize upd H4 dt (.dK MP)=H5 at s5 e5;have L5:=L3.same s5;refine goN ?_
 ac_rfl
 refine⟨_,rfl,R,rs,aa,rfl,L5.hR,L5.cR,∅,λDH H6 fH s6 eH=>?_⟩;have L6:=L5.same s6;have Jv:=hX (aa.map (·.1)) [];simp only [i0,aB] at Jv;have gz:∀z∈hd aa,∃n,g z=some n:=λz hz=>by
  obtain⟨n,e,_⟩:=DQ g Oy Uc z hz;exact⟨n,e⟩
 refine⟨L6.t3,DH,hd aa,dz,oK,λz=>(g z).getD 0,rfl,aH.of eH,by unfold hd;omega,rfl,L6.rz,λz hz=>by obtain⟨n,e⟩:=gz z hz;rw [vz,e];show _=some (V.int ((g z).getD 0));rw [e];rfl,λl Il H7 s7 WJ fl pe pw el=>?_⟩;have L7:=L6.LW nT s7 WJ;have QD:dt≠T3:=λz=>by
  obtain⟨p,a,_⟩:=L5.t3;rw [<-z,e5] at a;cases a
 have e7:=s7 _ _ QD (s6 _ _ e5);have UA:dn≠dt:=λz=>by have a:=L3.nm.hd;rw [z,HR] at a;cases a
 have Ut:dz≠dt:=λz=>by rw [<-z,e3] at HR;cases HR
 have IW:j3 T1 T3 H H7:=λb u n1 n3 hb=>s7 _ _ n3 (s6 _ _ (s5 _ _ (ER b u n1 n3 hb)));have Qz:l≠dt:=λz=>by rw [z,s6 _ _ e5] at fl;cases fl
 have nn:=Jm Oy;have hlz:Il.length < 64:=by rw [pe.length_eq];unfold hd;omega
 have N6:∀ru∈aa,∀p∈ru.2,(g p).isSome=true:=λru eE p hp=>by
  by_cases hh:p∈hd aa
  .obtain⟨n,e⟩:=gz p hh;rw [e];rfl
  have j0:∃n,vc aa p=some n:=⟨0,av (tP _ _ [] p (.inr ⟨gA.mpr ⟨ru,eE,hp⟩,hh⟩))⟩;have:∃n,g p=some n:=du.keep (J:=λg=>∃n,g p=some n) (λg ru ⟨n,e⟩ m f=>by obtain⟨k,a,_⟩:=le_step f p n e;exact⟨k,a⟩) Oy j0;obtain⟨n,e⟩:=this;rw [e];rfl
 have ll:=a9 cR
 let zi:zj:=λi σ H8=>∃(kvs:List (aI×V))(y3 y4:Option V),σ=[bz R,bz dn,bz dt,y3,y4,bz dz]/\eQ dt H7 H8/\H8 dt=some (.dK kvs)/\kvs.length<=20000+i/\(∀z∈ws,(Sum.inr z:aI)∈kvs.map (·.1))/\(∀z∈Il.take i,(Sum.inr z:aI)∈kvs.map (·.1))
 refine⟨l,rfl,⟨_,aH.of el⟩,dW (xs:=Il.map V.str) zi ⟨MP,_,_,rfl,λ_ _ _ h=>h,e7,∅,kt,λz hz=>by cases hz⟩ ?_ ?_ ?_⟩
 .rintro i σ H8 _ ⟨kvs,y3,y4,rfl,s8,_⟩;exact aH.of (s8 _ _ Qz el)
 .rintro i x σ H8 ex ⟨kvs,y3,y4,rfl,s8,e8,QP,QV,MO⟩
  ac_nf0
  rw [bo] at ex;obtain⟨z,O1,rfl⟩:=cg.mp ex;have li:=(bA.mp O1).1;have hz:z∈hd aa:=pe.mem_iff.mp (bZ O1);obtain⟨n,Sw⟩:=gz z hz;have L8:=L7.HB e7 UA Ut s8;obtain⟨p,hp,Ru⟩:=cA.mp (show z∈ps.map (·.1) by rw [pk];exact hz);refine goN ?_
  ac_rfl
  have Zg:bX H8 dn (.str z) (some (.ref p.2)):=by
   have:=bX.k (k:=Sum.inr z) L8.nm.hd;rw [<-Ru,fP ps L8.nm.n1 p hp] at this;rw [Ru] at this;exact this
  have OR:=L8.nm.lst p hp;have OR:H8 p.2=some (.lst ((nums aa z aa.length).map V.int)):=by rw [<-Ru];exact OR
  have numOf:∀(m:Nat) (v:Int),(nums aa z aa.length)[m]?=some v->∃(j:Nat)(ru:au),v=(j:Int)/\aa[j]?=some ru/\ru.1=z:=λm v e=>by
   unfold nums at e;rw [bo] at e;obtain⟨j,e1,rfl⟩:=cg.mp e;have hj:=(je.mp (bZ e1)).2;have hj:(aa[j]?.map (·.1))=some z:=cK hj;obtain⟨ru,e2,e3⟩:=cg.mp hj;exact⟨j,ru,rfl,e2,e3⟩
  have Xy:=vO aa z aa.length
  let good:Int->Bool:=λv=>match aa[v.toNat]? with | some ru=>decide (aM g ru=n) | none=>false
  have wit:∃v∈nums aa z aa.length,good v=true:=by
   obtain⟨ru,eE,q1,_,q3⟩:=A1 (Py aa) Oy Uc hz Sw;obtain⟨j,ej⟩:=i4 eE;have lj:=(bA.mp ej).1;refine⟨(j:Int),cA.mpr ⟨j,je.mpr ⟨j_.mpr lj,dI (by rw [ej];exact congrArg some q1)⟩,rfl⟩,?_⟩;show (match aa[(j:Int).toNat]? with | some ru=>decide (aM g ru=n) | none=>false)=true
   rw [nU,ej];exact dI q3
  refine⟨_,rfl,_,rfl,dn,_,rfl,Zg,p.2,rfl,⟨_,aH.of OR⟩,λD9 HM=>bT (xs:=(nums aa z aa.length).map V.int) (λm ys σ2 H9=>ys=(((nums aa z aa.length).take m).filter good).map V.int/\(∃y0,σ2=[y0,bz dz,bz R,some (.str z)])/\aC H8 H9/\H9 D9=some (.lst ys))
   ⟨rfl,⟨none,rfl⟩,af HM _,ae⟩ (λm ys σ2 H9 _ h=>?_) (λm x ys σ2 H9 em h=>?_) (λys σ2 H9 h=>?_)⟩
  .obtain⟨_,_,sm,_⟩:=h;exact aH.of (sm _ _ OR)
  .obtain⟨rfl,⟨y0,rfl⟩,sm,e9⟩:=h;rw [bo] at em;obtain⟨v,ev,rfl⟩:=cg.mp em;have lm:=(bA.mp ev).1;obtain⟨j,ru,rfl,ej,O4⟩:=numOf m v ev;have L9:=L8.same sm;obtain⟨r,er,rv⟩:=Paired.at_ L9.cR j ru ej;have N3:jD (rs.map V.ref) (j:Int)=some (.ref r):=cw (by rw [bo,er];rfl);have gj:good (j:Int)=decide (V.int (aM g ru)=V.int n):=by
    show (match aa[(j:Int).toNat]? with | some ru=>decide (aM g ru=n) | none=>false)=_
    rw [nU,ej];show decide (aM g ru=n)=_;by_cases c:aM g ru=n
    .rw [dI c,dI (congrArg V.int c)]
    rw [fN c,fN (λy=>c (by injection y))]
   refine goN ?_;refine⟨_,rfl,_,rfl,_,rfl,R,_,_,_,rfl,rfl,L9.hR,N3,dz,r,oK,g,ru,rfl,L9.rz,vz,rv,h8 ru (bZ ej),N6 ru (bZ ej),λzm uj=>?_⟩;have Ze:bX zm dz (.str z) (some (.int n)):=by
    have:=bX.r (k:=Sum.inr z) (L9.same uj).rz;rw [vz,Sw] at this;exact this
   refine⟨_,rfl,_,rfl,dz,_,rfl,Ze,rfl,_,rfl,?_⟩;rw [<-gj];have NH:((nums aa z aa.length).take (m+1)).filter good=((nums aa z aa.length).take m).filter good++(if good (j:Int)=true then [(j:Int)] else []):=by
    rw [cP,ev,kQ]
    congr 1
    show List.filter good [(j:Int)]=_;by_cases c:good (j:Int)=true
    .rw [av c,o8,av c,List.filter_nil]
    rw [ax c,o8,ax c,List.filter_nil]
   have lf:(((nums aa z aa.length).take m).filter good).length<=1000:=cO (oU _ _) (by rw [eV];omega);refine dj (λcc=>?_) (λcc=>?_)
   .refine⟨_,rfl,uj _ _ e9,bF (by rw [aB];omega),by rw [NH,av cc,bw];rfl,⟨_,rfl⟩,λb u hb=>?_,ae⟩;rw [ai (λz=>by rw [z,HM] at hb;cases hb)];exact uj _ _ (sm b u hb)
   exact⟨by rw [NH,ax cc,eF],⟨_,rfl⟩,sm.trans uj,uj _ _ e9⟩
  obtain⟨rfl,_,s9,e9⟩:=h;rw [aB,cU] at e9;refine goN ?_
  ac_rfl
  have L9:=L8.same s9;cases hf:(nums aa z aa.length).filter good with
  | nil =>
   obtain⟨v,hv,gv⟩:=wit;have:v∈(nums aa z aa.length).filter good:=je.mpr ⟨hv,gv⟩;rw [hf] at this;cases this
  | cons v0 vr =>
   rw [hf] at e9;have Y8:v0∈(nums aa z aa.length).filter good:=by rw [hf];exact bp
   obtain⟨Y7,OS⟩:=je.mp Y8;obtain⟨m0,em0⟩:=i4 Y7;obtain⟨j,ru,rfl,ej,O4⟩:=numOf m0 v0 em0;have hsz:aM g ru=n:=by
    have OS:(match aa[(j:Int).toNat]? with | some ru=>decide (aM g ru=n) | none=>false)=true:=OS
    rw [nU,ej] at OS;exact cK OS
   have eE:=bZ ej;obtain⟨r,er,pp,v1,v2⟩:=Paired.at_ L9.cR j ru ej;have N3:jD (rs.map V.ref) (j:Int)=some (.ref r):=cw (by rw [bo,er];rfl);have nJ:jD (V.int (j:Int)::vr.map V.int) 0=some (.int (j:Int)):=cw (j:=0) rfl;have e9:H9 D9=some (.lst (V.int (j:Int)::vr.map V.int)):=e9;have e89:=s9 _ _ e8;have r8:=h8 ru eE;have QZ:∀p∈ru.2,(Sum.inr p:aI)∈kvs.map (·.1):=λy hy=>by
    obtain⟨my,ey⟩:=kS.mp (N6 ru eE y hy);by_cases hh:y∈hd aa
    .refine MO y (tV pw O1 (pe.mem_iff.mpr hh) ?_);show (g y).getD 0 < (g z).getD 0;rw [ey,Sw];show my < n;rw [<-hsz];exact AG nn hy ey
    exact QV y (UX y hh (by rw [ey];rfl))
   refine⟨_,rfl,D9,_,_,_,rfl,rfl,aH.of e9,nJ,_,rfl,_,rfl,D9,_,_,_,rfl,rfl,aH.of e9,nJ,R,_,_,_,rfl,rfl,L9.hR,N3,r,_,_,_,rfl,rfl,v1,rfl,pp,rfl,⟨_,v2⟩,λTL Se=>qz (zs:=ru.2) rfl v2 ∅ e89 QZ Se λys zm ly uj BU=>?_⟩;refine⟨TL,ys,rfl,.inl ⟨aH.of BU,λt2 Sh=>⟨gE,λDv Kf=>?_⟩⟩⟩;have US:=(af Sh (.tup ys)).trans (af Kf (.tup [.int (j:Int),.ref t2]));generalize upd (upd zm t2 (.tup ys)) Dv (.tup [.int (j:Int),.ref t2])=BI at US;have L0:=(s9.trans uj).trans US;have E4:=L0 _ _ e8;refine⟨_,rfl,_,rfl,dt,_,rfl,.inl ⟨kvs,Sum.inr z,E4,rfl,bF ∅,rfl⟩,?_⟩;have DE:∀y:aI,(y∈kvs.map (·.1)\/y=Sum.inr z)->y∈(bj kvs (Sum.inr z) (.ref Dv)).map (·.1):=λy hy=>by
    by_cases hk:(Sum.inr z:aI)∈kvs.map (·.1)
    .rw [yg hk];rcases hy with hy | rfl
     .exact hy
     exact hk
    rw [gI hk];rcases hy with hy | rfl
    .exact jh _ hy
    exact eX _ bp
   have Yh:(bj kvs (Sum.inr z) (.ref Dv)).length<=kvs.length+1:=by
    have a:=congrArg List.length (Eq.refl ((bj kvs (Sum.inr z) (.ref Dv)).map (·.1)));by_cases hk:(Sum.inr z:aI)∈kvs.map (·.1)
    .have b:=congrArg List.length (yg (v:=.ref Dv) hk);rw [aB,aB] at b;omega
    have b:=congrArg List.length (gI (v:=.ref Dv) hk);rw [aB,cu,aB,pA] at b;omega
   refine⟨_,_,_,rfl,λb u nb hb=>?_,ae,∅,λy hy=>DE _ (.inl (QV y hy)),λy hy=>?_⟩
   .rw [ai nb];exact L0 _ _ (s8 b u nb hb)
   rw [cP,O1] at hy;rcases bN.mp hy with hy | hy
   .exact DE _ (.inl (MO y hy))
   exact DE _ (.inr (by rw [bx.mp (show y∈[z] from hy)]))
 rintro σ H8 ⟨kvs,y3,y4,rfl,s8,e8,QP,QV,MO⟩;rw [aB,cU] at MO;have L8:=L7.HB e7 UA Ut s8;refine⟨_,rfl,q dt kvs H8 ?_ (λb u n1 n3 hb=>?_) L8.t1 L8.t3 e8 λz hz=>MO z (pe.mem_iff.mpr hz)⟩
 .cases c:H dt with
  | none=>rfl
  | some u =>
   by_cases h1:dt=T1
   .obtain⟨pp,a,_⟩:=L3.t1;rw [<-h1,HR] at a;cases a
   rw [ER dt u h1 QD c] at HR;cases HR
 refine s8 _ _ (λz=>?_) (IW b u n1 n3 hb);rw [z] at hb;rw [ER dt u (λy=>n1 (z.trans y)) QD hb] at HR;cases HR
end
end fh
namespace L2
open PySem PySem.Spec PyProof.Rows
section
variable {prog:Program}{w:World}{A:Around}{E:Value->Shared->Prop}
def tR {h h':Heap}{ks:List aI}{a:Addr}(p:(tupleKind (aU prog w)).is h ks a)(k:∀b o,o.cls=.type "tuple" -> h.get? b=some o->h'.get? b=some o):(tupleKind (aU prog w)).is h' ks a :=
 let ⟨o,aL,n,h1,h2,h3,h4⟩:=p;⟨o,aL,n,k a o h2 h1,h2,h3,h4⟩
def uR {h h':Heap}{d:Addr}{xs:List (List aI×Addr×Value)}(hd:h.DictOfH (tupleKind (aU prog w)) d xs)(kd:∀o,h.get? d=some o->h'.get? d=some o)(k:∀b o,o.cls=.type "tuple" -> h.get? b=some o->h'.get? b=some o) :
  h'.DictOfH (tupleKind (aU prog w)) d xs :=
 let ⟨o,es,ep,q,c,dd,e,is,n⟩:=hd;⟨o,es,ep,kd o q,c,dd,e,λx hx=>tR (is x hx) k,n⟩
def jQ (prog:Program)(w:World)(h:Heap)(u:Value)(kv:List aI×Addr×Value):Prop :=
 ∃t n o,u=.ref t/\(tupleKind (aU prog w)).is h kv.1 kv.2.1/\h.get? t=some o/\o.cls=.type "tuple" /\ o.data=.seq #[.ref kv.2.1,kv.2.2] n
def jQ.keep {h h':Heap}{u:Value}{kv:List aI×Addr×Value}(p:jQ prog w h u kv)(k:∀b o,o.cls=.type "tuple" -> h.get? b=some o->h'.get? b=some o):jQ prog w h' u kv :=
 let ⟨t,n,o,a,b,c,d,e⟩:=p;⟨t,n,o,a,tR b k,k t o d c,d,e⟩
def Ab (more xs:List (List aI×Addr×Value)):List (List aI×Addr×Value):=more.foldl (λa p=>storedH a p.1 p.2.1 p.2.2) xs
def Gx {R:Result->Shared->Prop}{d it l:Addr}{items:Array Value}(hh:A.handled=none)(hu:A.units+1 < cLine):∀(more:List (List aI×Addr×Value)) (i:Nat)(s:Shared)(kvs:List (List aI×Addr×Value)) (j:Int)(tk:Tok),items.size=i+more.length ->
  s.heap.DictOfH (tupleKind (aU prog w)) d kvs->s.heap.IsListIter it l i->s.heap.IsList l items->(∀m kv,more[m]?=some kv->∃u,items[i+m]?=some u/\jQ prog w s.heap u kv)->kvs.length+more.length<=sizeLine ->
  (∀h' t',h'.DictOfH (tupleKind (aU prog w)) d (Ab more kvs)->(∀b o,b≠d->b≠it->s.heap.get? b=some o->h'.get? b=some o)->R (.ok (.ret .none)) { s with heap:=h',toks:=t' }) ->
  codeAny (model prog w) A (.builtin "dict.update.loop" ⟨[.ref d,.ref it,.int j tk,.none],[]⟩) R s:=by
 intro more
 induction more with
 | nil =>
  intro i s kvs j tk hi hd hit hl hp hz hR;refine mr jO ?_;rw [ph dZ _];unfold Builtin.«dict.update.loop»;have hs:items[i]?=none:=Array.getElem?_eq_none (by rw [hi];exact aF _);refine aJ (sX hh hit hl hs λh1 eb=>?_);have nd:d≠it:=λz=>by
   obtain⟨o,_,_,q,_,c,_⟩:=hd;obtain⟨o',q',_,c'⟩:=hit;rw [z,q'] at q;cases q;rw [c'] at c;cases c
  have nt:∀b o,o.cls=.type "tuple" -> s.heap.get? b=some o->b≠it:=λb o c q z=>by
   obtain⟨o',q',c',_⟩:=hit;rw [z,q'] at q;cases q;rw [c'] at c;exact absurd c nofun
  show wpAny _ _ (Builtin.Dict.addKeywords d [] >>= _) _ _ _;exact aJ (aZ (aZ (hR h1 s.toks (uR hd (λo q=>eb d o nd q) λb o c q=>eb b o (nt b o c q) q) λb o n1 n2 q=>eb b o n2 q)))
 | cons kv more ih =>
  intro i s kvs j tk hi hd hit hl hp hz hR;refine mr jO ?_;rw [ph dZ _];unfold Builtin.«dict.update.loop»;obtain⟨u,YJ,t,n,o,rfl,hk,ho,hc,uO⟩:=hp 0 kv rfl;refine aJ (wpAny_pyNext_list_item hit hl YJ λh1 Q2 sb=>?_);have nd:d≠it:=λz=>by
   obtain⟨o,_,_,q,_,c,_⟩:=hd;obtain⟨o',q',_,c'⟩:=hit;rw [z,q'] at q;cases q;rw [c'] at c;cases c
  have n2:∀b o,(o.cls=.type "tuple" \/ o.cls=.type "list")->s.heap.get? b=some o->b≠d/\b≠it:=by
   intro b o c q;constructor
   .intro z;obtain⟨o',q',c'⟩:=hd.typeIs;rw [z,q'] at q;cases q;rw [c'] at c;rcases c with c | c <;> exact absurd c nofun
   intro z;obtain⟨o',q',c',_⟩:=hit;rw [z,q'] at q;cases q;rw [c'] at c;rcases c with c | c <;> exact absurd c nofun
  have nt:∀b o,o.cls=.type "tuple" -> s.heap.get? b=some o->b≠d/\b≠it:=λb o c q=>n2 b o (.inl c) q;have nl:l≠d/\l≠it:=by
   obtain⟨o,q,c,_⟩:=hl;exact n2 l o (.inr c) q
  have QX:∀b o,o.cls=.type "tuple" -> s.heap.get? b=some o->h1.get? b=some o:=λb o c q=>(sb.2 b (nt b o c q).2).trans q;have Nh:h1.get? t=some o:=QX t o hc ho;have RV:h1.DictOfH (tupleKind (aU prog w)) d kvs:=uR hd (λo q=>(sb.2 d nd).trans q) QX;refine aJ (jc (aJ (wpAny_tryCatch ?_)));unfold Builtin.Dict.pairItems;refine aJ (mj (T := "tuple") ⟨o,Nh,hc⟩ ?_);rw [av nofun];refine aJ (oX Nh uO (aZ ?_));show wpAny _ _ (holding [.ref kv.2.1,kv.2.2] (dictSet d (.ref kv.2.1) kv.2.2)) _ _ _;rw [cX] at hz hi;refine jc (wpAny_dictSet_heap (s:={ s with heap:=h1 }) (mE hu) (tR hk QX) RV (λh2 hd2 LY=>?_) ∅);have kk:∀b o,b≠d->b≠it->s.heap.get? b=some o->h2.get? b=some o:=λb o n1 n2 q=>(LY.2 b n1).trans ((sb.2 b n2).trans q);have ln:(storedH kvs kv.1 kv.2.1 kv.2.2).length<=kvs.length+1:=by
   unfold storedH
   split
   .simp
   simp
  refine aZ ⟨mn dZ _,ih (i+1) _ _ _ _ ∅ hd2 (Q2.at λo q=>(LY.2 it (fk nd)).trans q) (hl.at λo q=>kk l o nl.1 nl.2 q) (λm QW e=>?_) ∅ λh3 t3 gO k3=>?_⟩
  .obtain⟨u',e1,e2⟩:=hp (m+1) QW e;exact⟨u',by rw [<-e1];congr 1;omega,e2.keep λb o c q=>kk b o (nt b o c q).1 (nt b o c q).2 q⟩
  exact hR h3 t3 gO λb o n1 n2 q=>k3 b o n1 n2 (kk b o n1 n2 q)
def oz {s:Shared}{l:Addr}{items:Array Value}{n:Nat}{more:List (List aI×Addr×Value)}{Q:Value->Shared->Prop}(hh:A.handled=none)(hu:A.units+2 < cLine)(hx:s.heap.get? l=some { cls:=.type "list",data:=.seq items n })
  (hi:items.size=more.length)(hp:∀(m:Nat) kv,more[m]?=some kv->∃u,items[m]?=some u/\jQ prog w s.heap u kv)(hz:more.length<=sizeLine)
  (h:∀h' t',h'.DictOfH (tupleKind (aU prog w)) s.heap.objs.size (Ab more [])->(∀b o,s.heap.get? b=some o->h'.get? b=some o)->Q (.ref s.heap.objs.size) { s with heap:=h',toks:=t' }) :
  wpAny (model prog w) A (call (.type "dict") [.ref l]) Q E s:=by
 refine callType_codes (Q₁:=λobj s₁=>obj=.ref s.heap.objs.size/\s₁={ s with heap:=s.heap.push { cls:=.type "dict",data:=.dict #[] } }) F.kt_called_dict (F.kt_typeCall_dict_1 _) F.entry_dict_init (kt_code_dict_new _ ⟨rfl,rfl⟩) ?_;rintro obj s₁ ⟨rfl,rfl⟩;have yw:(s.heap.push { cls:=.type "dict",data:=.dict #[] }).DictOfH (tupleKind (aU prog w)) s.heap.objs.size []:=Heap.DictOfH.new s.heap;have l0:=bS { cls:=.type "dict",data:=.dict #[] } hx;refine⟨yw.typeIs,F.args_dict_init_2 _ _,?_⟩;unfold Builtin.«dict.__init__» Builtin.Dict.selfAndRest;refine aJ (aJ (wpAny_notOrdered_dict yw.typeIs (aZ ?_)));show wpAny _ _ (Builtin.Dict.updateFrom "dict.__init__" s.heap.objs.size (.ref l) [] .none) _ _ _;unfold Builtin.Dict.updateFrom;refine aJ (mj (T := "list") ⟨_,l0,rfl⟩ ?_);rw [av xK];refine aJ (mZ l0 hh λh1 t1 k1=>?_);refine aJ (wpAny_rule ?_);have l1:=k1 _ _ l0;refine aJ (kP ⟨_,l1,rfl,_,rfl⟩ ?_);have k2:∀b o,s.heap.get? b=some o->(h1.push { cls:=.type "list_iterator",data:=.fields #[.ref l,.int 0 0] }).get? b=some o:=λb o q=>bS _ (k1 _ _ (bS _ q));refine aZ ⟨mn dZ _,Gx (A:=A.in1) (l:=l) (items:=items) (show A.in1.handled=none from hh) (show A.in1.units+1 < cLine by rw [Around.in1_units];omega) more 0 _ [] _ _ (by rw [hi,mq]) ?_ ⟨_,cV _ rfl,rfl,rfl⟩ ⟨_,k2 _ _ hx,rfl,n,rfl⟩ (λm kv e=>?_) (by simpa using hz) λh' t' hd k3=>?_⟩
 .exact uR yw (λo q=>bS _ (k1 _ _ q)) λb o _ q=>bS _ (k1 _ _ q)
 .obtain⟨u,e1,e2⟩:=hp m kv e;exact⟨u,by rw [mq];exact e1,e2.keep λb o _ q=>k2 b o q⟩
 refine⟨rfl,h h' t' hd λb o q=>k3 b o (bM (ba q)) ?_ (k2 b o q)⟩;have:=ba (k1 _ _ (bS { cls:=.type "dict",data:=.dict #[] } q));exact bM this
end
def lZ (kvs bf:List (List aI×V)):List (List aI×V):=kvs.foldl (λa p=>bj a p.1 p.2) bf
theorem sj {H:Hp}:∀{kvs:List (List aI×V)}{vs:List (List aI×Addr×Value)}{bf:List (List aI×V)}{Er:List (List aI×Addr×Value)},KT H kvs vs->KT H bf Er->KT H (lZ kvs bf) (Ab vs Er)
 | _,_,_,_,.nil,h=>h
 | _,_,_,_,.cons (a:=p) (b:=q) r t,h=>by
  obtain⟨e,hb,rv⟩:=r;show KT H (lZ _ (bj _ p.1 p.2)) (Ab _ (storedH _ q.1 q.2.1 q.2.2));rw [<-e];exact sj t (h.put p.1 hb rv)
theorem sk:∀(kvs bf:List (List aI×V)),(lZ kvs bf).length<=bf.length+kvs.length
 | [],bf=>by simp [lZ]
 | p::r,bf=>by
  have:=sk r (bj bf p.1 p.2);have:=dS bf p.1 p.2;show (lZ r (bj bf p.1 p.2)).length<=_;rw [cX];omega
section
variable {X:Cx}{ah:List (Addr×Obj)}{σ:St}{H:Hp}{s:Shared}
abbrev Ln (K:aV)(H:Hp)(t:Addr)(kv:List aI×V):Prop:=∃b,aW K H t [.ref b,kv.2]/\H b=some (.tup (kv.1.map kV))
theorem rP (I:Inv X ah σ H s):∀{ts:List Addr}{kvs:List (List aI×V)}{aL:List Value},Paired (Ln X.K H) ts kvs->aT (ts.map V.ref) aL ->
  ∃vs:List (List aI×Addr×Value),KT H kvs vs/\Paired (λu kv=>jQ X.prog X.w s.heap u kv) aL vs
 | [],_,_,.nil,r=>by
  rw [jb] at r;cases r;exact⟨[],.nil,.nil⟩
 | t::ts,kv::kvs,_,.cons h p,r=>by
  rw [bu] at r;cases r with
  | cons r1 r2 =>
   obtain⟨vs,e1,e2⟩:=rP I p r2;obtain⟨b,h0,hb⟩:=h;obtain⟨aL,rv,⟨o,h1,h2,n,h3⟩,_⟩:=I.tuple h0;obtain⟨u1,u2,rfl,q1,q2⟩:=vals2 rv;cases (show u1=Value.ref b from q1);exact⟨(kv.1,b,u2)::vs,.cons ⟨rfl,hb,q2⟩ e1,.cons ⟨t,n,o,r1,kA I.bQ hb,h1,h2,h3⟩ e2⟩
def wM (hc:X.calm=true)(hu:X.A.units+2 < cLine):eZ X (.type "dict") (λxs H Q=>∃a ts kvs,xs=[.ref a]/\H a=some (.lst (ts.map V.ref))/\Paired (Ln X.K H) ts kvs/\∀d,H d=none->Q (.ref d) (upd H d (.dT (lZ kvs [])))):=by
 intro ah s σ H xs us Q I r h;obtain⟨a,ts,kvs,rfl,e,p,q⟩:=h;obtain⟨u,rfl,rx⟩:=vals1 r;cases (show u=Value.ref a from rx);obtain⟨z,aL,n,rv,ho⟩:=(show bY X.prog X.w H s.heap a (.lst _) from I.bQ a _ e);obtain⟨vs,r1,r2⟩:=rP I p rv;have l1:=a9 r2;have l2:=a9 r1;have l3:=a9 p;rw [aB] at z;refine oz (I.ok.hd hc) hu ho (by simpa using l1) (λm kv em=>?_) ∅ λh' t' hd kk=>?_
 .obtain⟨u,e1,e2⟩:=Paired.at_ r2 m kv em;exact⟨u,by simpa using e1,e2⟩
 have fr:=I.bQ.fresh (aF s.heap.objs.size);have new:bY X.prog X.w (upd H s.heap.objs.size (.dT (lZ kvs []))) h' s.heap.objs.size (.dT (lZ kvs [])):=by
  obtain⟨o,es,ep,hq,h2,h3,h4,_,h5⟩:=hd;refine⟨?_,?_,_,(sj r1 .nil).keeps λc ys ec=>?_,o,es,ep,hq,h2,h3,h4,h5⟩
  .have:=sk kvs [];simp at this;omega
  .have:=I.big;exact i3.mpr (iZ this)
  rw [ai (ao ec fr)];exact ec
 exact⟨.ref s.heap.objs.size,_,I.laid (t':=t') kk (aF _) new,rfl,q _ fr⟩
end
open PySem M11
def Bs {K:aV}{H:Hp}{bg D:Addr}{ts:List Addr}{cf:List Be}{σ:St}{x1 x2 x3 x4:Str}{Qp:Hp->Prop}(hb:aH K H bg (ts.map V.ref))(K9:Paired (λt (b:Be)=>aW K H t [.str b.1,.str b.2.1,.int (b.2.2.1:Int),.int (b.2.2.2:Int)]) ts cf)(bc:cf.length<=900000)(hD:H D=none)
  (q:∀us H2,aC H H2->H2 D=some (.lst (us.map V.ref))->Paired (λu (b:Be)=>∃v,Ln K H2 u ([Sum.inr b.1,Sum.inr b.2.1],.ref v)) us cf->Qp H2) :
  ∃W:Nat->Nat->List V->St->Hp->Prop,(∃m,W 0 m [] (dO [x1,x2,x3,x4] [] σ) (upd H D (.lst []))) /\
 ∀i m ys σ' H,W i m ys σ' H->((j5 K bg).stop i H/\Qp H)\/((j5 K bg).go i H/\∃m',m' < m/\∀x H',(j5 K bg).mh i H x H'->Bc K 4 (jA (dM 0) (jA (dM 1) (jA (dM 2) (jA (dM 3) DY)))) x σ' H' λσ2 H2=>ix σ2 H2 λb H3 =>
  if b=true then qT (fq (qT (fq (fR 0) (fq (fR 1) pF))) (fq (qT (fq (fR 2) (fq (fR 3) pF))) pF)) σ2 H3 λy H4=>H4 D=some (.lst ys)/\ys.length < sizeLine/\W (i+1) m' (ys++[y]) σ2 (upd H4 D (.lst (ys++[y]))) else W (i+1) m' ys σ2 H3):=by
 have ll:=a9 K9;refine bT (xs:=ts.map V.ref) (λi ys σ2 H2=>∃us:List Addr,ys=us.map V.ref/\us.length=i/\Paired (λu (b:Be)=>∃v,Ln K H2 u ([Sum.inr b.1,Sum.inr b.2.1],.ref v)) us (cf.take i)/\(∃y0 y1 y2 y3,σ2=[y0,y1,y2,y3])/\aC H H2/\H2 D=some (.lst ys))
  ⟨[],rfl,rfl,.nil,⟨none,none,none,none,rfl⟩,af hD _,ae⟩ (λi ys σ2 H2 _ h=>?_) (λi x ys σ2 H2 ex h=>?_) (λys σ2 H2 h=>?_)
 .obtain⟨_,_,_,_,_,sm,_⟩:=h;exact sm.seq hb
 .obtain⟨us,rfl,hu,hp,⟨y0,y1,y2,y3,rfl⟩,sm,hd⟩:=h;rw [bo] at ex;obtain⟨r,er,rfl⟩:=cg.mp ex;have lr:=(bA.mp er).1;obtain⟨b,e1⟩:∃b,cf[i]?=some b:=⟨cf[i]'∅,cQ ∅⟩;obtain⟨r',Kj,v1⟩:=Paired.at_ K9 i b e1;rw [er] at Kj;cases Kj;have li:=(bA.mp e1).1;refine⟨r,_,rfl,sm.tup v1,rfl,_,_,rfl,_,_,rfl,_,_,rfl,_,_,rfl,rfl,?_⟩;refine vb ?_;refine⟨_,rfl,_,rfl,gE,λk hk=>⟨_,rfl,_,rfl,gE,λv hv=>⟨gE,λu UZ=>?_⟩⟩⟩;have s3:=(af hk (.tup [V.str b.1,V.str b.2.1])).trans ((af hv (.tup [V.int (b.2.2.1:Int),V.int (b.2.2.2:Int)])).trans (af UZ (.tup [.ref k,.ref v])));have ek:=((af hv (.tup [V.int (b.2.2.1:Int),V.int (b.2.2.2:Int)])).trans (af UZ (.tup [.ref k,.ref v]))) k _ ae;have eu:aW K (upd (upd (upd H2 k (.tup [V.str b.1,V.str b.2.1])) v (.tup [V.int (b.2.2.1:Int),V.int (b.2.2.2:Int)])) u (.tup [.ref k,.ref v])) u [.ref k,.ref v]:=aW.of ae;generalize upd (upd (upd H2 k (.tup [V.str b.1,V.str b.2.1])) v (.tup [V.int (b.2.2.1:Int),V.int (b.2.2.2:Int)])) u (.tup [.ref k,.ref v])=H4 at s3 ek eu;have xj:=s3 _ _ hd;refine⟨xj,bF (by rw [aB];omega),us++[u],by rw [bw];rfl,by rw [cu,hu];rfl,?_,⟨_,_,_,_,rfl⟩,?_,ae⟩
  .rw [cP,e1];have kD:k≠D:=λz=>by rw [z,xj] at ek;cases ek
   refine fj (Paired.gy hp λu' b' a8=>?_) ⟨v,k,aN xj eu,by rw [ai kD];exact ek⟩;obtain⟨v',bb,p1,p2⟩:=a8;exact⟨v',bb,aN xj (s3.tup p1),by rw [ai (λz=>by rw [z,hd] at p2;cases p2)];exact s3 _ _ p2⟩
  intro c o hc;rw [ai (λz=>by rw [z,hD] at hc;cases hc)];exact s3 _ _ (sm c o hc)
 obtain⟨us,rfl,hu,hp,_,sm,hd⟩:=h;rw [aB,ll,cU] at hp;exact q us H2 sm hd hp
theorem CV {K:aV}{H:Hp}:∀{us:List Addr}{cf:List Be},Paired (λu (b:Be)=>∃v,Ln K H u ([Sum.inr b.1,Sum.inr b.2.1],.ref v)) us cf->∃kvs,Paired (Ln K H) us kvs
 | _,_,.nil=>⟨[],.nil⟩
 | _,_,.cons ⟨v,h⟩ t=>let ⟨kvs,p⟩:=CV t;⟨_::kvs,.cons h p⟩
end L2
namespace fh
open PySem L2 M11
def Tab.s2 {T T1 T2:Addr}{p p1 p2:Pos}{q q1 q2:Str}{H H':Hp}(h:Tab T p q H)(s:j3 T1 T2 H H')(t1:Tab T1 p1 q1 H)(t2:Tab T2 p2 q2 H)(n1:T≠T1)(n2:T≠T2):Tab T p q H':=by
 obtain⟨ps,a,b,c⟩:=h;obtain⟨OG,b1,_⟩:=t1;obtain⟨Uq,b2,_⟩:=t2;refine⟨ps,s _ _ n1 n2 a,b,c.imp id ?_⟩;rintro⟨c',e,g⟩;exact⟨c',e,s _ _ (λz=>by rw [z,b1] at g;cases g) (λz=>by rw [z,b2] at g;cases g) g⟩
def jq {T a C dx:Addr}{pos:Pos}{qu:Str}{H:Hp}{fs:List (Str×V)}{o:HO}(h:Tab T pos qu H)(ha:H a=some (.ins C dx fs)):Tab T pos qu (upd H a o):=by
 obtain⟨ps,p,r,c⟩:=h;refine⟨ps,by rw [ai (λz=>by rw [z,ha] at p;cases p)];exact p,r,c.imp id ?_⟩;rintro⟨c',e,g⟩;exact⟨c',e,by rw [ai (λz=>by rw [z,ha] at g;cases g)];exact g⟩
def Kp (H H':Hp):Prop:=∀b o,H b=some o->(∀ps,o≠.qR ps)->H' b=some o
def Kp.trans {H H1 H2:Hp}(a:Kp H H1)(b:Kp H1 H2):Kp H H2:=λc o h n=>b c o (a c o h n) n
def Kp.of {H H':Hp}(s:aC H H'):Kp H H':=λb o h _=>s b o h
def Kp.of2 {T1 T2:Addr}{p1 p2:Pos}{q1 q2:Str}{H H':Hp}(s:j3 T1 T2 H H')(t1:Tab T1 p1 q1 H)(t2:Tab T2 p2 q2 H):Kp H H':=λc o hc hn=>by
 obtain⟨OG,b1,_⟩:=t1;obtain⟨Uq,b2,_⟩:=t2;exact s c o (λz=>by rw [z,b1] at hc;cases hc;exact hn _ rfl) (λz=>by rw [z,b2] at hc;cases hc;exact hn _ rfl) hc
section
theorem Kp.lst {H H':Hp}(k:Kp H H'){a:Addr}{xs:List V}(h:H a=some (.lst xs)):H' a=some (.lst xs):=k a _ h (λ_ z=>by cases z)
def Kp.tup {H H':Hp}(k:Kp H H'){a:Addr}{xs:List V}(h:aW K H a xs):aW K H' a xs:=by
 rcases h with (h | ⟨u,h⟩) | h
 .exact .inl (.inl (k _ _ h (λ_ z=>by cases z)))
 .exact .inl (.inr ⟨u,k _ _ h (λ_ z=>by cases z)⟩)
 exact .inr h
def Kp.seq {H H':Hp}(k:Kp H H'){a:Addr}{xs:List V}(h:aH K H a xs):aH K H' a xs:=by
 rcases h with (h | ⟨u,h⟩) | h
 .exact .inl (.inl (k _ _ h (λ_ z=>by cases z)))
 .exact .inl (.inr ⟨u,k _ _ h (λ_ z=>by cases z)⟩)
 exact .inr h
theorem Kp.aa {H H':Hp}(k:Kp H H'){rs:List Addr}{aa:List au}(h:aR K H rs aa):aR K H' rs aa:=h.keep λ_ _ z=>k.tup z
abbrev xZ:Stmt:=MD W4 0
structure LC (K:aV)(C:Addr):Prop where
 cls:BJ K C
 a1:dw K C "rules"
 a2:dw K C "empty"
 a3:dw K C "least"
 a4:dw K C "hollow"
 a5:dw K C "beginnings"
structure B2 (C3 T1 T3:Addr)(H0 H:Hp)(a dx:Addr)(fs:List (Str×V)):Prop where
 sm:j3 T1 T3 H0 H
 ia:H a=some (.ins C3 dx fs)
 fa:H0 a=none
 t1:Tab T1 p6.2.2.2 w_ H
 t3:Tab T3 posB EU H
 o1:Tab T1 p6.2.2.2 w_ H0
 o3:Tab T3 posB EU H0
def B2.kp {C3 T1 T3 a dx:Addr}{H0 H:Hp}{fs:List (Str×V)}(h:B2 C3 T1 T3 H0 H a dx fs):Kp H0 H:=Kp.of2 h.sm h.o1 h.o3
def B2.set {C3 T1 T3 a dx:Addr}{H0 H:Hp}{fs:List (Str×V)}(h:B2 C3 T1 T3 H0 H a dx fs)(E2:List (Str×V)):B2 C3 T1 T3 H0 (upd H a (.ins C3 dx E2)) a dx E2 :=
 ⟨λb o n1 n3 hb=>by rw [ai (λz=>by rw [z,h.fa] at hb;cases hb)];exact h.sm b o n1 n3 hb,ae,h.fa,jq h.t1 h.ia,jq h.t3 h.ia,h.o1,h.o3⟩
def B2.next {C3 T1 T3 a dx:Addr}{H0 H H':Hp}{fs:List (Str×V)}(h:B2 C3 T1 T3 H0 H a dx fs)(s:aC H H'):B2 C3 T1 T3 H0 H' a dx fs :=
 ⟨λb o n1 n3 hb=>s _ _ (h.sm b o n1 n3 hb),s _ _ h.ia,h.fa,h.t1.same s,h.t3.same s,h.o1,h.o3⟩
def B2.Mr {C3 T1 T3 a dx:Addr}{H0 H H':Hp}{fs:List (Str×V)}(h:B2 C3 T1 T3 H0 H a dx fs)(s:j3 T1 T3 H H')(t1:Tab T1 p6.2.2.2 w_ H')(t3:Tab T3 posB EU H'):B2 C3 T1 T3 H0 H' a dx fs :=
 ⟨λb o n1 n3 hb=>s _ _ n1 n3 (h.sm b o n1 n3 hb),Kp.of2 s h.t1 h.t3 _ _ h.ia (λ_ z=>by cases z),h.fa,t1,t3,h.o1,h.o3⟩
def zL (K:aV)(C C3 T1 T3:Addr):Sp:=λvs H Q _=>∃(H0 Hb:Hp)(a dx R x e d bg:Addr)(rs:List Addr)(aa:List au)(kE:List (aI×V))(aX:List (Str×Nat))(ps:List (Str×Addr))(cf:List Be),vs=[.ref a,.ref R,.ref x]/\aC H0 H/\H0 a=none/\H a=some (.ins C3 dx [])/\aH K H0 R (rs.map V.ref)/\aR K H0 rs aa /\
 aa.length < 64/\(∀ru∈aa,ru.2.length<=8)/\(∀g,du M11.bl aa (vc aa) g->gM M11.bl aa g->∀h∈hd aa,∃n,g h=some n/\n<=60)/\rh K C Hb H0 x e d bg kE aX ps cf/\u4 aa aX/\cf.length<=80000/\Tab T1 p6.2.2.2 w_ H0/\Tab T3 posB EU H0/\T1≠T3 /\
 ∀H',j3 T1 T3 H0 H'->Tab T1 p6.2.2.2 w_ H'->Tab T3 posB EU H'->Q .eJ H'
def Fn:aK ["self","rules","begin_table"] ["self","rules","begin_table"] (az xZ):=iL rfl rfl rfl rfl nofun
def Di {C C3 T1 T3:Addr}(F:hZ K "__init__" "LeastTrees.__init__" xZ f fd)(T:Txt mg)(B:BC K C)(L:LC K C3)(GL:aE P w K mg base 4 "least_by_part" ["rules"] (mN K T1 T3))(GE:aE P w K mg base 4 "empty_by_name" ["rules","empties"] (rJ K)) :
  bI P w K mg base e_ 5 f fd ["self","rules","begin_table"] (zL K C C3 T1 T3):=by
 refine F.ok Fn (λvs H Q E h=>?_) (λdN A outer s H vs Q E hr h=>?_)
 .obtain⟨H0,Hb,a,dx,R,x,e,d,bg,rs,aa,kE,aX,ps,cf,rfl,_⟩:=h;rfl
 obtain⟨H0,Hb,a,dx,R,x,e,d,bg,rs,aa,kE,aX,ps,cf,rfl,s0,f0,ea,hR,cR,bc,h8,DQ,S,emp,Jz,t1,t3,nT,q⟩:=h;have hu:=nW (Nat.add_le_add_left (by decide:2<=64) _) hr.units;refine⟨_,ak (fC (pv 0) (pv 1) rfl)
  (ak (fC (pv 0) (df (pv 2) rfl) rfl)
  (ak (fC (pv 0) (bE GL hr rfl (ab (pv 1) aj)) rfl)
  (ak (fC (pv 0) (bE GE hr rfl (ab (pv 1) (ab (df (pv 2) rfl) aj))) rfl)
  (aq (fC (pv 0) (a7 (wM rfl hu) rfl T.ve eP (ab (bG ["name","word","number","place"] [] rfl (bq (df (pv 2) rfl)) (br rfl rfl) nofun rfl nofun
   (λ_ _ _ _ _=>iS (n:=4) K rfl (aD (ay (i:=0) (show (["name","word","number","place"]:List Str).Nodup by decide +kernel) rfl (bJ rfl)) (aD (ay (i:=1) (show (["name","word","number","place"]:List Str).Nodup by decide +kernel) rfl (bJ rfl)) (aD (ay (i:=2) (show (["name","word","number","place"]:List Str).Nodup by decide +kernel) rfl (bJ rfl)) (aD (ay (i:=3) (show (["name","word","number","place"]:List Str).Nodup by decide +kernel) rfl (bJ rfl)) cb))))) (λ_ _ _ _ _=>b_)
   (λ_ _ _ _ _=>aP (ab (aP (ab (pv 0) (ab (pv 1) aj))) (ab (aP (ab (pv 2) (ab (pv 3) aj))) aj)))) aj)) rfl))))),?_⟩
 nofun
 have S0:B2 C3 T1 T3 H0 H a dx []:=⟨λb o _ _ hb=>s0 b o hb,ea,f0,t1.same s0,t3.same s0,t1,t3⟩;obtain⟨e1,te,⟨Ll,Lb,O2,Yn⟩,ee1,evb,_⟩:=S.em;obtain⟨aad,aaa,NG,l1,l2,_⟩:=S.ia;rw [O2] at NG;cases NG;obtain⟨tb,ebg,K9⟩:=S.lb;have lets:=emp.len;refine⟨_,rfl,_,rfl,a,C3,dx,[],rfl,S0.ia,L.cls,L.a1,(by show 0 < 1000;decide),?_⟩;have S1:=S0.set (c_ "rules" (.ref R) []);generalize OT:c_ "rules" (.ref R) []=O0 at S1;generalize upd H a (.ins C3 dx O0)=H1 at S1;have x1:H1 x=some (.ins C Ll Lb):=S1.kp _ _ O2 (λ_ z=>by cases z);refine⟨_,rfl,x,C,Ll,Lb,_,rfl,x1,B.cls,B.a2,l1,_,rfl,a,C3,dx,O0,rfl,S1.ia,L.cls,L.a2,(by rw [<-OT];show 1 < 1000;decide),?_⟩;have S2:=S1.set (c_ "empty" (.ref e) O0);generalize Np:c_ "empty" (.ref e) O0=qZ at S2;generalize upd H1 a (.ins C3 dx qZ)=H2 at S2;refine⟨_,rfl,R,rs,aa,rfl,S2.kp.seq hR,S2.kp.aa cR,bc,h8,DQ,S2.t1,S2.t3,nT,λdl kl H3 fdl s3 w5 WK edl kdl=>?_⟩;have S3:=S2.Mr s3 w5 WK;refine⟨_,rfl,a,C3,dx,qZ,rfl,S3.ia,L.cls,L.a3,(by rw [<-Np,<-OT];show 2 < 1000;decide),?_⟩;have S4:=S3.set (c_ "least" (.ref dl) qZ);generalize Vm:c_ "least" (.ref dl) qZ=Lc at S4;generalize upd H3 a (.ins C3 dx Lc)=H4 at S4;have x4:H4 x=some (.ins C Ll Lb):=S4.kp _ _ O2 (λ_ z=>by cases z);refine⟨_,rfl,_,rfl,x,C,Ll,Lb,_,rfl,x4,B.cls,B.a1,Yn,R,e1,rs,te,aa,aX,rfl,S4.kp.seq hR,S4.kp.aa cR,∅,h8,aH.of (S4.kp.lst ee1),evb.keep λ_ _ z=>S4.kp.tup z,emp,∅,λdh kh H5 fdh s5 edh kdh=>?_⟩;have S5:=S4.next s5;refine⟨_,rfl,a,C3,dx,Lc,rfl,S5.ia,L.cls,L.a4,(by rw [<-Vm,<-Np,<-OT];show 3 < 1000;decide),?_⟩;have S6:=S5.set (c_ "hollow" (.ref dh) Lc);generalize Zj:c_ "hollow" (.ref dh) Lc=xl at S6;generalize upd H5 a (.ins C3 dx xl)=H6 at S6;have x6:H6 x=some (.ins C Ll Lb):=S6.kp _ _ O2 (λ_ z=>by cases z);have b6:=S6.kp.lst ebg;have v6:Paired (λt (b:Be)=>aW K H6 t [.str b.1,.str b.2.1,.int (b.2.2.1:Int),.int (b.2.2.2:Int)]) tb cf:=Paired.gy K9 λ_ _ z=>S6.kp.tup z;refine⟨_,rfl,x,C,Ll,Lb,_,rfl,x6,B.cls,B.a3,l2,bg,rfl,⟨_,aH.of b6⟩,λD7 Sa=>Bs (aH.of b6) v6 ∅ Sa λus H7 s7 e7 p7=>?_⟩;obtain⟨kvs,pk⟩:=CV p7;refine⟨D7,us,kvs,rfl,e7,pk,λdb A9=>?_⟩;have S8:=(S6.next s7).next (af A9 (.dT (lZ kvs [])));refine⟨_,rfl,a,C3,dx,xl,rfl,S8.ia,L.cls,L.a5,(by rw [<-Zj,<-Vm,<-Np,<-OT];show 4 < 1000;decide),?_⟩;have S9:=S8.set (c_ "beginnings" (.ref db) xl);exact q _ S9.sm S9.t1 S9.t3
structure EI (K:aV)(x qual:Str)(st:Stmt)(f:Addr)(fd:FuncData):Prop where
 ex:∃(oc:Value)(od:Option Addr)(kV doc pm:Value)(an:Option Addr)(dN ct:Value)(vL:Array (Option Value))(T:Addr)(o:Obj) (n:Nat),
  fd=PySem.W.fnOf x qual (cS st) (bV st) (az st) (.ref T) kV doc pm an dN ct/\K.lookup f=some ⟨oc,od,.func fd,vL⟩/\PySem.W.codeIn K dN qual=true/\K.lookup T=some o/\o.data=.seq #[.none] n
 kp:PySem.W.keepIn K (.ref f)=true
def EI.ok {x qual:Str}{st:Stmt}{f:Addr}{fd:FuncData}{N ps:List Str}{k:Nat}{sp:Sp}(F:EI K x qual st f fd)(S:aK N ps (az st))(len:∀vs H Q E,sp vs H Q E->vs.length=ps.length)
  (iE:∀(dN:Value)(A:Around)(outer:List Env)(s:Shared)(H:Hp)(vs:List V)(Q:VK)(E:XK),dX k (A.deeper (PyProof.Rows.envOfC qual (az st) s.heap.objs.size f dN))->sp vs H Q E ->
   ∃t,zg (nE e_ P w K mg base N qual (az st) f dN A outer s H E).AS (bV st) t/\t { nx:=λ_ H'=>Q .eJ H',rt:=Q } (start N vs) H):bI P w K mg base e_ (k+1) f fd ps sp:=by
 obtain⟨oc,od,kV,doc,pm,an,dN,ct,vL,T,o,n,rfl,lk,uP,_⟩:=F.ex;refine Eb lk uP S len λA outer s H vs Q E hr xf=>?_;obtain⟨t,h,q⟩:=iE dN A outer s H vs Q E hr xf;exact⟨t,h.AS,q⟩
def DW {f:Addr}{fd:FuncData}(F:EI K "__init__" "Grammar.__init__" ui f fd):Binds K fd ["self","rules","strengths"] []:=by
 obtain⟨oc,od,kV,doc,pm,an,dN,ct,vL,T,o,n,rfl,lk,uP,lT,dT⟩:=F.ex;intro s us KI hl
 match us,hl with
 | [u1,u2,u3],_=>exact BindsTo.of_defaults rfl (KI T o lT) dT rfl rfl
structure GC (K:aV)(C:Addr):Prop where
 cls:BJ K C
 a1:dw K C "rules"
 a2:dw K C "strengths"
 a3:dw K C "begin_table"
 a4:dw K C "standings"
 a5:dw K C "small_trees"
def StrIn (K:aV)(H:Hp)(sv:V)(ss:List Addr)(str:List au):Prop:=(sv=.eJ/\ss=[]/\str=[])\/∃S,sv=.ref S/\aH K H S (ss.map V.ref)/\aR K H ss str
def Ww (H0 H:Hp)(Cg g:Addr)(rs ss:List Addr)(bt:Addr):Prop:=∃gx fs R2 S2,H g=some (.ins Cg gx fs)/\fs.lookup ("rules":Str)=some (.ref R2)/\fs.lookup ("strengths":Str)=some (.ref S2)/\fs.lookup ("begin_table":Str)=some (.ref bt)/\fs.lookup ("start":Str)=none /\
 H R2=some (.lst (rs.map V.ref))/\H S2=some (.lst (ss.map V.ref))/\H0 R2=none/\H0 S2=none
def ma (T1 T2 T3:Addr)(H H':Hp):Prop:=∀b o,b≠T1->b≠T2->b≠T3->H b=some o->H' b=some o
structure xn (T1 T2 T3:Addr)(H:Hp):Prop where
 t1:Tab T1 p6.2.2.2 w_ H
 t2:Tab T2 yC.2.2.2 Hy H
 t3:Tab T3 posB EU H
 Hu:T1≠T2
 Ht:T1≠T3
 Hs:T2≠T3
theorem xn.same {T1 T2 T3:Addr}{H H':Hp}(h:xn T1 T2 T3 H)(s:aC H H'):xn T1 T2 T3 H':=⟨h.t1.same s,h.t2.same s,h.t3.same s,h.Hu,h.Ht,h.Hs⟩
def xn.Cb {T1 T2 T3 a C dx:Addr}{H:Hp}{fs:List (Str×V)}{o:HO}(h:xn T1 T2 T3 H)(ha:H a=some (.ins C dx fs)):xn T1 T2 T3 (upd H a o):=⟨jq h.t1 ha,jq h.t2 ha,jq h.t3 ha,h.Hu,h.Ht,h.Hs⟩
def Kp.Us {T1 T2 T3:Addr}{H H':Hp}(s:ma T1 T2 T3 H H')(t:xn T1 T2 T3 H):Kp H H':=λc o hc hn=>by
 obtain⟨OG,b1,_⟩:=t.t1;obtain⟨Uq,b2,_⟩:=t.t2;obtain⟨ps3,b3,_⟩:=t.t3;exact s c o (λz=>by rw [z,b1] at hc;cases hc;exact hn _ rfl) (λz=>by rw [z,b2] at hc;cases hc;exact hn _ rfl) (λz=>by rw [z,b3] at hc;cases hc;exact hn _ rfl) hc
def zM (K:aV)(Cg C T1 T2 T3:Addr):Sp:=λvs H Q _=>∃(H0:Hp)(g gx R:Addr)(sv:V)(rs ss:List Addr)(aa str:List au)(rk:Str->Nat)(b:Str->Int),vs=[.ref g,.ref R,sv]/\aC H0 H/\H0 g=none/\H g=some (.ins Cg gx [])/\aH K H0 R (rs.map V.ref)/\aR K H0 rs aa/\aa.length < 64/\(∀ru∈aa,ru.2.length<=8)/\aa≠[] /\
 StrIn K H0 sv ss str/\str.length<=1000/\(∀ru∈str,ru.2.length<=8)/\(str.flatMap (·.2)).Nodup/\Good aa rk b/\xn T1 T2 T3 H0 /\
 ∀(bt:Addr)(H':Hp),ma T1 T2 T3 H0 H'->xn T1 T2 T3 H'->Ww H0 H' Cg g rs ss bt->Q .eJ H'
def rh.Cb {C:Addr}{H0 H:Hp}{a e d bg:Addr}{kE:List (aI×V)}{aX:List (Str×Nat)}{ps:List (Str×Addr)}{cf:List Be}{g Cg gx:Addr}{fs E2:List (Str×V)}(h:rh K C H0 H a e d bg kE aX ps cf)(hg:H0 g=some (.ins Cg gx fs))(na:a≠g) :
  rh K C (upd H0 g (.ins Cg gx E2)) (upd H g (.ins Cg gx E2)) a e d bg kE aX ps cf:=by
 have Gh:=h.sm _ _ hg;have up:∀c o,c≠g->H c=some o->upd H g (.ins Cg gx E2) c=some o:=λc o n q=>by rw [ai n];exact q
 refine⟨λc o hc=>?_,?_,up _ _ (λz=>by have:=h.he;rw [z,Gh] at this;cases this) h.he,up _ _ (λz=>by have:=h.hd;rw [z,Gh] at this;cases this) h.hd,h.n1,h.n2,λp hp=>?_,?_,?_,?_⟩
 .by_cases z:c=g
  .rw [z,ae] at hc ⊢;exact hc
  rw [ai z] at hc ⊢;exact h.sm _ _ hc
 .obtain⟨dx,fs,q,r⟩:=h.ia;exact⟨dx,fs,up _ _ na q,r⟩
 .obtain⟨⟨kvs,q,r⟩,t1,t2⟩:=h.dk p hp;exact⟨⟨kvs,up _ _ (λz=>by rw [z,Gh] at q;cases q) q,r⟩,by rw [ai (λz=>by rw [z,hg] at t1;cases t1)];exact t1,t2⟩
 .obtain⟨ts,q,r⟩:=h.lb;exact⟨ts,up _ _ (λz=>by rw [z,Gh] at q;cases q) q,Paired.gy r λ_ _ z=>gi Gh z⟩
 .have t1:=h.fb;rw [ai (λz=>by rw [z,hg] at t1;cases t1)];exact t1
 obtain⟨e1,ts,⟨dx,fs,q1,q2⟩,q3,q4,q5⟩:=h.em;exact⟨e1,ts,⟨dx,fs,up _ _ na q1,q2⟩,up _ _ (λz=>by rw [z,Gh] at q3;cases q3) q3,q4.keep λ_ _ z=>gi Gh z,q5⟩
def Fq:aK ["self","rules","strengths"] ["self","rules","strengths"] (az ui):=iL rfl rfl rfl rfl nofun
def Dn {Cg C C3 T1 T2 T3 fB fL:Addr}{VH VE:FuncData}(F:EI K "__init__" "Grammar.__init__" ui f fd)(T:Txt mg)(G:GC K Cg)(GR:aE P w K mg base 6 "refuse_faults" ["rules","strengths"] (pL K T1 T2))(GS:aE P w K mg base 6 "standings_by_part" ["rules"] (He K))
  (FB:bI P w K mg base e_ 5 fB VH ["self","rules"] (zN K C))(MB:Mk K C fB)(BB:Binds K VH ["self","rules"] [])(mB:mg "BeginTable"=some (.ref C))
  (FL:bI P w K mg base e_ 5 fL VE ["self","rules","begin_table"] (zL K C C3 T1 T3))(ML:Mk K C3 fL)(BL:Binds K VE ["self","rules","begin_table"] [])(mL:mg "LeastTrees"=some (.ref C3)):bI P w K mg base e_ 7 f fd ["self","rules","strengths"] (zM K Cg C T1 T2 T3):=by
 refine F.ok Fq (λvs H Q E h=>?_) (λdN A outer s H vs Q E hr h=>?_)
 .obtain⟨H0,g,gx,R,sv,rs,ss,aa,str,rk,b,rfl,_⟩:=h;rfl
 obtain⟨H0,g,gx,R,sv,rs,ss,aa,str,rk,b,rfl,s0,f0,eg,hR,cR,bc,h8,qY,u_,Rg,M7,Rm,gd,R4,q⟩:=h;refine⟨_,ak (fC (pv 0) (a7 fJ rfl T.lst fK (ab (pv 1) aj)) rfl)
  (ak (uq (fC (pv 0) (vI (d7 (Jd (pv 2))) (bD aj) (a7 fJ rfl T.lst fK (ab (pv 2) aj))) rfl))
  (ak (cC (bE GR hr rfl (ab (df (pv 0) rfl) (ab (df (pv 0) rfl) aj))))
  (ak (fC (pv 0) (bE GS hr rfl (ab (df (pv 0) rfl) aj)) rfl)
  (ak (fC (pv 0) (uy MB FB hr rfl mB BB .nil rO (ab (df (pv 0) rfl) aj)) rfl)
  (aq (fC (pv 0) (uy ML FL hr rfl mL BL .nil rO (ab (df (pv 0) rfl) (ab (df (pv 0) rfl) aj))) rfl)))))),?_⟩
 nofun
 refine⟨_,rfl,R,_,rfl,.inl (s0.seq hR),λR2 wb=>?_⟩;have Sx:=af wb (.lst (rs.map V.ref)) _ _ eg;have oi:upd H R2 (.lst (rs.map V.ref)) R2=some (.lst (rs.map V.ref)):=ae;have Uk:=s0.trans (af wb (.lst (rs.map V.ref)));generalize upd H R2 (.lst (rs.map V.ref))=H1 at Sx oi Uk;refine⟨_,rfl,g,Cg,gx,[],rfl,Sx,G.cls,G.a1,(by show 0 < 1000;decide),?_⟩;generalize lS:c_ "rules" (.ref R2) []=qZ;have Lh:upd H1 g (.ins Cg gx qZ) R2=some (.lst (rs.map V.ref)):=by rw [ai (λz=>by rw [z,Sx] at oi;cases oi)];exact oi
 have IX:aC H0 (upd H1 g (.ins Cg gx qZ)):=λc o hc=>by rw [ai (λz=>by rw [z,f0] at hc;cases hc)];exact Uk c o hc
 have O6:upd H1 g (.ins Cg gx qZ) g=some (.ins Cg gx qZ):=ae;generalize upd H1 g (.ins Cg gx qZ)=H2 at Lh IX O6;refine⟨λσ H3=>σ=[bz g,bz R,some sv]/\∃S2 fs,aC H0 H3/\H3 g=some (.ins Cg gx fs)/\fs=c_ "strengths" (.ref S2) qZ/\H3 R2=some (.lst (rs.map V.ref))/\H3 S2=some (.lst (ss.map V.ref))/\H0 S2=none,?_,?_⟩
 .have fin:∀S2,H2 S2=none->(λH3=>∃S2 fs,aC H0 H3/\H3 g=some (.ins Cg gx fs)/\fs=c_ "strengths" (.ref S2) qZ/\H3 R2=some (.lst (rs.map V.ref))/\H3 S2=some (.lst (ss.map V.ref))/\H0 S2=none) (upd (upd H2 S2 (.lst (ss.map V.ref))) g (.ins Cg gx (c_ "strengths" (.ref S2) qZ)))/\upd H2 S2 (.lst (ss.map V.ref)) g=some (.ins Cg gx qZ):=λS2 HL=>by
   have sl:=af HL (.lst (ss.map V.ref));have eS:upd H2 S2 (.lst (ss.map V.ref)) S2=some (.lst (ss.map V.ref)):=ae;have NO:=sl _ _ O6;refine⟨⟨S2,_,λc o hc=>?_,ae,rfl,?_,?_,IX.free HL⟩,NO⟩
   .rw [ai (λz=>by rw [z,f0] at hc;cases hc)];exact sl _ _ (IX c o hc)
   .rw [ai (λz=>by rw [z,O6] at Lh;cases Lh)];exact sl _ _ Lh
   rw [ai (λz=>by rw [z,O6] at HL;cases HL)];exact eS
  rcases u_ with ⟨rfl,rfl,rfl⟩ | ⟨S,rfl,hS,xg⟩
  .refine⟨_,rfl,_,rfl,?_⟩;refine kC ?_;refine⟨qQ,λS2 HL=>?_⟩;obtain⟨x1,x2⟩:=fin S2 HL;exact⟨_,rfl,g,Cg,gx,qZ,rfl,x2,G.cls,G.a2,(by rw [<-lS];show 1 < 1000;decide),rfl,x1⟩
  refine⟨_,rfl,_,rfl,?_⟩;refine iW ?_;refine⟨_,rfl,S,_,rfl,.inl (IX.seq hS),λS2 HL=>?_⟩;obtain⟨x1,x2⟩:=fin S2 HL;exact⟨_,rfl,g,Cg,gx,qZ,rfl,x2,G.cls,G.a2,(by rw [<-lS];show 1 < 1000;decide),rfl,x1⟩
 rintro σ H3 ⟨rfl,S2,EZ,ER,NO,ow,VQ,Ee,fS2⟩;have UN:EZ.lookup ("rules":Str)=some (.ref R2):=by rw [ow,<-lS];rfl
 have OL:EZ.lookup ("strengths":Str)=some (.ref S2):=by rw [ow,<-lS];rfl
 have Ri:aR K H3 ss str:=by
  rcases u_ with ⟨_,rfl,rfl⟩ | ⟨S,_,_,xg⟩
  .exact .nil
  exact xg.same ER
 have w5:=R4.same ER;refine⟨_,rfl,g,Cg,gx,EZ,_,rfl,NO,G.cls,G.a1,UN,_,rfl,g,Cg,gx,EZ,_,rfl,NO,G.cls,G.a2,OL,R2,S2,rs,ss,aa,str,rk,b,rfl,aH.of VQ,cR.same ER,∅,h8,qY,aH.of Ee,Ri,Rg,M7,Rm,gd,w5.t1,w5.t2,w5.Hu,λH4 OB T9 T8=>?_⟩;have Ga:=Kp.of2 OB w5.t1 w5.t2;have t4:xn T1 T2 T3 H4:=⟨T9,T8,Tab.s2 w5.t3 OB w5.t1 w5.t2 w5.Ht.symm w5.Hs.symm,w5.Hu,w5.Ht,w5.Hs⟩;have S04:ma T1 T2 T3 H0 H4:=λc o n1 n2 _ hc=>OB c o n1 n2 (ER c o hc);have VT:=Ga _ _ NO (λ_ z=>by cases z);have VP:=Ga.lst VQ;have es4:=Ga.lst Ee;have Nb:aR K H4 rs aa:=Ga.aa (cR.same ER);clear T9 T8 OB w5;refine⟨_,rfl,g,Cg,gx,EZ,_,rfl,VT,G.cls,G.a1,UN,R2,rs,aa,rfl,aH.of VP,Nb,∅,h8,λds H5 fds AA=>?_⟩;have Lj:=AA _ _ VT;have er5:=AA _ _ VP;have es5:=AA _ _ es4;have Rq:=Nb.same AA;have t5:=t4.same AA;have S05:ma T1 T2 T3 H0 H5:=λc o n1 n2 n3 hc=>AA _ _ (S04 c o n1 n2 n3 hc);refine⟨_,rfl,g,Cg,gx,EZ,rfl,Lj,G.cls,G.a4,(by rw [ow,<-lS];show 2 < 1000;decide),?_⟩;generalize uN:c_ "standings" (.ref ds) EZ=xl;have Qu:∀{Hx:Hp}{fx fy:List (Str×V)},Hx g=some (.ins Cg gx fx)->ma T1 T2 T3 H0 Hx->ma T1 T2 T3 H0 (upd Hx g (.ins Cg gx fy)):=λ{Hx fx fy} hg hs c o n1 n2 n3 hc=>by
  rw [ai (λz=>by rw [z,f0] at hc;cases hc)];exact hs c o n1 n2 n3 hc
 have K1:∀{Hx:Hp}{fx fy:List (Str×V)}{b:Addr}{xs:List V},Hx g=some (.ins Cg gx fx)->Hx b=some (.lst xs)->upd Hx g (.ins Cg gx fy) b=some (.lst xs):=λ{Hx fx fy b xs} hg hb=>by
  rw [ai (λz=>by rw [z,hg] at hb;cases hb)];exact hb
 have Wt:=Qu (fy:=xl) Lj S05;have Ss:=K1 (fy:=xl) Lj er5;have VN:=K1 (fy:=xl) Lj es5;have JN:aR K (upd H5 g (.ins Cg gx xl)) rs aa:=Rq.keep λ_ _ z=>gi Lj z;have t6:xn T1 T2 T3 (upd H5 g (.ins Cg gx xl)):=t5.Cb Lj;have NM:upd H5 g (.ins Cg gx xl) g=some (.ins Cg gx xl):=ae;generalize upd H5 g (.ins Cg gx xl)=H6 at Wt Ss VN JN t6 NM;have UM:xl.lookup ("rules":Str)=some (.ref R2):=by rw [<-uN,ow,<-lS];rfl
 refine⟨_,rfl,g,Cg,gx,xl,_,rfl,NM,G.cls,G.a1,UM,λx dx hx Zq XH=>?_⟩;have sx:aC H6 (upd (upd H6 dx (.own x)) x (.ins C dx [])):=(af Zq _).trans (af (by rw [ai XH.symm];exact hx) _);refine⟨H6,x,dx,R2,rs,aa,rfl,sx,hx,ae,aH.of Ss,JN,∅,h8,λe d bg kE aX ps cf H7 S7 m7 emp _ _ beg _=>⟨rfl,?_⟩⟩;have Li:=S7.sm _ _ NM;have er7:=S7.sm _ _ Ss;have es7:=S7.sm _ _ VN;have t7:=t6.same S7.sm;have JM:=JN.same S7.sm;have S07:ma T1 T2 T3 H0 H7:=λc o n1 n2 n3 hc=>S7.sm _ _ (Wt c o n1 n2 n3 hc);refine⟨_,rfl,g,Cg,gx,xl,rfl,Li,G.cls,G.a3,(by rw [<-uN,ow,<-lS];show 3 < 1000;decide),?_⟩;generalize yK:c_ "begin_table" (.ref x) xl=yP;have Ws:=Qu (fy:=yP) Li S07;have Sr:=K1 (fy:=yP) Li er7;have VM:=K1 (fy:=yP) Li es7;have Na:aR K (upd H7 g (.ins Cg gx yP)) rs aa:=JM.keep λ_ _ z=>gi Li z;have t8:xn T1 T2 T3 (upd H7 g (.ins Cg gx yP)):=t7.Cb Li;have O5:upd H7 g (.ins Cg gx yP) g=some (.ins Cg gx yP):=ae;have B8:rh K C (upd H6 g (.ins Cg gx yP)) (upd H7 g (.ins Cg gx yP)) x e d bg kE aX ps cf:=S7.Cb NM (λz=>by rw [z,NM] at hx;cases hx);generalize upd H7 g (.ins Cg gx yP)=H8 at Ws Sr VM Na t8 O5 B8;have QP:yP.lookup ("rules":Str)=some (.ref R2):=by rw [<-yK,<-uN,ow,<-lS];rfl
 have Yp:yP.lookup ("begin_table":Str)=some (.ref x):=by rw [<-yK,<-uN,ow,<-lS];rfl
 refine⟨_,rfl,g,Cg,gx,yP,_,rfl,O5,G.cls,G.a1,QP,_,rfl,g,Cg,gx,yP,_,rfl,O5,G.cls,G.a3,Yp,λy dy hy Zp XG=>?_⟩;have sy:aC H8 (upd (upd H8 dy (.own y)) y (.ins C3 dy [])):=(af Zp _).trans (af (by rw [ai XG.symm];exact hy) _);have Jz:=beg.len ∅ h8;refine⟨H8,_,y,dy,R2,x,e,d,bg,rs,aa,kE,aX,ps,cf,rfl,sy,hy,ae,aH.of Sr,Na,bc,h8,gd.least,B8,emp,Jz,t8.t1,t8.t3,t8.Ht,λH9 P6 PX WI=>⟨rfl,?_⟩⟩;have JA:=Kp.of2 P6 t8.t1 t8.t3;have NL:=JA _ _ O5 (λ_ z=>by cases z);have er9:=JA.lst Sr;have es9:=JA.lst VM;have t9:xn T1 T2 T3 H9:=⟨PX,Tab.s2 t8.t2 P6 t8.t1 t8.t3 t8.Hu.symm t8.Hs,WI,t8.Hu,t8.Ht,t8.Hs⟩;have S09:ma T1 T2 T3 H0 H9:=λc o n1 n2 n3 hc=>P6 _ _ n1 n3 (Ws c o n1 n2 n3 hc);refine⟨_,rfl,g,Cg,gx,yP,rfl,NL,G.cls,G.a5,(by rw [<-yK,<-uN,ow,<-lS];show 4 < 1000;decide),?_⟩;refine q x _ (Qu NL S09) (t9.Cb NL) ⟨gx,_,R2,S2,ae,?_,?_,?_,?_,K1 NL er9,K1 NL es9,s0.free wb,fS2⟩
 .rw [<-yK,<-uN,ow,<-lS];rfl
 .rw [<-yK,<-uN,ow,<-lS];rfl
 .rw [<-yK,<-uN,ow,<-lS];rfl
 rw [<-yK,<-uN,ow,<-lS];rfl
end
abbrev CH:Stmt:=top 51
abbrev ub:Stmt:=top 52
abbrev CA:Stmt:=top 53
section
def Cr (K:aV):Sp:=λvs H Q _=>∃(a:Addr)(ns:List Int) (k:Nat),vs=[.ref a,.int (k:Int)]/\aH K H a (ns.map V.int)/\ns.length<=1000/\∀n:Int,Q (.int n) H
def IJ:aK ["_law_script","_law_k"] ["_law_script","_law_k"] (az CH):=iL rfl rfl rfl rfl nofun
def F1 (F:hZ K "_law_cell_at" "_law_cell_at" CH f fd)(T:Txt mg):bI P w K mg base e_ 1 f fd ["_law_script","_law_k"] (Cr K):=by
 refine F.ok IJ (λvs H Q E h=>?_) (λdN A outer s H vs Q E hr h=>?_)
 .obtain⟨a,ns,k,rfl,_⟩:=h;rfl
 obtain⟨a,ns,k,rfl,hS,hn,q⟩:=h;refine⟨_,ak (cW (bU pX (pv 1) (bR cI rfl T.len gP (ab (pv 0) aj)) (bL _)) (aq (a_ (aO aS (pv 0) (pv 1) (λ_ _=>rfl)))) bB) (aq (a_ ar)),?_⟩;refine⟨_,rfl,_,rfl,a,_,rfl,.inl hS,_,_,rfl,rfl,_,rfl,?_⟩;refine dj (λcc=>?_) (λ_=>q 0);have lt:=cK cc;rw [aB] at lt;have lt':k < ns.length:=by omega
 refine⟨_,rfl,_,rfl,a,_,_,.int ns[k],rfl,rfl,hS,cw (by rw [bo,cQ lt'];rfl),q _⟩
def pJ:Sp:=λvs H Q _=>∃(c:Int) (m:Nat),vs=[.int c,.int (m:Int)]/\m<=100/\∀D ns H',H D=none->aC H H'->H' D=some (.lst (List.map V.int ns))->ns.length=m->(∀n∈ns,(0:Int)<=n/\n < 4294967311)->Q (.ref D) H'
def jr:aK ["_law_cell","_law_many","_law_found","_law_number","_law_k"] ["_law_cell","_law_many"] (az ub):=iL rfl rfl rfl rfl nofun
def SO (xs:List V):ff xs (some 1) none=xs.drop 1:=by
 have e1:HT.jU xs.length 0 (some 1)=min 1 xs.length:=HT.uf _ _ 1;have e2:HT.jU xs.length xs.length none=xs.length:=rfl;unfold ff;rw [e1,e2];cases xs with
 | nil=>rfl
 | cons x r=>simp
def AK (F:hZ K "_law_stream" "_law_stream" ub f fd)(T:Txt mg):bI P w K mg base e_ 1 f fd ["_law_cell","_law_many"] pJ:=by
 refine F.ok jr (λvs H Q E h=>?_) (λdN A outer s H vs Q E hr h=>?_)
 .obtain⟨c,m,rfl,_⟩:=h;rfl
 obtain⟨c,m,rfl,hm,q⟩:=h;refine⟨_,ak (aG (i:=2) jr.nd rfl (bJ rfl) (bD aj))
  (ak (aG (i:=3) jr.nd rfl (bJ rfl) (bh dH (bh eU (pv 0) ar) ar))
  (ak (b8 cx rfl (iz rfl T.ES (ab (bh dH (pv 1) ar) aj)) (ay (i:=4) jr.nd rfl (bJ rfl))
   (ak (aG (i:=3) jr.nd rfl (bJ rfl) (bh eU (bh dH (bh dH (bh yl (pv 3) (pv 3)) (bh yl ar (pv 3))) (pv 4)) ar))
   (aq (cC (dJ gC iq ir cq (pv 2) (ab (pv 3) aj))))))
  (aq (a_ (de gH (pv 2) (cY ar) gK))))),?_⟩
 refine⟨qQ,λl hl=>?_⟩;refine⟨_,rfl,_,_,rfl,rfl,(by show (0:Int) < 4294967311;decide),_,_,rfl,rfl,?_⟩;refine⟨_,rfl,_,_,rfl,rfl,_,rfl,∅,∅,?_⟩;have e0:((m:Int)+1).toNat=m+1:=by omega
 rw [e0];have YE:(0:Int)<=c % 4294967311+48271/\c % 4294967311+48271 < 8589934592:=by omega
 refine jN (n:=m+1) (λi σ H2=>∃(x:Int)(ns:List Int)(kk:Option V),σ=[some (.int c),some (.int (m:Int)),bz l,some (.int x),kk]/\H2=upd H l (.lst (ns.map V.int))/\ns.length=i/\((0:Int)<=x/\x < 8589934592)/\∀n∈ns,(0:Int)<=n/\n < 4294967311)
  ⟨c % 4294967311+48271,[],none,rfl,rfl,rfl,YE,by simp⟩ ?_ ?_
 .rintro i σ H2 hi ⟨x,ns,kk,rfl,rfl,qf,hx,r_⟩;refine⟨_,rfl,_,rfl,_,_,rfl,rfl,.inl ⟨∅,∅⟩,_,rfl,_,_,rfl,rfl,.inl ⟨nofun,nofun⟩,_,_,rfl,rfl,_,rfl,_,_,rfl,rfl,_,_,rfl,rfl,(by show (0:Int) < 4294967311;decide),?_⟩;have hy:(0:Int)<=(x * x+69621 * x+(0+(i:Int))) % 4294967311/\(x * x+69621 * x+(0+(i:Int))) % 4294967311 < 4294967311:=by omega
  refine⟨_,rfl,.inl ⟨rfl,_,aH.of ae⟩,_,rfl,l,_,_,rfl,rfl,ae,bF (by rw [aB];omega),?_⟩;refine⟨(x * x+69621 * x+(0+(i:Int))) % 4294967311,ns++[(x * x+69621 * x+(0+(i:Int))) % 4294967311],_,rfl,by rw [iM,bw];rfl,by rw [cu,qf];rfl,⟨hy.1,∅⟩,λn hn=>?_⟩;rcases bN.mp hn with h | h
  .exact r_ n h
  rw [bx.mp h];exact hy
 rintro σ H2 ⟨x,ns,kk,rfl,rfl,qf,hx,r_⟩;refine⟨_,rfl,1,rfl,l,_,rfl,aH.of ae,λp hp=>?_⟩;rw [SO];have va:p≠l:=λz=>by rw [z,ae] at hp;cases hp
 refine q p (ns.drop 1) _ (by rw [ai va] at hp;exact hp) ((af hl _).trans (af hp _)) (by rw [ae,List.map_drop]) (by rw [mC,qf];omega) λn hn=>r_ n (sZ hn)
def iu:Str := "!\"$&'(),-./0123456789;<=>@ABCDEFGHIJKLMNOPQRSTUVWXYZ[\\]^_`abcdefghijklmnopqrstuvwxyz{}~"
def DB:iu.cps.toList.length=87:=by decide +kernel
def N4 (n:Int):∃c,jD iu.cps.toList (n % 87)=some c:=by
 have h:(n % 87).toNat < iu.cps.toList.length:=by rw [DB];omega
 refine⟨iu.cps.toList[(n % 87).toNat],?_⟩;have e:n % 87=(((n % 87).toNat:Nat):Int):=by omega
 have:=cw (cQ h);rw [<-e] at this;exact this
def QC:iu.cps.toList.Nodup:=by decide +kernel
def MT {a b:Int}{c:Nat}(h1:jD iu.cps.toList (a % 87)=some c)(h2:jD iu.cps.toList (b % 87)=some c):a % 87=b % 87:=by
 have e1:a % 87=(((a % 87).toNat:Nat):Int):=by omega
 have e2:b % 87=(((b % 87).toNat:Nat):Int):=by omega
 have l1:(a % 87).toNat < iu.cps.toList.length:=by rw [DB];omega
 have l2:(b % 87).toNat < iu.cps.toList.length:=by rw [DB];omega
 have g1:=cw (cQ l1);have g2:=cw (cQ l2);rw [<-e1,h1] at g1;rw [<-e2,h2] at g2;have e3:iu.cps.toList[(a % 87).toNat]=iu.cps.toList[(b % 87).toNat]:=(f_ g1).symm.trans (f_ g2);have:=(o9 QC).mp e3;omega
def EC (pre:Str) (n2:Int) (j:Nat)(z:Str):Prop:=∃cc WR,z=pre++⟨#[cc]⟩++WR/\jD iu.cps.toList ((n2+5 * (j:Int)) % 87)=some cc
def FI {pre:Str}{n2:Int}{ws:List Str}(hl:ws.length<=14)(h:∀j z,ws[j]?=some z->EC pre n2 j z):ws.Nodup:=by
 refine List.pairwise_iff_getElem.mpr λi j hi hj EW e=>?_;obtain⟨c1,s1,e1,a1⟩:=h i _ (cQ hi);obtain⟨c2,s2,e2,a2⟩:=h j _ (cQ hj);rw [e1,e2] at e;have e':=congrArg (λz:Str=>z.cps.toList) e;have q:pre.cps.toList++(c1::s1.cps.toList)=pre.cps.toList++(c2::s2.cps.toList):=by
  have f:∀(c:Nat)(s:Str),(pre++(⟨#[c]⟩:Str)++s).cps.toList=pre.cps.toList++(c::s.cps.toList):=λc s=>by
   show ((pre.cps++#[c])++s.cps).toList=_;simp
  rw [<-f,<-f];exact e'
 have q2:=List.append_cancel_left q;injection q2 with q3 _;rw [<-q3] at a2;have:=MT a1 a2;omega
def sJ (z:Str):Prop:=∀c∈z.cps.toList,c∈iu.cps.toList
def sJ.app {x y:Str}(h:sJ x)(g:sJ y):sJ (x++y):=λc hc=>by
 have e:(x++y).cps.toList=x.cps.toList++y.cps.toList:=by show (x.cps++y.cps).toList=_;simp
 rw [e] at hc;exact(bN.mp hc).elim (h c) (g c)
def sJ.one {cc:Nat}{i:Int}(h:jD iu.cps.toList i=some cc):sJ ⟨#[cc]⟩:=λc hc=>by
 have:c=cc:=by simpa using hc
 subst this;unfold jD at h;obtain⟨j,_,e⟩:=Option.bind_eq_some_iff.mp h;exact bZ e
theorem sJ.tY {z:Str}(h:sJ z)(lo hi:Option Int):sJ (tY z lo hi):=by
 unfold L2.tY
 split
 .exact h
 intro c hc;have hc:c∈(List.filterMap (z.cps[·]?) (slicePicked z (lo.map λi=>(i,0)) (hi.map λi=>(i,0)) none)):=by simpa using hc
 obtain⟨k,_,e⟩:=sS.mp hc;exact h c (by rw [Array.mem_toList_iff];exact Array.mem_of_getElem? e)
theorem sJ.join {zs:List Str}(h:∀z∈zs,sJ z):sJ (Txt.join (Str.ofString "") zs):=by
 have e2:Txt.join (Str.ofString "") zs=Str.join (Str.ofString "") zs:=nY _ _;rw [e2];have e0:sJ (Str.ofString ""):=λc hc=>by rw [show (Str.ofString "").cps.toList=[] from rfl] at hc;cases hc
 clear e2
 induction zs with
 | nil=>exact λc hc=>by simp [Str.join,Str.empty] at hc
 | cons x r ih =>
  cases r with
  | nil=>exact h x bp
  | cons y t =>
   show sJ (x++Str.ofString "" ++ Str.join (Str.ofString "") (y::t));exact((h x bp).app e0).app (ih λz hz=>h z (bC _ hz))
def FJ (a:Int)(h:0<=a) (n:Nat):(Builtin.Str.strSliceIndices none (some a) 1 n).length<=a.toNat:=by
 unfold Builtin.Str.strSliceIndices sliceRange;simp only [show (1:Int) > 0 by decide,if_true,aB,oS] <;> (split <;> (try split) <;> (try split) <;> (try simp only [Int.ediv_one]) <;> omega)
def FK (a:Int)(h:0<=a)(u:Option Int) (n:Nat):(Builtin.Str.strSliceIndices (some a) u 1 n).length<=n - a.toNat:=by
 unfold Builtin.Str.strSliceIndices sliceRange;cases u <;> simp only [show (1:Int) > 0 by decide,if_true,aB,oS] <;> (split <;> (try split) <;> (try split) <;> (try simp only [Int.ediv_one]) <;> omega)
def Cs (z:Str) (a:Int)(h:0<=a):(tY z none (some a)).length<=a.toNat:=by
 have hp:(slicePicked z (none:Option (Int×Tok)) (some (a,0)) none).length<=a.toNat:=FJ a h z.length;unfold tY
 split
 .rename_i e
  have e':(slicePicked z (none:Option (Int×Tok)) (some (a,0)) none).length=z.length:=eq_of_beq e;omega
 show (List.toArray _).size<=_;rw [bO];exact cO (tK _ _) hp
def Cu (z:Str) (a:Int)(h:0<=a) (u:Int):(tY z (some a) (some u)).length<=z.length - a.toNat:=by
 have hp:(slicePicked z (some (a,0)) (some (u,0)) none).length<=z.length - a.toNat:=FK a h (some u) z.length;unfold tY
 split
 .rename_i e
  have e':(slicePicked z (some (a,0)) (some (u,0)) none).length=z.length:=eq_of_beq e;omega
 show (List.toArray _).size<=_;rw [bO];exact cO (tK _ _) hp
def wx (xs:List V) (i j:Nat):(ff xs (some (i:Int)) (some (j:Int))).length<=j - i:=by
 unfold ff;rw [HT.uf,HT.uf,eV,mC];omega
def El (xs:List V) (i j:Int)(hi:0<=i)(hj:i<=j):(ff xs (some i) (some j)).length<=(j - i).toNat:=by
 obtain⟨a,rfl⟩:=xq hi;obtain⟨b,rfl⟩:=xq (Int.le_trans hi hj);have h:=wx xs a b;omega
structure jE (z:Str):Prop where
 ne:z.length≠0
 le:z.length<=10
 sg:sJ z
def Cm:Sp:=λvs H Q _=>∃(c:Int) (m:Nat),vs=[.int c,.int (m:Int)]/\m<=14/\∀D zs H',H D=none->aC H H'->H' D=some (.lst (List.map V.str zs))->zs.length=m->(∀z∈zs,jE z)->zs.Nodup->Q (.ref D) H'
def ic:aK ["_law_cell","_law_many","_law_signs","_law_draws","_law_size","_law_at","_law_base","_law_found","_law_k","_law_sign","_law_end"] ["_law_cell","_law_many"] (az CA):=iL rfl rfl rfl rfl nofun
def FV (F:hZ K "_law_pool" "_law_pool" CA f fd)(T:Txt mg)(GS:aE P w K mg base 1 "_law_stream" ["_law_cell","_law_many"] pJ):bI P w K mg base e_ 2 f fd ["_law_cell","_law_many"] Cm:=by
 refine F.ok ic (λvs H Q E h=>?_) (λdN A outer s H vs Q E hr h=>?_)
 .obtain⟨c,m,rfl,_⟩:=h;rfl
 obtain⟨c,m,rfl,Y6,q⟩:=h;refine⟨_,ak (aG (i:=2) ic.nd rfl (Or.inr rfl) cm)
  (ak (aG (i:=3) ic.nd rfl (bJ rfl) (bE GS hr rfl (ab (pv 0) (ab ar aj))))
  (ak (aG (i:=4) ic.nd rfl (bJ rfl) (bh dH ar (bh eU (aO aS (pv 3) ar (λ_ _=>rfl)) ar)))
  (ak (aG (i:=5) ic.nd rfl (bJ rfl) (bh eU (aO aS (pv 3) ar (λ_ _=>rfl)) (pv 4)))
  (ak (aG (i:=6) ic.nd rfl (bJ rfl) (dJ nZ tD tE z6 cm
   (ab (bG ["_law_draw"] [(2,"_law_signs")] rfl (bq (de gH (pv 3) (cY ar) (cY (bh dH ar (pv 4))))) (br rfl rfl) nofun rfl nofun
    (λ_ _ _ _ _=>ay (i:=0) (show (["_law_draw","_law_signs"]:List Str).Nodup by decide +kernel) rfl (bJ rfl)) (λ_ _ _ _ _=>b_) (λ_ _ _ _ _=>aO jz (pv 1) (bh eU (pv 0) ar) (λ_ _=>rfl))) aj)))
  (ak (aG (i:=7) ic.nd rfl (bJ rfl) (bD aj))
  (ak (b8 cx rfl (iz rfl T.ES (ab (pv 1) aj)) (ay (i:=8) ic.nd rfl (bJ rfl))
   (ak (aG (i:=9) ic.nd rfl (bJ rfl) (aO jz (pv 2) (bh eU (bh dH (aO aS (pv 3) (bh dH ar (pv 5)) (λ_ _=>rfl)) (bh yl ar (pv 8))) ar) (λ_ _=>rfl)))
   (ak (aG (i:=10) ic.nd rfl (bJ rfl) (bh dH (bh dH (pv 5) ar) (bh eU (bh lK (aO aS (pv 3) ar (λ_ _=>rfl)) (bh dH (pv 8) ar)) ar)))
   (aq (cC (dJ gC iq ir cq (pv 7)
    (ab (bh fV (bh fV (de oG (pv 6) gK (cY (pv 5))) (pv 9)) (de oG (pv 6) (cY (bh dH (pv 5) ar)) (cY (pv 10)))) aj)))))))
  (aq (a_ (pv 7))))))))),?_⟩
 refine⟨_,rfl,c,12,rfl,nofun,λD ns H1 RQ s1 hD bc r_=>?_⟩;have J_:∀i:Nat,i < 12->∃x:Int,(0:Int)<=x/\x < 4294967311/\jD (ns.map V.int) (i:Int)=some (.int x):=λi hi=>by
  have lt:i < ns.length:=by omega
  obtain⟨a1,a2⟩:=r_ ns[i] (nR lt);exact⟨ns[i],a1,a2,cw (by rw [bo,cQ lt];rfl)⟩
 obtain⟨n0,a0,b0,g0⟩:=J_ 0 nofun;obtain⟨n1,a1,b1,g1⟩:=J_ 1 nofun;refine⟨_,rfl,D,_,_,.int n0,rfl,rfl,aH.of hD,g0,_,_,rfl,rfl,(by show (0:Int) < 10;decide),_,_,rfl,rfl,?_⟩;refine⟨_,rfl,D,_,_,.int n1,rfl,rfl,aH.of hD,g1,_,rfl,_,_,rfl,rfl,(by show (0:Int) < 1+n0 % 10;omega),?_⟩;have RZ:(0:Int)<=n1 % (1+n0 % 10)/\n1 % (1+n0 % 10) < 10:=by
  have h1:(0:Int) < 1+n0 % 10:=by omega
  have h2:=Int.emod_nonneg n1 (Int.ne_of_gt h1);have h3:=Int.emod_lt_of_pos n1 h1;omega
 refine⟨rfl,_,rfl,2,rfl,_,rfl,_,_,rfl,rfl,_,rfl,D,_,rfl,aH.of hD,λc1 Vp=>?_⟩;obtain⟨BN,e1,_,l1⟩:=wy ns (some 2) (some (2+(1+n0 % 10)));have l1b:(BN.length:Int)<=1+n0 % 10:=by
  have h:=El (ns.map V.int) 2 (2+(1+n0 % 10)) nofun ∅;rw [e1,aB] at h;omega
 rw [e1];have s2:=s1.trans (af Vp (.lst (BN.map V.int)));have Vz:upd H1 c1 (.lst (BN.map V.int)) D=some (.lst (ns.map V.int)):=by rw [ai (ao hD Vp)];exact hD
 have JW:upd H1 c1 (.lst (BN.map V.int)) c1=some (.lst (BN.map V.int)):=ae;generalize upd H1 c1 (.lst (BN.map V.int))=H2 at s2 Vz JW;refine⟨c1,rfl,⟨_,aH.of JW⟩,λD2 jM=>bT (xs:=BN.map V.int) (λi ys σ2 H3=>∃zs:List Str,ys=zs.map V.str/\zs.length=i/\(∀z∈zs,z.length=1)/\(∀z∈zs,sJ z)/\(∃y,σ2=[y,some (.str iu)])/\aC H2 H3/\H3 D2=some (.lst ys))
  ⟨[],rfl,rfl,by simp,by simp,⟨none,rfl⟩,af jM _,ae⟩ (λi ys σ2 H3 _ h=>?_) (λi x ys σ2 H3 ex h=>?_) (λys σ2 H3 h=>?_)⟩
 .obtain⟨_,_,_,_,_,_,sm,_⟩:=h;exact aH.of (sm _ _ JW)
 .obtain⟨zs,rfl,hz,JH,Q5,⟨y,rfl⟩,sm,gO⟩:=h;rw [bo] at ex;obtain⟨n,en,rfl⟩:=cg.mp ex;obtain⟨cc,Gk⟩:=N4 n;have li:i < BN.length:=(bA.mp en).1;refine goN ?_;refine vb ?_;refine⟨_,rfl,_,rfl,_,_,rfl,rfl,(by show (0:Int) < 87;decide),iu,_,cc,rfl,rfl,nofun,Gk,gO,bF (by rw [aB];omega),zs++[⟨#[cc]⟩],?_,?_,?_,?_,⟨_,rfl⟩,?_,?_⟩
  .rw [bw];rfl
  .rw [cu,hz];rfl
  .intro z xc;rcases bN.mp xc with h | h
   .exact JH z h
   rw [bx.mp h];rfl
  .intro z xc;rcases bN.mp xc with h | h
   .exact Q5 z h
   rw [bx.mp h];exact sJ.one Gk
  .intro b o hb;rw [ai (λz=>by rw [z,jM] at hb;cases hb)];exact sm b o hb
  rw [ae]
 obtain⟨zs,rfl,hz,JH,Q5,⟨y,rfl⟩,sm,gO⟩:=h;have JL:∀l:List Str,(∀z∈l,z.length=1)->(l.map (·.length)).sum=l.length:=by
  intro l
  induction l with
  | nil=>intro _;rfl
  | cons z r ih=>intro h;rw [bu,jd,ih (λz hz=>h z (bC _ hz)),h z bp,cX];omega
 rw [aB] at hz;refine⟨_,D2,zs,rfl,rfl,aH.of gO,?_,?_⟩
 .have e0:(Str.ofString "").length=0:=rfl;rw [JL zs JH,e0];omega
 have hb:(Txt.join (Str.ofString "") zs).length<=12:=by
  have h1:=s_ (Str.ofString "") zs;have e0:(Str.ofString "").length=0:=rfl;rw [JL zs JH,e0] at h1;have e2:Txt.join (Str.ofString "") zs=Str.join (Str.ofString "") zs:=nY _ _;rw [e2];omega
 have hS:sJ (Txt.join (Str.ofString "") zs):=sJ.join Q5;have Gm:((Txt.join (Str.ofString "") zs).length:Int)<=1+n0 % 10:=by
  have h1:=s_ (Str.ofString "") zs;have e0:(Str.ofString "").length=0:=rfl;rw [JL zs JH,e0] at h1;have e2:Txt.join (Str.ofString "") zs=Str.join (Str.ofString "") zs:=nY _ _;rw [e2];omega
 generalize Txt.join (Str.ofString "") zs=E7 at hb Gm hS ⊢;have HN:=sm _ _ Vz;have s3:=s2.trans sm;clear sm gO jM JW;refine⟨qQ,λl hl=>?_⟩;refine⟨_,rfl,(m:Int),rfl,∅,∅,?_⟩;rw [nU m];obtain⟨k1,ek1⟩:=xq RZ.1;obtain⟨n2,a2,b2,g2⟩:=J_ (2+k1) ∅;have Vy:∀o,upd H3 l o D=some (.lst (ns.map V.int)):=λo=>by rw [ai (ao HN hl)];exact HN
 refine jN (n:=m) (λi σ H4=>∃(ws:List Str)(k2 k3 k4:Option V),σ=[some (.int c),some (.int (m:Int)),some (.str iu),bz D,some (.int (1+n0 % 10)),some (.int (n1 % (1+n0 % 10))),some (.str E7),bz l,k2,k3,k4] /\
  H4=upd H3 l (.lst (ws.map V.str))/\ws.length=i/\(∀z∈ws,jE z)/\∀j z,ws[j]?=some z->EC (tY E7 none (some (n1 % (1+n0 % 10)))) n2 j z) ⟨[],none,none,none,rfl,rfl,rfl,by simp,by simp⟩ ?_ ?_
 .rintro i σ H4 hi ⟨ws,k2,k3,k4,rfl,rfl,hw,JI,OQ⟩;obtain⟨cc,Gk⟩:=N4 (n2+5 * (0+(i:Int)));refine⟨_,rfl,_,rfl,_,rfl,_,_,rfl,rfl,D,_,_,.int n2,rfl,rfl,aH.of (Vy _),?_,_,rfl,_,_,rfl,rfl,.inl ⟨nofun,nofun⟩,_,_,rfl,rfl,_,_,rfl,rfl,(by show (0:Int) < 87;decide),iu,_,cc,rfl,rfl,nofun,Gk,?_⟩
  .rw [ek1];have e:(2:Int)+(k1:Int)=((2+k1:Nat):Int):=by omega
   rw [e];exact g2
  refine⟨_,rfl,_,_,rfl,rfl,_,rfl,D,_,_,.int n1,rfl,rfl,aH.of (Vy _),g1,_,rfl,_,_,rfl,rfl,_,_,rfl,rfl,⟨by show (0:Int) < 0+(i:Int)+2;omega,by show (0:Int)+(i:Int)+2 < 1073741824;omega⟩,_,_,rfl,rfl,(by show (0:Int) < 15;decide),_,_,rfl,rfl,?_⟩;refine⟨_,rfl,.inl ⟨rfl,_,aH.of ae⟩,?_⟩;refine⟨_,rfl,_,rfl,_,rfl,E7,rfl,fits ∅,?_⟩;have Q_:=Ct E7 none (some (n1 % (1+n0 % 10)));have Q9:=Cs E7 (n1 % (1+n0 % 10)) RZ.1;have U4:=hS.tY none (some (n1 % (1+n0 % 10)));generalize YC:tY E7 none (some (n1 % (1+n0 % 10)))=z1 at Q_ Q9 U4 OQ ⊢;refine⟨_,rfl,_,_,rfl,rfl,fits (by show z1.length+1<=_;omega),?_⟩;refine⟨_,rfl,_,rfl,_,_,rfl,rfl,_,rfl,_,rfl,_,rfl,E7,rfl,fits ∅,?_⟩;have Q8:=Ct E7 (some (n1 % (1+n0 % 10)+1)) (some (n1 % (1+n0 % 10)+1+n1 / (0+(i:Int)+2) % 15));have Q7:=Cu E7 (n1 % (1+n0 % 10)+1) ∅ (n1 % (1+n0 % 10)+1+n1 / (0+(i:Int)+2) % 15);have M8:=hS.tY (some (n1 % (1+n0 % 10)+1)) (some (n1 % (1+n0 % 10)+1+n1 / (0+(i:Int)+2) % 15));have ZH:n1 % (1+n0 % 10) < 1+n0 % 10:=Int.emod_lt_of_pos n1 ∅;generalize tY E7 (some (n1 % (1+n0 % 10)+1)) (some (n1 % (1+n0 % 10)+1+n1 / (0+(i:Int)+2) % 15))=z2 at Q8 Q7 M8 ⊢;have QU:(z1++(⟨#[cc]⟩:Str)).length=z1.length+1:=dQ _ _;refine⟨_,_,rfl,rfl,fits (by rw [QU];omega),?_⟩;refine⟨l,_,_,rfl,rfl,ae,bF (by rw [aB];omega),?_⟩;refine⟨ws++[z1++⟨#[cc]⟩++z2],_,_,_,rfl,by rw [iM,bw];rfl,by rw [cu,hw];rfl,λz MZ=>?_,λj z hj=>?_⟩
  .rcases bN.mp MZ with h | h
   .exact JI z h
   rw [bx.mp h];refine⟨by rw [dQ,QU];omega,by rw [dQ,QU];omega,(U4.app (sJ.one Gk)).app M8⟩
  rw [List.getElem?_append] at hj
  split at hj
  .exact OQ j z hj
  rename_i gZ
  have ej:j=i:=by
   have:=(bA.mp hj).1;simp at this;omega
  subst ej;rw [hw,Nat.sub_self] at hj;cases hj;refine⟨cc,z2,rfl,?_⟩;have e0:n2+5 * (0+(j:Int))=n2+5 * (j:Int):=by omega
  rw [<-e0];exact Gk
 rintro σ H4 ⟨ws,k2,k3,k4,rfl,rfl,hw,JI,OQ⟩;exact⟨_,rfl,q l ws _ (s3.free hl) (s3.trans (af hl _)) ae hw JI (FI ∅ OQ)⟩
end
abbrev xY:Stmt:=top 54
def wR (m:List Nat):Prop:=m.length<=3/\(∀c∈m,c∈[42,43,63])/\∀c∈m.dropLast,c=43
instance (m:List Nat):Decidable (wR m):=inferInstanceAs (Decidable (m.length<=3/\(∀c∈m,c∈[42,43,63])/\∀c∈m.dropLast,c=43))
def UI:List Str:=["","","+","++"]
def UH:List Str:=["*","+","?",""]
def Js:∀a∈UI,∀b∈UH,wR (sg a++sg b)/\a.length<=2/\b.length<=1:=by decide +kernel
def wR.pop {m:List Nat}(h:wR m):wR m.dropLast:=by
 refine⟨by rw [List.length_dropLast];exact cO (Nat.sub_le _ _) h.1,λc hc=>h.2.1 c (List.dropLast_subset _ hc),λc hc=>h.2.2 c (List.dropLast_subset _ hc)⟩
def Pt (zs:List Str)(p:Str):Prop:=∃z∈zs,∃m:List Nat,sg p=sg z++m/\wR m
def Pt.plain {zs:List Str}{z:Str}(h:z∈zs):Pt zs z:=⟨z,h,[],(eF _).symm,nofun⟩
def jE.bL {z:Str}(h:jE z){c:Nat}(hc:c∈[32,10,124,58,35,42,43,63]):c∉L2.sg z:=λhx=>(show ∀c∈[32,10,124,58,35,42,43,63],c∉iu.cps.toList by decide +kernel) c hc (h.sg c hx)
theorem jE.again {z:Str}(h:jE z):again z=false:=by
 have hl:∀c∈[32,10,124,58,35,42,43,63],(L2.sg z).getLast?≠some c:=λc hc e=>h.bL hc (pz e);unfold fh.again;rw [beq_false_of_ne (hl 42 nofun),beq_false_of_ne (hl 43 nofun),beq_false_of_ne (hl 63 nofun)];simp
def pN (z:Str):(sg z).length=z.length:=by unfold sg;rw [kR];rfl
def Pt.len {zs:List Str}{p:Str}(hz:∀z∈zs,jE z)(h:Pt zs p):1<=p.length/\p.length<=13:=by
 obtain⟨z,xc,m,e,mk⟩:=h;have l:=congrArg List.length e;rw [cu,pN,pN] at l;have h1:=(hz z xc).ne;have h2:=(hz z xc).le;have h3:=mk.1;omega
def Pt.nK {z p:Str}{m:List Nat}(hz:jE z)(e:sg p=sg z++m)(mk:wR m):again p=true↔m≠[]:=by
 constructor
 .intro a hm;subst hm;rw [eF] at e;rw [Cv e,hz.again] at a;cases a
 intro hm;have l:=congrArg List.length e;rw [cu,pN,pN] at l;have h1:=hz.ne;have h2:m.length≠0:=λh=>hm (vi.mp h);unfold again;rw [dI ∅,j9];obtain⟨c,hc⟩:∃c,m.getLast?=some c:=by
  cases h:m.getLast? with
  | some c=>exact⟨c,rfl⟩
  | none=>exact absurd (tN.mp h) hm
 have e2:(sg p).getLast?=some c:=by
  rw [e,List.getLast?_append,hc];rfl
 rw [e2];have:=mk.2.1 c (pz hc);rcases aQ.mp this with rfl | this
 .rfl
 rcases aQ.mp this with rfl | this
 .rfl
 rw [bx.mp this];rfl
def Pt.once {zs:List Str}{p:Str}(hz:∀z∈zs,jE z)(a:again p=true)(h:Pt zs p):Pt zs (bK p):=by
 obtain⟨z,xc,m,e,mk⟩:=h;have hm:=(Pt.nK (hz z xc) e mk).mp a;exact⟨z,xc,m.dropLast,by rw [oH,e,xB hm],mk.pop⟩
def Th {zs:List Str}(m:Nat)(hm:0 < m)(h:zs.length=m) (n:Int):∃z∈zs,jD (zs.map V.str) (n % (m:Int))=some (.str z):=by
 have h1:=Int.emod_nonneg n (show (m:Int)≠0 by omega);have h2:=Int.emod_lt_of_pos n (show (0:Int) < (m:Int) by omega);obtain⟨j,hj⟩:∃j:Nat,n % (m:Int)=(j:Int):=⟨(n % (m:Int)).toNat,∅⟩;have lj:j < zs.length:=by omega
 refine⟨zs[j],nR lj,?_⟩;rw [hj];exact cw (by rw [bo,cQ lj];rfl)
section
def zK (K:aV):Sp:=λvs H Q _=>∃(d m:Int)(P':Addr) (zs:List Str),vs=[.int d,.int m,.ref P']/\aH K H P' (zs.map V.str)/\zs.length=5/\(∀z∈zs,jE z)/\∀(p:Str)(H':Hp),aC H H'->Pt zs p->Q (.str p) H'
def Fm:aK ["_law_digit","_law_more","_law_pool_here"] ["_law_digit","_law_more","_law_pool_here"] (az xY):=iL rfl rfl rfl rfl nofun
def Dh (F:hZ K "_law_part" "_law_part" xY f fd):bI P w K mg base e_ 1 f fd ["_law_digit","_law_more","_law_pool_here"] (zK K):=by
 refine F.ok Fm (λvs H Q E h=>?_) (λdN A outer s H vs Q E hr h=>?_)
 .obtain⟨d,m,P',zs,rfl,_⟩:=h;rfl
 obtain⟨d,m,P',zs,rfl,hP,h5,hz,q⟩:=h;refine⟨_,@aq _ _ _ (@a_ _ _ _ _ (@bh _ _ _ _ _ _ _ _ fV (@bh _ _ _ _ _ _ _ _ fV (@aO _ _ _ _ _ _ _ aS (pv 2) (@bh _ _ _ _ _ _ _ _ eU (pv 0) (@ar _ _ _ _)) (λ_ _=>rfl)) (@aO _ _ _ _ _ _ _ aS (@bD _ _ _ _ (@ab _ _ _ _ _ (@cm _ _ _ _) (@ab _ _ _ _ _ (@cm _ _ _ _) (@ab _ _ _ _ _ (@cm _ _ _ _) (@ab _ _ _ _ _ (@cm _ _ _ _) (@aj _) rfl) rfl) rfl) rfl)) (@bh _ _ _ _ _ _ _ _ eU (pv 1) (@ar _ _ _ _)) (λ_ _=>rfl))) (@aO _ _ _ _ _ _ _ aS (@bD _ _ _ _ (@ab _ _ _ _ _ (@cm _ _ _ _) (@ab _ _ _ _ _ (@cm _ _ _ _) (@ab _ _ _ _ _ (@cm _ _ _ _) (@ab _ _ _ _ _ (@cm _ _ _ _) (@aj _) rfl) rfl) rfl) rfl)) (@bh _ _ _ _ _ _ _ _ eU (@bh _ _ _ _ _ _ _ _ lK (pv 1) (@ar _ _ _ _)) (@ar _ _ _ _)) (λ_ _=>rfl)))) , ?_⟩;obtain⟨z,xc,N1⟩:=Th 5 nofun h5 d;obtain⟨a,ha,ata⟩:=Th (zs:=UI) 4 nofun rfl m;obtain⟨b,hb,atb⟩:=Th (zs:=UH) 4 nofun rfl (m / 4);obtain⟨mk,la,lb⟩:=Js a ha b hb;have lz:=(hz z xc).le;refine⟨_,rfl,_,rfl,_,_,rfl,rfl,(by show (0:Int) < 5;decide),P',_,_,_,rfl,rfl,hP,N1,Pq,λL1 h1=>?_⟩;refine⟨_,rfl,_,_,rfl,rfl,(by show (0:Int) < 4;decide),L1,_,_,_,rfl,rfl,aH.of ae,ata,_,_,rfl,rfl,fits ∅,Pq,λL2 h2=>?_⟩;refine⟨_,rfl,_,_,rfl,rfl,⟨nofun,nofun⟩,_,_,rfl,rfl,(by show (0:Int) < 4;decide),L2,_,_,_,rfl,rfl,aH.of ae,atb,_,_,rfl,rfl,fits (by rw [dQ];omega),?_⟩;exact q _ _ ((af h1 _).trans (af h2 _)) ⟨z,xc,sg a++sg b,by rw [gR,gR,gh],mk⟩
end
abbrev xX:Stmt:=top 55
section
def Ii (zs:List Str)(ru:au):Prop:=ru.1∈zs.take 2/\∃w ps,ru.2=w::ps/\w∈zs.drop 2/\ps.length<=2/\∀p∈ps,Pt zs p
def zJ (K:aV):Sp:=λvs H Q _=>∃(c:Int)(P':Addr) (zs:List Str),vs=[.int c,.ref P']/\H P'=some (.lst (zs.map V.str))/\zs.length=5/\(∀z∈zs,jE z)/\∀(R:Addr)(ru:au)(H':Hp),aC H H'->j4 K H' R ru->Ii zs ru->Q (.ref R) H'
def k9:aK ["_law_cell","_law_pool_here","_law_digits","_law_k","_law_parts"] ["_law_cell","_law_pool_here"] (az xX):=iL rfl rfl rfl rfl nofun
def Dg (F:hZ K "_law_rule" "_law_rule" xX f fd)(T:Txt mg)(GS:aE P w K mg base 1 "_law_stream" ["_law_cell","_law_many"] pJ)(GP:aE P w K mg base 1 "_law_part" ["_law_digit","_law_more","_law_pool_here"] (zK K)):bI P w K mg base e_ 2 f fd ["_law_cell","_law_pool_here"] (zJ K):=by
 refine F.ok k9 (λvs H Q E h=>?_) (λdN A outer s H vs Q E hr h=>?_)
 .obtain⟨c,P',zs,rfl,_⟩:=h;rfl
 obtain⟨c,P',zs,rfl,hP,h5,hz,q⟩:=h;refine⟨_,@ak _ _ _ _ _ (@aG _ _ 2 _ _ _ _ k9.nd rfl (Or.inr rfl) (@bE _ _ _ _ _ _ _ _ _ _ GS hr rfl (@ab _ _ _ _ _ (pv 0) (@ab _ _ _ _ _ (@ar _ _ _ _) (@aj _) rfl) rfl) rfl rfl rfl) rfl (.inl rfl))
  (@ak _ _ _ _ _ (@b8 _ _ _ _ _ _ _ _ cx rfl (iz rfl T.ES (@ab _ _ _ _ _ (@ar _ _ _ _) (@aj _) rfl)) (ay (i:=3) k9.nd rfl (bJ rfl))
  (@ak _ _ _ _ _ (CQ (@bh _ _ _ _ _ _ _ _ eU (@bh _ _ _ _ _ _ _ _ lK (@aO _ _ _ _ _ _ _ aS (pv 2) (pv 3) (λ_ _=>rfl)) (@ar _ _ _ _)) (@ar _ _ _ _)) (CZ (pv 2) (pv 3) set_list))
  (@aq _ _ _ (@cW _ _ _ _ _ _ _ _ (bU pY (pv 0) (@ar _ _ _ _) (bL _))
  (@ak _ _ _ _ _ (CQ (@bh _ _ _ _ _ _ _ _ eU (@bh _ _ _ _ _ _ _ _ C8 (pv 0) (@ar _ _ _ _)) (@ar _ _ _ _)) (CZ (pv 2) (pv 3) set_list))
  (@aq _ _ _ (@aG _ _ 0 _ _ _ _ k9.nd rfl (bJ rfl) (@bh _ _ _ _ _ _ _ _ lK (@bh _ _ _ _ _ _ _ _ C8 (pv 0) (@ar _ _ _ _)) (@ar _ _ _ _)) rfl (.inr rfl)))) bB))) (λ_=>rfl))
  (@ak _ _ _ _ _ (@g_ _ _ _ _ 4 _ _ _ _ _ _ _ _ _ _ ["_law_k"] [(2,"_law_digits"),(1,"_law_pool_here")] k9.nd rfl rfl rfl (iz rfl T.ES (@ab _ _ _ _ _ (@bh _ _ _ _ _ _ _ _ dH (@bh _ _ _ _ _ _ _ _ eU (@aO _ _ _ _ _ _ _ aS (pv 2) (@ar _ _ _ _) (λ_ _=>rfl)) (@ar _ _ _ _)) (@ar _ _ _ _)) (@aj _) rfl)) (br rfl rfl) nofun rfl nofun (λ_ _ _ _ _=>ay (i:=0) (show (["_law_k","_law_digits","_law_pool_here"]:List Str).Nodup by decide +kernel) rfl (bJ rfl)) (λ_ _ _ _ _=>b_) (λ_ _ _ _ _=>bE GP hr rfl (ab (aO (p_ K) (pv 1) (bh dH ar (pv 0)) (λ_ _=>rfl)) (ab (aO (p_ K) (pv 1) (bh dH ar (pv 0)) (λ_ _=>rfl)) (ab (pv 2) aj)))) rfl (λ_=>rfl))
  (@aq _ _ _ (@a_ _ _ _ _ (@aP _ _ _ _ _ (@ab _ _ _ _ _ (@aO _ _ _ _ _ _ _ aS (pv 1) (@bh _ _ _ _ _ _ _ _ eU (@aO _ _ _ _ _ _ _ aS (pv 2) (@ar _ _ _ _) (λ_ _=>rfl)) (@ar _ _ _ _)) (λ_ _=>rfl)) (@ab _ _ _ _ _ (a7 eM rfl T.tup vj (@ab _ _ _ _ _ (@bh _ _ _ _ _ _ _ _ ym (@bD _ _ _ _ (@ab _ _ _ _ _ (@aO _ _ _ _ _ _ _ aS (pv 1) (@bh _ _ _ _ _ _ _ _ dH (@ar _ _ _ _) (@bh _ _ _ _ _ _ _ _ eU (@bh _ _ _ _ _ _ _ _ lK (@aO _ _ _ _ _ _ _ aS (pv 2) (@ar _ _ _ _) (λ_ _=>rfl)) (@ar _ _ _ _)) (@ar _ _ _ _))) (λ_ _=>rfl)) (@aj _) rfl)) (pv 4)) (@aj _) rfl)) (@aj _) rfl) rfl)))))) , ?_⟩
 refine⟨_,rfl,c,8,rfl,nofun,λD ns H1 RQ s1 hD bc _=>?_⟩;refine⟨(8:Int),rfl,nofun,nofun,?_⟩;have nPD:P'≠D:=λe=>by rw [e,RQ] at hP;cases hP
 refine jN (n:=8) (λi σ H2=>∃(c2:Int)(ms:List Int)(k2:Option V),σ=[some (.int c2),some (.ref P'),bz D,k2,none]/\H2=upd H1 D (.lst (ms.map V.int))/\ms.length=8) ⟨c,ns,none,rfl,?_,bc⟩ ?_ ?_
 .funext b
  by_cases h:b=D
  .rw [h,ae];exact hD
  rw [ai h]
 .rintro i σ H2 hi ⟨c2,ms,k2,rfl,rfl,hm⟩;have e0:(0:Int)+(i:Int)=((i:Nat):Int):=by omega
  rw [e0];have lt:i < ms.length:=by omega
  refine⟨_,rfl,_,rfl,D,_,_,_,rfl,rfl,aH.of ae,Ak lt,_,_,rfl,rfl,⟨nofun,nofun⟩,_,_,rfl,rfl,(by show (0:Int) < 16;decide),_,rfl,_,rfl,D,_,_,i,rfl,rfl,ae,z8 (by rw [aB];exact lt),?_⟩;rw [iM,<-List.map_set];refine⟨_,rfl,_,_,rfl,rfl,_,rfl,?_⟩;refine dj (λ_=>?_) (λ_=>?_)
  .refine⟨_,rfl,_,_,rfl,rfl,_,_,rfl,rfl,(by show (0:Int) < 16;decide),_,rfl,_,rfl,D,_,_,i,rfl,rfl,ae,z8 (by rw [aB,o5];exact lt),?_⟩;refine⟨_,rfl,_,_,rfl,rfl,_,_,rfl,rfl,⟨nofun,nofun⟩,?_⟩;exact⟨_,_,_,rfl,by rw [iM,<-List.map_set],by rw [o5,o5];exact hm⟩
  exact⟨_,_,_,rfl,rfl,by rw [o5];exact hm⟩
 rintro σ H2 ⟨c2,ms,k2,rfl,rfl,hm⟩;have sm:aC H (upd H1 D (.lst (ms.map V.int))):=λb o hb=>by rw [ai (ao hb RQ)];exact s1 _ _ hb
 have eD:upd H1 D (.lst (ms.map V.int)) D=some (.lst (ms.map V.int)):=ae;generalize upd H1 D (.lst (ms.map V.int))=H3 at sm eD;have Pb:∀i:Nat,i < 8->∃x:Int,jD (ms.map V.int) (i:Int)=some (.int x):=λi hi=>⟨ms[i]'∅,Ak ∅⟩;obtain⟨d0,nJ⟩:=Pb 0 nofun;obtain⟨d1,Pc⟩:=Pb 1 nofun;have Vw:=sm _ _ hP;refine⟨_,rfl,D,_,_,_,rfl,rfl,aH.of eD,Pc,_,_,rfl,rfl,(by show (0:Int) < 2;decide),_,_,rfl,rfl,_,rfl,∅,∅,λD2 jM=>?_⟩;obtain⟨k,hk⟩:∃k:Nat,d1 % 2+1=(k:Int):=⟨(d1 % 2+1).toNat,∅⟩;rw [hk,nU];refine wH (λi ys σ2 H4=>∃ps:List Str,ys=ps.map V.str/\ps.length=i/\(∀p∈ps,Pt zs p)/\(∃y0,σ2=[y0,bz D,some (.ref P')])/\aC H3 H4/\H4 D2=some (.lst ys))
  ⟨[],rfl,rfl,by simp,⟨none,rfl⟩,af jM _,ae⟩ (λi ys σ2 H4 hi h=>?_) (λys σ2 H4 h=>?_)
 .obtain⟨ps,rfl,hl,K6,⟨y0,rfl⟩,Hh,xj⟩:=h;obtain⟨x2,a2⟩:=Pb (2+i) ∅;obtain⟨x5,a5⟩:=Pb (5+i) ∅;have a2':jD (ms.map V.int) (2+(0+(i:Int)))=some (.int x2):=by rw [show (2+(0+(i:Int)))=((2+i:Nat):Int) by omega];exact a2
  have a5':jD (ms.map V.int) (5+(0+(i:Int)))=some (.int x5):=by rw [show (5+(0+(i:Int)))=((5+i:Nat):Int) by omega];exact a5
  refine goN (vb ?_);refine⟨_,rfl,_,rfl,_,_,rfl,rfl,D,_,_,_,rfl,rfl,aH.of (Hh _ _ eD),a2',_,rfl,_,rfl,_,_,rfl,rfl,D,_,_,_,rfl,rfl,aH.of (Hh _ _ eD),a5',_,rfl,x2,x5,P',zs,rfl,aH.of (Hh _ _ Vw),h5,hz,λp H5 s5 hp=>?_⟩;refine⟨s5 _ _ xj,bF (by rw [aB];omega),ps++[p],by rw [bw];rfl,by rw [cu,hl];rfl,?_,⟨_,rfl⟩,λb o hb=>?_,ae⟩
  .intro x hx;rcases bN.mp hx with h | h
   .exact K6 x h
   rw [bx.mp h];exact hp
  rw [ai (λe=>by rw [e,jM] at hb;cases hb)];exact s5 _ _ (Hh b o hb)
 obtain⟨ps,rfl,hl,K6,_,Hh,xj⟩:=h;obtain⟨n,hn,Tg⟩:∃n∈zs.take 2,jD (zs.map V.str) (d0 % 2)=some (.str n):=by
  obtain⟨j,hj⟩:∃j:Nat,d0 % 2=(j:Int):=⟨(d0 % 2).toNat,∅⟩;have lj:j < 2:=by omega
  refine⟨(zs.take 2)[j]'(by rw [eV];omega),nR _,?_⟩;rw [hj];exact cw (by rw [bo,cQ (show j < zs.length by omega),List.getElem_take];rfl)
 obtain⟨w,hw,atw⟩:∃w∈zs.drop 2,jD (zs.map V.str) (2+d0 / 2 % 3)=some (.str w):=by
  obtain⟨j,hj⟩:∃j:Nat,d0 / 2 % 3=(j:Int):=⟨(d0 / 2 % 3).toNat,∅⟩;have lj:j < 3:=by omega
  refine⟨(zs.drop 2)[j]'(by rw [mC];omega),nR _,?_⟩;rw [hj,show (2+(j:Int))=((2+j:Nat):Int) by omega];exact cw (by rw [bo,cQ (show 2+j < zs.length by omega),List.getElem_drop];rfl)
 have s5:=sm.trans Hh;have V2:=Hh _ _ eD;have Vv:=Hh _ _ Vw;refine⟨_,rfl,_,rfl,D,_,_,_,rfl,rfl,aH.of V2,nJ,_,_,rfl,rfl,(by show (0:Int) < 2;decide),P',_,_,_,rfl,rfl,aH.of Vv,Tg,?_⟩;refine⟨_,rfl,_,rfl,D,_,_,_,rfl,rfl,aH.of V2,nJ,_,_,rfl,rfl,⟨nofun,nofun⟩,_,_,rfl,rfl,(by show (0:Int) < 3;decide),_,_,rfl,rfl,P',_,_,_,rfl,rfl,aH.of Vv,atw,BK,λL1 ZP=>?_⟩;have t6:=af ZP (.lst [.str w]);have e6:upd H4 L1 (.lst [.str w]) L1=some (.lst [.str w]):=ae;generalize upd H4 L1 (.lst [.str w])=H6 at t6 e6;refine⟨_,rfl,L1,D2,_,_,rfl,rfl,e6,t6 _ _ xj,fits (by rw [aB];show 1+ps.length<=1000000;omega),λL2 R7=>?_⟩;have t7:=t6.trans (af R7 (.lst ([.str w]++ps.map V.str)));have e7:upd H6 L2 (.lst ([.str w]++ps.map V.str)) L2=some (.lst ((w::ps).map V.str)):=ae;generalize upd H6 L2 (.lst ([.str w]++ps.map V.str))=H7 at t7 e7;refine⟨L2,_,rfl,.inl ⟨aH.of e7,λt ht=>⟨gE,λR hR=>?_⟩⟩⟩;refine q R (n,w::ps) _ ((s5.trans t7).trans ((af ht _).trans (af hR _))) ⟨t,aW.of ae,(af hR _).tup (aW.of ae)⟩ ⟨hn,w,ps,rfl,hw,∅,K6⟩
end
abbrev IS:Stmt:=top 57
structure Cp (p:Str):Prop where
 pos:1<=p.length
 le:p.length<=13
 lt:∀c∈sg p,c < 127
def Cp.once {p:Str}(a:again p=true)(h:Cp p):Cp (bK p):=by
 unfold again at a;rw [jf] at a;have h1:=cK a.1;refine⟨by rw [lL];omega,by rw [lL];have:=h.le;omega,λc hc=>h.lt c ?_⟩;rw [oH] at hc;exact List.dropLast_subset _ hc
def Mm:∀c,c < 127->(!(Builtin.Str.occurrences ("*+?":Str) (⟨#[c]⟩:Str) 0 ("*+?":Str).length 1).isEmpty)=decide (c=42\/c=43\/c=63):=by decide +kernel
def ze {p:Str}{x:Nat}(h1:1 < (p.length:Int))(ex:(sg p).getLast?=some x):again p=decide (x=42\/x=43\/x=63):=by
 unfold again;rw [dI h1,j9,ex,ij];simp only [Bool.or_eq_true,beq_iff_eq,sQ,decide_eq_true_eq];omega
def By {p:Str}(h1:¬1 < (p.length:Int)):again p=false:=by
 unfold again;rw [fN h1,Bool.false_and]
def r9 (h:Str) (zs:List Str):BP (.str h) (zs.map V.str)=true↔h∈zs:=by
 unfold BP;rw [List.any_eq_true];constructor
 .rintro⟨x,h1,h2⟩;obtain⟨z,hz,rfl⟩:=cA.mp h1;have:z=h:=by simpa [wk] using h2
  rw [<-this];exact hz
 intro hm;exact⟨.str h,cA.mpr ⟨h,hm,rfl⟩,by simp [wk]⟩
def Kh (zs:List Str):(zs.map V.str).all gY=true:=by
 rw [gb];intro x hx;obtain⟨z,_,rfl⟩:=cA.mp hx;rfl
def Mq {z:Str}{xs:List Str}:(if true then !BP (.str z) (xs.map V.str) else BP (.str z) (xs.map V.str))=decide (z∉xs):=by
 rw [av rfl];by_cases h:z∈xs
 .rw [(r9 z xs).mpr h,fN (λn=>n h)];rfl
 rw [dI h];cases e:BP (.str z) (xs.map V.str) with
 | false=>rfl
 | true=>exact absurd ((r9 z xs).mp e) h
section
structure E_ (K:aV)(r0:List au)(H H5:Hp)(L S:Addr) (s:List Str)(es:List Addr):Prop where
 sm:aC H H5
 hL:H5 L=some (.lst (es.map V.ref))
 rl:aR K H5 es (aA r0 s)
 hS:H5 S=some (.lst (s.map V.str))
theorem E_.same {r0:List au}{H H5 H6:Hp}{L S:Addr}{s:List Str}{es:List Addr}(h:E_ K r0 H H5 L S s es)(k:aC H5 H6):E_ K r0 H H6 L S s es :=
 ⟨h.sm.trans k,k _ _ h.hL,h.rl.same k,k _ _ h.hS⟩
def E_.more {r0:List au}{H H5 H6:Hp}{L S r1 r2:Addr}{s:List Str}{es:List Addr}{p:Str}(h:E_ K r0 H H5 L S s es)(F6:L≠S)(fL:H L=none)(fS:H S=none)
  (k:aC (upd H5 S (.lst (s.map V.str++[.str p]))) H6)(rl:aR K H6 [r1,r2] (fc p)) :
  H6 L=some (.lst (es.map V.ref))/\E_ K r0 H (upd H6 L (.lst (es.map V.ref++[.ref r1,.ref r2]))) L S (s++[p]) (es++[r1,r2]) /\
   (∀a xs,aW K H5 a xs->aW K (upd H6 L (.lst (es.map V.ref++[.ref r1,.ref r2]))) a xs)/\∀a xs,a≠L->a≠S->H5 a=some (.lst xs)->upd H6 L (.lst (es.map V.ref++[.ref r1,.ref r2])) a=some (.lst xs):=by
 have e6:H6 L=some (.lst (es.map V.ref)):=k _ _ (by rw [ai F6];exact h.hL);have kp:∀a xs,aW K H5 a xs->aW K (upd H6 L (.lst (es.map V.ref++[.ref r1,.ref r2]))) a xs:=λa xs z=>aN e6 (k.tup (aN h.hS z));refine⟨e6,⟨λb o hb=>?_,by rw [ae,bw];rfl,?_,by rw [ai F6.symm,bw];exact k _ _ ae⟩,kp,λa xs n1 n2 e=>?_⟩
 .rw [ai (λz=>by rw [z,fL] at hb;cases hb)];exact k _ _ (by rw [ai (λz=>by rw [z,fS] at hb;cases hb)];exact h.sm b o hb)
 .rw [rM];exact iT (h.rl.keep kp) (rl.keep λa xs z=>aN e6 z)
 rw [ai n1];exact k _ _ (by rw [ai n2];exact e)
structure B3 (r0:List au):Prop where
 l8:r0.length<=8
 p3:∀ru∈r0,ru.2.length<=3
 cp:∀ru∈r0,∀p∈ru.2,Cp p
def B3.Qm {r0:List au}(h:B3 r0) (s:List Str):∀ru∈aA r0 s,ru.2.length<=3:=λru eE=>by
 rcases bN.mp eE with h1 | h1
 .exact h.p3 ru h1
 obtain⟨p,_,h2⟩:=gA.mp h1;exact sO (Fx h2)
def B3.cpA {r0:List au}(h:B3 r0) (n:Nat):(∀p∈bW r0 n,Cp p)/\∀ru∈aA r0 (bW r0 n),∀p∈ru.2,Cp p:=Aj h.cp (λ_ a c=>c.once a) n
def B3.len {r0:List au}(h:B3 r0) (n:Nat):(bW r0 n).length<=3 * n:=Ah (λn=>h.Qm _) n
def B3.at {r0:List au}(h:B3 r0) (r:Nat):dD r0 (r+1)<=8+6 * dD r0 r:=by
 show (aA r0 (bW r0 (dD r0 r))).length<=_;rw [gT];have:=h.len (dD r0 r);have:=h.l8;omega
def B3.Ti {r0:List au}(h:B3 r0):∀r,r<=6->dD r0 r<=74648:=by
 have h0:dD r0 0=0:=rfl;have h1:dD r0 1<=8+6 * dD r0 0:=h.at 0;have h2:dD r0 2<=8+6 * dD r0 1:=h.at 1;have h3:dD r0 3<=8+6 * dD r0 2:=h.at 2;have h4:dD r0 4<=8+6 * dD r0 3:=h.at 3;have h5:dD r0 5<=8+6 * dD r0 4:=h.at 4;have h6:dD r0 6<=8+6 * dD r0 5:=h.at 5;intro r hr
 match r,hr with
 | 0,_=>omega
 | 1,_=>omega
 | 2,_=>omega
 | 3,_=>omega
 | 4,_=>omega
 | 5,_=>omega
 | 6,_=>omega
def Ej {r0:List au}{a i:Nat}{ru:au}(e:(aA r0 (bW r0 a))[i]?=some ru):pr (bW r0 (max a i)) ru.2=bW r0 (max a (i+1)):=by
 by_cases c:i < a
 .rw [Nat.max_eq_left ∅,Nat.max_eq_left ∅];exact uu λp hp ha=>qI c e hp ha
 rw [Nat.max_eq_right ∅,Nat.max_eq_right ∅];exact(dq (ur (gp (fZ r0 (show a<=i by omega))) e)).symm
def Hg (K:aV):Sp:=λvs H Q _=>∃(R:Addr)(rs:List Addr)(aa:List au),vs=[.ref R]/\aH K H R (rs.map V.ref)/\aR K H rs aa/\B3 aa /\
 ∀(L:Addr)(es:List Addr)(H':Hp),aC H H'->H' L=some (.lst (es.map V.ref))->aR K H' es (aA aa (bW aa (dD aa 6)))->Q (.ref L) H'
def pP:aK ["_law_rules","_law_rows","_law_seen","_law_again_here","_law_head","_law_parts","_law_part_here"] ["_law_rules"] (az IS):=iL rfl rfl rfl rfl nofun
def Jk (F:hZ K "_law_due" "_law_due" IS f fd)(T:Txt mg)(GA:aE P w K mg base 1 "_law_again" ["_law_part_here"] (Fh K)):bI P w K mg base e_ 2 f fd ["_law_rules"] (Hg K):=by
 refine F.ok pP (λvs H Q E h=>?_) (λdN A outer s H vs Q E hr h=>?_)
 .obtain⟨R,rs,aa,rfl,_⟩:=h;rfl
 obtain⟨R,rs,aa,rfl,hR,cR,fw,q⟩:=h;refine⟨_,ak (aG (i:=1) pP.nd rfl (bJ rfl) (a7 fJ rfl T.lst fK (ab (pv 0) aj)))
  (ak (aG (i:=2) pP.nd rfl (bJ rfl) (bD aj))
  (ak (b8 cx rfl (iz rfl T.ES (ab ar aj)) (ay (i:=3) pP.nd rfl (bJ rfl))
   (aq (b8 cx rfl (bq (a7 fJ rfl T.lst fK (ab (pv 1) aj))) (d8 rfl (aD (ay (i:=4) pP.nd rfl (bJ rfl)) (aD (ay (i:=5) pP.nd rfl (bJ rfl)) cb)))
    (aq (b8 cx rfl (gX (pv 5)) (ay (i:=6) pP.nd rfl (bJ rfl))
     (aq (cW (PW.pt (iQ (bU pY (bR iX rfl T.len gP (ab (pv 6) aj)) ar (bL _)) (iQ (bU AI (aO jz (pv 6) (iA fQ ar) (λ_ _=>rfl)) cm rfl) (jK (bU lJ (pv 6) (pv 2) rfl)))))
      (ak (cC (dJ gC iq ir cq (pv 2) (ab (pv 6) aj)))
      (aq (cC (dJ gC xw xx mV (pv 1) (ab (bE GA hr rfl (ab (pv 6) aj)) aj))))) bB)))))))
  (aq (a_ (pv 1))))),?_⟩
 refine⟨_,rfl,R,_,rfl,.inl hR,λL Vx=>⟨qQ,λS DV=>?_⟩⟩;have F6:L≠S:=λe=>by rw [<-e,ae] at DV;cases DV
 have fS:H S=none:=by rw [ai F6.symm] at DV;exact DV
 have s0:aC H (upd (upd H L (.lst (rs.map V.ref))) S (.lst [])):=(af Vx _).trans (af DV _);have D0:E_ K aa H (upd (upd H L (.lst (rs.map V.ref))) S (.lst [])) L S [] rs:=⟨s0,by rw [ai F6,ae],by rw [show aA aa []=aa by unfold aA;simp];exact cR.same s0,ae⟩;generalize upd (upd H L (.lst (rs.map V.ref))) S (.lst [])=H0 at D0;refine⟨(6:Int),rfl,nofun,nofun,jN (n:=6) (λr σ H5=>∃(es:List Addr)(y3 y4 y5 y6:Option V),σ=[bz R,bz L,bz S,y3,y4,y5,y6]/\E_ K aa H H5 L S (bW aa (dD aa r)) es) ⟨rs,none,none,none,none,rfl,D0⟩ ?_ ?_⟩
 .rintro r σ H5 hr6 ⟨es,y3,y4,y5,y6,rfl,D5⟩;refine goN ?_;have OM:=a9 D5.rl;have b6:=fw.Ti (r+1) ∅;refine⟨_,rfl,L,_,rfl,.inl (aH.of D5.hL),λC hC=>?_⟩;have XW:C≠L:=λe=>by rw [e,D5.hL] at hC;cases hC
  have XU:C≠S:=λe=>by rw [e,D5.hS] at hC;cases hC
  have D6:=D5.same (af hC (.lst (es.map V.ref)));have eC:upd H5 C (.lst (es.map V.ref)) C=some (.lst (es.map V.ref)):=ae;generalize upd H5 C (.lst (es.map V.ref))=H6 at D6 eC;refine⟨C,rfl,⟨_,aH.of eC⟩,dW (xs:=es.map V.ref) (λi σ H7=>∃(Gu:List Addr)(y3 y4 y5 y6:Option V),σ=[bz R,bz L,bz S,y3,y4,y5,y6]/\E_ K aa H H7 L S (bW aa (max (dD aa r) i)) Gu/\H7 C=some (.lst (es.map V.ref))/\aR K H7 es (aA aa (bW aa (dD aa r)))) ⟨es,_,_,_,_,rfl,by rw [Nat.max_zero];exact D6,eC,D6.rl⟩ ?_ ?_ ?_⟩
  .rintro i σ H7 _ ⟨_,_,_,_,_,_,_,e7,_⟩;exact aH.of e7
  .rintro i x σ H7 ex ⟨Gu,y3,y4,y5,y6,rfl,D7,e7,Mb⟩;rw [bo] at ex;obtain⟨ra,er,rfl⟩:=cg.mp ex;obtain⟨ru,e1,p,v1,v2⟩:=Mb.get er;have hi:=(bA.mp e1).1;have RK:i < dD aa (r+1):=hi;have mx:max (dD aa r) (i+1)<=74648:=by
    have:=fw.Ti r ∅;omega
   have cpr:=(fw.cpA (dD aa r)).2 ru (bZ e1);have p3:=fw.Qm _ ru (bZ e1);have st:=Ej e1;have bc:∀j,(pr (bW aa (max (dD aa r) i)) (ru.2.take j)).length<=223944:=λj=>by
    have h1:(pr (bW aa (max (dD aa r) i)) (ru.2.take j)) <+: pr (bW aa (max (dD aa r) i)) ru.2:=by
     conv=>rhs;rw [<-vh j ru.2]
     unfold pr;rw [pd];exact uw _ _
    have h2:=h1.length_le;rw [st] at h2;have h3:=fw.len (max (dD aa r) (i+1));omega
   have l8:=fw.l8;refine⟨ra,_,rfl,v1,rfl,_,_,rfl,_,_,rfl,rfl,?_⟩;refine⟨_,rfl,p,rfl,⟨_,v2⟩,oN (xs:=ru.2.map V.str) (λj σ H8=>(∃(Gu:List Addr)(y3 y4 y6:Option V),σ=[bz R,bz L,bz S,y3,y4,bz p,y6]/\E_ K aa H H8 L S (pr (bW aa (max (dD aa r) i)) (ru.2.take j)) Gu)/\H8 C=some (.lst (es.map V.ref))/\aR K H8 es (aA aa (bW aa (dD aa r)))/\aW K H8 p (ru.2.map V.str)) ⟨⟨Gu,_,_,_,rfl,D7⟩,e7,Mb,v2⟩ ?_ ?_ ?_⟩
   .rintro j σ H8 _ ⟨_,_,_,t8⟩;exact t8
   .rintro j x σ H8 ex ⟨⟨Ee,y3,y4,y6,rfl,D8⟩,e8,Hn,t8⟩;rw [bo] at ex;obtain⟨z,ez,rfl⟩:=cg.mp ex;have cz:=cpr z (bZ ez);have zl:=cz.le;have lz:z.length<=sizeLine:=fits ∅;have Gg:=bc (j+1);have Nm:=bc j;have r8:=gT aa (pr (bW aa (max (dD aa r) i)) (ru.2.take j));have le8:=a9 D8.rl;rw [uv _ _ ez] at Gg ⊢;have g6:(again z=true->z∈pr (bW aa (max (dD aa r) i)) (ru.2.take j))->mS (pr (bW aa (max (dD aa r) i)) (ru.2.take j)) z=pr (bW aa (max (dD aa r) i)) (ru.2.take j):=ux;obtain⟨x,ex⟩:=mW cz.pos;have KC:jD z.cps.toList (-1)=some x:=by
     obtain⟨l,el⟩:=vk.mp ex;rw [show z.cps.toList=l++[x] from el];exact iI _ _
    have Px:=cz.lt x (pz ex);refine goN ?_;refine⟨_,rfl,z,rfl,lz,_,_,rfl,rfl,_,rfl,?_⟩;refine dj (λc1=>?_) (λc1=>?_)
    .have ag:=ze (cK c1) ex;refine⟨_,rfl,1,rfl,z,-1,x,rfl,rfl,lz,KC,_,_,rfl,rfl,_,rfl,?_⟩;rw [Mm x Px,<-ag];refine dj (λc2=>?_) (λc2=>?_)
     .refine⟨_,rfl,_,rfl,S,_,rfl,.inl (aH.of D8.hS),rfl,Kh _,_,rfl,?_⟩;rw [Mq];refine dj (λc3=>?_) (λc3=>?_)
      .have nz:=cK c3;have e9:mS (pr (bW aa (max (dD aa r) i)) (ru.2.take j)) z=pr (bW aa (max (dD aa r) i)) (ru.2.take j)++[z]:=by
        unfold mS;rw [av (by rw [c2,dI nz];rfl)]
       rw [e9] at Gg ⊢;rw [cu] at Gg;refine⟨_,rfl,.inl ⟨rfl,_,aH.of D8.hS⟩,_,rfl,S,_,_,rfl,rfl,D8.hS,bF (by rw [aB];omega),?_⟩;have eLu:upd H8 S (.lst ((pr (bW aa (max (dD aa r) i)) (ru.2.take j)).map V.str++[.str z])) L=some (.lst (Ee.map V.ref)):=by rw [ai F6];exact D8.hL
       refine⟨_,rfl,.inl ⟨rfl,_,aH.of eLu⟩,_,rfl,z,rfl,cz.pos,lz,λL2 r1 r2 H9 _ s9 eL9 W_=>?_⟩;obtain⟨a1,a2,a3,a4⟩:=D8.more F6 Vx fS s9 W_;exact⟨L,L2,_,_,rfl,rfl,a1,eL9,fits (by rw [aB];show Ee.length+2<=1000000;omega),⟨Ee++[r1,r2],_,_,_,rfl,a2⟩,a4 _ _ XW XU e8,Hn.keep a3,a3 _ _ t8⟩
      rw [g6 λ_=>by simpa using c3];exact⟨⟨Ee,_,_,_,rfl,D8⟩,e8,Hn,t8⟩
     refine iW ?_;rw [g6 λh=>absurd h c2];exact⟨⟨Ee,_,_,_,rfl,D8⟩,e8,Hn,t8⟩
    refine iW ?_;rw [g6 λh=>by rw [By (λh=>c1 (dI h))] at h;cases h];exact⟨⟨Ee,_,_,_,rfl,D8⟩,e8,Hn,t8⟩
   rintro σ H8 ⟨⟨Ee,y3,y4,y6,rfl,D8⟩,e8,Hn,t8⟩;rw [aB,cU,st] at D8;exact⟨Ee,_,_,_,_,rfl,D8,e8,Hn⟩
  rintro σ H7 ⟨Gu,y3,y4,y5,y6,rfl,D7,e7,Mb⟩;rw [aB,OM] at D7;refine⟨Gu,_,_,_,_,rfl,?_⟩;have e:max (dD aa r) (aA aa (bW aa (dD aa r))).length=dD aa (r+1):=Nat.max_eq_right (nI aa r);rw [e] at D7;exact D7
 rintro σ H5 ⟨es,y3,y4,y5,y6,rfl,D5⟩;exact⟨_,rfl,q L es H5 D5.sm D5.hL D5.rl⟩
end
def Gb:List Str->Str->Nat
 | [],_=>0
 | a::r,x=>if a=x then 0 else Gb r x+1
theorem uJ:∀(l:List Str)(x:Str),x∈l->l[Gb l x]?=some x
 | [],x,h=>by cases h
 | a::r,x,h=>by
  unfold Gb;by_cases c:a=x
  .rw [av c];exact congrArg some c
  rw [ax c];rcases aQ.mp h with e | e
  .exact absurd e.symm c
  rw [List.getElem?_cons_succ];exact uJ r x e
theorem qb:∀(l:List Str)(x:Str) (i:Nat),x∈l.take i->Gb l x < i
 | [],x,i,h=>by simp at h
 | a::r,x,0,h=>by simp at h
 | a::r,x,i+1,h=>by
  unfold Gb;by_cases c:a=x
  .rw [av c];omega
  rw [ax c];rw [sW] at h;rcases aQ.mp h with e | e
  .exact absurd e.symm c
  have:=qb r x i e;omega
def zr {l:List Str}{x:Str}{i:Nat}(h:x∈l.take i):∃j,j < i/\l[j]?=some x:=by
 obtain⟨j,hj⟩:=i4 h;have lj:=(bA.mp hj).1;rw [eV] at lj;rw [tJ ∅] at hj;exact⟨j,∅,hj⟩
def wa {aa:List au}{ru:au}(h:ru∈aa):ru.1∈hd aa:=(fY _ _ _).mpr (.inr (il h))
def HK {aa:List au}{x:Str}(h:x∈hd aa):∃ru∈aa,ru.1=x:=by
 rcases (fY _ _ _).mp h with h | h
 .cases h
 obtain⟨ru,a,b⟩:=cA.mp h;exact⟨ru,a,b⟩
def Ac {aa:List au}{x:Str}(h:Em aa x):x∈hd aa:=by
 cases h with
 | mk h _=>exact wa h
def Eh {aa:List au}{aX:List (Str×Nat)}(h:u4 aa aX):∀y∈aX.map (·.1),Em aa y:=by
 induction h with
 | nil=>intro y hy;cases hy
 | @snoc aX k ru _ e _ p ih =>
  intro y hy;rw [bw] at hy;rcases bN.mp hy with h | h
  .exact ih y h
  rw [bx.mp h];exact .mk (bZ e) λq hq=>ih q (p q hq)
def vX {b:Str->Bool}{zs:List Str}{i j:Nat}{x:Str}(h:F7 b zs j=true)(e:zs[i]?=some x)(n:i≠j):b x=true:=by
 cases hb:b x with
 | true=>rfl
 | false =>
  have li:=(bA.mp e).1;have m:((i:Nat):Int)∈Bh b zs zs.length:=by
   unfold Bh;exact cA.mpr ⟨i,je.mpr ⟨j_.mpr li,by rw [e];show (!(b x))=true;rw [hb];rfl⟩,rfl⟩
  unfold F7 at h;rcases Bool.or_eq_true_iff.mp h with h | h
  .rw [<-cK h] at m;cases m
  rw [<-cK h] at m;have:=bx.mp m;omega
theorem zy {f:Str->Int}{c:Int}:∀(ps:List Str),(∀x∈ps,f x<=c)->(ps.map f).sum<=ps.length * c
 | [],_=>by simp
 | p::r,h=>by
  have h1:=zy r λx hx=>h x (bC _ hx);have h2:=h p bp;rw [bu,jd,cX];have:((r.length+1:Nat):Int) * c=(r.length:Int) * c+c:=by rw [Int.natCast_add,Int.add_mul];omega
  omega
structure Od (aa:List au) (ns E M Pl:List Str):Prop where
 n3:ns.length<=3
 r_:∀ru∈aa,ru.1∈ns
 p3:∀ru∈aa,ru.2.length<=3
 eN:E.Nodup
 eNs:∀x∈E,x∈ns
 eO:∀(i:Nat)(h:Str),E[i]?=some h->∃gG,(h,gG)∈aa/\∀p∈gG,p∈E.take i\/p∉hd aa
 eA:∀h∈hd aa,h∈E
 mO:∀(i:Nat)(h:Str),M[i]?=some h->(∃kN,aa[0]?=some kN/\h=kN.1)\/∃ru∈aa,ru.1∈M.take i/\h∈ru.2
 mA:∀h∈hd aa,h∈M
 lN:Pl.Nodup
 Yq:∀x∈Pl,x∈ns
 lO:∀(i:Nat)(h:Str),Pl[i]?=some h->∀ru∈aa,ru.1=h->∀(j:Nat)(z:Str),ru.2[j]?=some z->z∈hd aa->(∀(k:Nat)(y:Str),k≠j->ru.2[k]?=some y->Em aa y)->z∈Pl.take i
 lA:∀h∈hd aa,h∈Pl
def b3:Nat->Int
 | 0=>1
 | 1=>4
 | _=>13
def c3:Nat->Int
 | 0=>0
 | 1=>1
 | _=>4
def Ib {i j:Nat}(hi:i < 3)(h:j < i):b3 j<=c3 i:=by
 have:∀i:Nat,i < 3->∀j:Nat,j < i->b3 j<=c3 i:=by decide
 exact this i hi j h
def NX {i:Nat}:1+3 * c3 i=b3 i:=by
 match i with
 | 0=>rfl
 | 1=>rfl
 | _+2=>rfl
def HZ {i:Nat}:0<=c3 i:=by
 match i with
 | 0=>decide
 | 1=>decide
 | _+2=>exact(by decide:(0:Int)<=4)
def Eo {i:Nat}:0<=b3 i/\b3 i<=60:=by
 match i with
 | 0=>decide
 | 1=>decide
 | _+2=>exact(by decide:(0:Int)<=13/\(13:Int)<=60)
def Hi {f:Str->Int}{i:Nat}{ps:List Str}(h3:ps.length<=3)(h:∀x∈ps,f x<=c3 i):1+(ps.map f).sum<=b3 i:=by
 have h1:=zy ps h;have h2:(ps.length:Int) * c3 i<=3 * c3 i:=Int.mul_le_mul_of_nonneg_right ∅ HZ;have:=@NX i;omega
def bP (Pl:List Str)(x:Str):Int:=if x∈Pl then b3 (Gb Pl x) else 0
def Od.good {aa:List au}{ns E M Pl:List Str}(O:Od aa ns E M Pl):Good aa (Gb Pl) (bP Pl) where
 least g st se:=by
  have Yo:E.length<=3:=cO (eY E ns O.eN O.eNs) O.n3;have gF:∀x,x∉hd aa->∀ru∈aa,x∈ru.2->g x=some 0:=by
   intro x nn ru eE hm;refine du.keep (J:=λg=>g x=some 0) (λg KY j h2 _=>?_) st ?_
   .show cZ g KY.1 _ x=some 0;unfold cZ;have:x≠KY.1:=λz=>nn (z ▸ wa h2);rw [ax this];exact j
   show vc aa x=some 0;unfold vc;rw [av (tP _ _ _ _ (.inr ⟨gA.mpr ⟨ru,eE,hm⟩,nn⟩))]
  have key:∀(n i:Nat),i < n->∀h:Str,E[i]?=some h->∃m,g h=some m/\m<=b3 i:=by
   intro n
   induction n with
   | zero=>intro i hi;omega
   | succ n ih =>
    intro i hi h e;have li:=(bA.mp e).1;obtain⟨ps,hm,hp⟩:=O.eO i h e;have hv:∀p∈ps,∃m,g p=some m/\m<=c3 i:=λp U9=>by
     rcases hp p U9 with h1 | h1
     .obtain⟨j,lj,ej⟩:=zr h1;obtain⟨m,e1,e2⟩:=ih j ∅ p ej;exact⟨m,e1,Int.le_trans e2 (Ib ∅ lj)⟩
     exact⟨0,gF p h1 _ hm U9,HZ⟩
    have hs:=se _ hm;unfold b9 at hs;have a1:i8 g (h,ps)=true:=gb.mpr λp hp=>by obtain⟨m,e1,_⟩:=hv p hp;show (g p).isSome=true;rw [e1];rfl
    have s0:aM g (h,ps)<=b3 i:=by
     unfold aM;exact Hi (O.p3 _ hm) λp hp=>by obtain⟨m,e1,e2⟩:=hv p hp;show (g p).getD 0<=_;rw [e1];exact e2
    rw [a1,j9] at hs;cases gn:g h with
    | none=>rw [show g (h,ps).1=none from gn] at hs;cases hs
    | some m =>
     rw [show g (h,ps).1=some m from gn] at hs;refine⟨m,rfl,?_⟩;have:¬aM g (h,ps) < m:=by simpa [M11.bl] using hs
     omega
  intro h hh;obtain⟨i,hi⟩:=i4 (O.eA h hh);obtain⟨m,e1,e2⟩:=key (i+1) i ∅ h hi;exact⟨m,e1,Int.le_trans e2 Eo.2⟩
 met kN ms e0 h0 mc:=by
  have key:∀(n i:Nat),i < n->∀h:Str,M[i]?=some h->h∈ms:=by
   intro n
   induction n with
   | zero=>intro i hi;omega
   | succ n ih =>
    intro i hi h e;rcases O.mO i h e with ⟨r0,e1,e2⟩ | ⟨ru,eE,h1,h2⟩
    .rw [e0] at e1;cases e1;rw [e2];exact h0
    obtain⟨j,lj,ej⟩:=zr h1;exact mc ru (by rw [cU];exact eE) (ih j ∅ _ ej) h h2
  intro h hh;obtain⟨i,hi⟩:=i4 (O.mA h hh);exact key (i+1) i ∅ h hi
 loop:=by
  rintro aX emp Bk n k j ⟨kN,z0,e1,e2,e3,e4,e5⟩ ru z er ez;rw [er] at e1;obtain rfl:ru=kN:=f_ e1;rw [ez] at e3;obtain rfl:z=z0:=f_ e3;have eE:=bZ er;have hn:n∈Pl:=O.lA n (e2 ▸ wa eE);refine qb Pl z _ (O.lO _ n (uJ Pl n hn) ru eE e2 j z ez e4 λk' y nk ey=>?_);have:=vX e5 ey nk;exact Eh emp y (cK this)
 SV:=by
  refine⟨λz=>?_,λru eE Nr=>?_⟩
  .unfold bP
   split
   .exact Eo.1
   decide
  have hn:ru.1∈Pl:=O.lA _ (wa eE);have li:=(bA.mp (uJ Pl ru.1 hn)).1;have Yo:Pl.length<=3:=cO (eY Pl ns O.lN O.Yq) O.n3;have e:bP Pl ru.1=b3 (Gb Pl ru.1):=av hn;rw [e];refine Hi (O.p3 ru eE) λp hp=>?_;obtain⟨j,ej⟩:=i4 hp;have ht:=O.lO _ ru.1 (uJ Pl ru.1 hn) ru eE rfl j p ej (Ac (Nr p hp)) λk' y _ ey=>Nr y (bZ ey);have e2:bP Pl p=b3 (Gb Pl p):=av (rq ht);rw [e2];exact Ib ∅ (qb Pl p _ ht)
 most h hh:=by
  unfold bP
  split
  .exact Eo.2
  decide
end fh
namespace M11
open PySem
def Ha (gF:Bool) (bH e:List Str)(ru:au):List Str:=if ((ru.2.all λp=>decide (p∈e) || (gF && !decide (p∈bH))) && !decide (ru.1∈e))=true then e++[ru.1] else e
def passes {α:Type}(f:α->α):Nat->α->α
 | 0,a=>a
 | n+1,a=>f (passes f n a)
structure EO (gF:Bool) (bH:List Str)(aa:List au) (e:List Str):Prop where
 nd:e.Nodup
 ord:∀(i:Nat)(h:Str),e[i]?=some h->∃gG,(h,gG)∈aa/\∀p∈gG,p∈e.take i\/(gF=true/\p∉bH)
def EO.step {gF:Bool}{bH:List Str}{aa:List au}{e:List Str}(h:EO gF bH aa e){ru:au}(hr:ru∈aa):EO gF bH aa (Ha gF bH e ru):=by
 unfold Ha
 split
 .rename_i c
  obtain⟨c1,c2⟩:=rp.mp c;have c2':ru.1∉e:=by simpa using c2
  refine⟨ik.mpr ⟨h.nd,by simp,λa ha b hb z=>c2' (by rw [<-bx.mp hb,<-z];exact ha)⟩,λi x hx=>?_⟩;by_cases l:i < e.length
  .rw [oV l] at hx;obtain⟨gG,a,b⟩:=h.ord i x hx;refine⟨gG,a,λp hp=>?_⟩;rw [xA ∅];exact b p hp
  have li:=(bA.mp hx).1;rw [cu,pA] at li;have:i=e.length:=by omega
  subst this;rw [oW (aF _),Nat.sub_self] at hx;cases hx;refine⟨ru.2,hr,λp hp=>?_⟩;rw [xA (aF _),cU];have:=gb.mp c1 p hp;simp only [Bool.or_eq_true,decide_eq_true_eq,jf,Bool.not_eq_true',decide_eq_false_iff_not] at this;exact this
 exact h
def EO.sub {gF:Bool}{bH:List Str}{aa:List au}{e:List Str}(h:EO gF bH aa e):∀x∈e,x∈aa.map (·.1):=λx hx=>by
 obtain⟨i,hi⟩:=i4 hx;obtain⟨gG,a,_⟩:=h.ord i x hi;exact cA.mpr ⟨_,a,rfl⟩
end M11
namespace fh
open PySem L2 M11
def Jr (p:Str):Nat:=((sg p).filter λc=>decide (c∈[42,43,63])).length
def Dw {z p:Str}{m:List Nat}(hz:jE z)(e:sg p=sg z++m)(mk:wR m):Jr p=m.length:=by
 unfold Jr;rw [e,kQ];have h1:(sg z).filter (λc=>decide (c∈[42,43,63]))=[]:=List.filter_eq_nil_iff.mpr λc hc h=>by
  have h:=cK h;exact hz.bL (c:=c) (by
   rcases aQ.mp h with rfl | h
   .decide
   rcases aQ.mp h with rfl | h
   .decide
   rw [bx.mp h];decide) hc
 have h2:m.filter (λc=>decide (c∈[42,43,63]))=m:=List.filter_eq_self.mpr λc hc=>dI (mk.2.1 c hc);rw [h1,h2];rfl
theorem Ag {r0:List au}{a:Nat}{q:Str}:∀n,q∈bW r0 n->q∉bW r0 a->∃k,a<=k/\k < n/\∃ru,(aA r0 (bW r0 k))[k]?=some ru/\q∈ru.2/\again q=true
 | 0,h,_=>by cases h
 | n+1,h,hn=>by
  by_cases c:q∈bW r0 n
  .obtain⟨k,h1,h2,h3⟩:=Ag n c hn;exact⟨k,h1,∅,h3⟩
  cases e:(aA r0 (bW r0 n))[n]? with
  | none=>rw [fM e] at h;exact absurd h c
  | some ru =>
   rw [dq e] at h;rcases pU h with h | ⟨h1,h2,_⟩
   .exact absurd h c
   refine⟨n,?_,∅,ru,e,h1,h2⟩;apply tL;intro gZ;have hs:=(fZ r0 (show n+1<=a by omega)).subset (show q∈bW r0 (n+1) by rw [dq e];exact h);exact hn hs
def CL {r0:List au}{a b i:Nat}{ru:au}(R3:a<=b)(hi:(aA r0 (bW r0 a)).length<=i)(e:(aA r0 (bW r0 b))[i]?=some ru):∃q,q∈bW r0 b/\q∉bW r0 a/\ru∈fc q:=by
 obtain⟨t,ht⟩:=fZ r0 R3;have e2:aA r0 (bW r0 b)=aA r0 (bW r0 a)++t.flatMap fc:=by
  rw [<-ht];unfold aA;rw [rm,gh]
 rw [e2,oW hi] at e;obtain⟨q,hq,hr⟩:=gA.mp (bZ e);have nd:=zd r0 b;rw [<-ht,ik] at nd;exact⟨q,by rw [<-ht];exact eX _ hq,λh=>nd.2.2 q h q hq rfl,hr⟩
def wN {r0:List au}{a:Nat}(h:∀ru∈aA r0 (bW r0 a),∀p∈ru.2,again p=true->p∈bW r0 a):∀n,a<=n->bW r0 n=bW r0 a:=by
 intro n hn
 induction n with
 | zero=>rw [Nat.le_zero.mp hn]
 | succ n ih =>
  by_cases c:a=n+1
  .rw [c]
  have e:=ih ∅;cases e2:(aA r0 (bW r0 n))[n]? with
  | none=>rw [fM e2,e]
  | some ru =>
   rw [dq e2,e];rw [e] at e2;exact uu (h ru (bZ e2))
structure rg (zs:List Str)(r0:List au):Prop where
 nd:zs.Nodup
 tx:∀z∈zs,jE z
 fst:∃n0 n1 w2 w3 w4,zs=[n0,n1,w2,w3,w4]/\r0[0]?=some (n0,[n1,w2])/\r0[1]?=some (n1,[w3,w4])
 all:∀ru∈r0,ru.1∈zs.take 2/\(∃w∈ru.2,w∈zs.drop 2)/\ru.2.length<=3/\∀p∈ru.2,Pt zs p
 l8:r0.length<=8
def Pt.cp {zs:List Str}{p:Str}(hz:∀z∈zs,jE z)(h:Pt zs p):Cp p:=by
 obtain⟨l1,l2⟩:=h.len hz;refine⟨l1,l2,λc hc=>?_⟩;obtain⟨z,xc,m,e,mk⟩:=h;rw [e] at hc;rcases bN.mp hc with h | h
 .exact(show ∀c∈iu.cps.toList,c < 127 by decide +kernel) c ((hz z xc).sg c h)
 exact(show ∀c∈[42,43,63],c < 127 by decide) c (mk.2.1 c h)
def rg.Gs {zs:List Str}{r0:List au}(R:rg zs r0):B3 r0:=⟨R.l8,λru h=>(R.all ru h).2.2.1,λru h p hp=>((R.all ru h).2.2.2 p hp).cp R.tx⟩
def rg.pt {zs:List Str}{r0:List au}(R:rg zs r0) (n:Nat):(∀p∈bW r0 n,Pt zs p)/\∀ru∈aA r0 (bW r0 n),∀p∈ru.2,Pt zs p :=
 Aj (C:=Pt zs) (λru h p hp=>(R.all ru h).2.2.2 p hp) (λp a h=>Pt.once R.tx a h) n
def rg.QJ {zs:List Str}{r0:List au}(R:rg zs r0){p:Str}(h:Pt zs p)(a:again p=true):1<=Jr p/\Jr p<=3/\Jr (bK p)=Jr p - 1:=by
 obtain⟨z,hz,m,e,mk⟩:=h;have hm:=(Pt.nK (R.tx z hz) e mk).mp a;have l:m.length≠0:=λh=>hm (vi.mp h);have e2:sg (bK p)=sg z++m.dropLast:=by rw [oH,e,xB hm]
 rw [Dw (R.tx z hz) e mk,Dw (R.tx z hz) e2 mk.pop,List.length_dropLast];have:=mk.1;omega
def rg.inv {zs:List Str}{r0:List au}(R:rg zs r0):∀r i ru,dD r0 r<=i->(aA r0 (bW r0 (dD r0 r)))[i]?=some ru->∀p∈ru.2,again p=true->p∉bW r0 (dD r0 r)->Jr p+r<=3:=by
 intro r
 induction r with
 | zero =>
  intro i ru _ e p hp ha _;have:=R.QJ ((R.pt _).2 ru (bZ e) p hp) ha;omega
 | succ r ih =>
  intro i ru hi e p hp ha hn;obtain⟨q,q1,q2,q3⟩:=CL (nI r0 r) hi e;have hq:=(R.pt _).1 q q1;have qa:=iH r0 _ q q1;obtain⟨k,k1,k2,u6,k3,k4,k5⟩:=Ag _ q1 q2;have e':(aA r0 (bW r0 (dD r0 r)))[k]?=some u6:=by
   have hk:k < (aA r0 (bW r0 (dD r0 r))).length:=k2;have h1:(aA r0 (bW r0 (dD r0 r)))[k]?=some (aA r0 (bW r0 (dD r0 r)))[k]:=cQ hk;have h2:=ur (gp (r0:=r0) (fZ r0 k1)) h1;rw [k3] at h2;rw [h1,<-h2]
  have hm:=ih k u6 k1 e' q k4 k5 q2;have m1:=R.QJ hq qa;rcases uo q3 hp with rfl | rfl
  .exact absurd q1 hn
  omega
def rg.full {zs:List Str}{r0:List au}(R:rg zs r0):(aA r0 (bW r0 (dD r0 6))).length<=dD r0 6/\∀ru∈aA r0 (bW r0 (dD r0 6)),∀p∈ru.2,again p=true->p∈bW r0 (dD r0 6):=by
 have st:=wN (r0:=r0) (a:=dD r0 3) λru eE p hp ha=>by
  obtain⟨i,hi⟩:=i4 eE;by_cases c:i < dD r0 3
  .exact qI c hi hp ha
  apply tL;intro hn;have h1:=R.inv 3 i ru ∅ hi p hp ha hn;have h2:=R.QJ ((R.pt _).2 ru eE p hp) ha;omega
 have Yr:dD r0 3<=dD r0 4:=nI r0 3;have l45:dD r0 4<=dD r0 5:=nI r0 4;have l56:dD r0 5<=dD r0 6:=nI r0 5;have e4:bW r0 (dD r0 4)=bW r0 (dD r0 3):=st _ Yr;have e6:bW r0 (dD r0 6)=bW r0 (dD r0 3):=st _ ∅;have h:(aA r0 (bW r0 (dD r0 6))).length<=dD r0 6:=by
  rw [e6];exact cO (aF (dD r0 4)) ∅
 refine⟨h,λru eE p hp ha=>?_⟩;obtain⟨i,hi⟩:=i4 eE;have:=(bA.mp hi).1;exact qI ∅ hi hp ha
def zR {p:Str}{ru:au}(h:ru∈fc p):ru.2=[]\/bK p∈ru.2:=by
 unfold fc at h
 split at h
 .rcases aQ.mp h with rfl | h
  .exact .inl rfl
  rw [bx.mp h];exact .inr (by simp)
 split at h
 .rcases aQ.mp h with rfl | h
  .exact .inr (by simp)
  rw [bx.mp h];exact .inr (by simp)
 rcases aQ.mp h with rfl | h
 .exact .inl rfl
 rw [bx.mp h];exact .inr (by simp)
def iP {aa:List au}{g:G}(se:gM M11.bl aa g){x:Str}{ps:List Str}(hm:(x,ps)∈aa)(hv:∀p∈ps,(g p).isSome=true):∃n,g x=some n/\n<=1+(ps.map λp=>(g p).getD 0).sum:=by
 have:=se _ hm;unfold b9 at this;have a1:i8 g (x,ps)=true:=gb.mpr λp hp=>hv p hp;have s0:aM g (x,ps)=1+(ps.map λp=>(g p).getD 0).sum:=rfl;rw [a1,s0,j9] at this;cases gn:g x with
 | none=>rw [show g (x,ps).1=none from gn] at this;cases this
 | some m =>
  rw [show g (x,ps).1=some m from gn] at this;refine⟨m,rfl,?_⟩;have:¬(1+(ps.map λp=>(g p).getD 0).sum:Int) < m:=by
   simpa [M11.bl] using this
  omega
theorem rA (bH:List Str):∀(ps bf:List Str)(x:Str),(x∈bf\/(x∈ps/\x∉bH))->x∈oB bH bf ps
 | [],bf,x,h=>by
  rcases h with h | ⟨h,_⟩
  .exact h
  cases h
 | p::r,bf,x,h=>by
  show x∈oB bH (addW bH bf p) r;apply rA bH r;unfold addW;by_cases c:p∈bH
  .rw [av c];rcases h with h | ⟨h,n⟩
   .exact .inl h
   rcases aQ.mp h with z | z
   .exact absurd (z ▸ c) n
   exact .inr ⟨z,n⟩
  rw [ax c];rcases h with h | ⟨h,n⟩
  .exact .inl ((iJ _ _ _).mpr (.inl h))
  rcases aQ.mp h with z | z
  .exact .inl ((iJ _ _ _).mpr (.inr z))
  exact .inr ⟨z,n⟩
structure xo (zs:List Str)(r0:List au) (s:List Str):Prop where
 R:rg zs r0
 pt:∀p∈s,Pt zs p/\again p=true
 seen:∀ru∈aA r0 s,∀p∈ru.2,again p=true->p∈s
 Ul:∀ru∈aA r0 s,∀p∈ru.2,Pt zs p
 ord:∀ms:List Str,(∀ru∈r0,ru.1∈ms)->(∀ru∈aA r0 s,ru.1∈ms->∀x∈ru.2,x∈ms)->∀p∈s,p∈ms
def rg.g {zs:List Str}{r0:List au}(R:rg zs r0):xo zs r0 (bW r0 (dD r0 6)) where
 R:=R
 pt p h:=⟨(R.pt _).1 p h,iH r0 _ p h⟩
 seen:=R.full.2
 Ul:=(R.pt _).2
 ord ms h0 hc:=by
  have key:∀n,n<=dD r0 6->∀p∈bW r0 n,p∈ms:=by
   intro n
   induction n with
   | zero=>intro _ p h;cases h
   | succ n ih =>
    intro hn p hp;have ih:=ih ∅;cases e:(aA r0 (bW r0 n))[n]? with
    | none=>rw [fM e] at hp;exact ih p hp
    | some ru =>
     rw [dq e] at hp;rcases pU hp with h | h
     .exact ih p h
     have hm:=bZ e;have RD:=(gp (r0:=r0) (fZ r0 (show n<=dD r0 6 by omega))).subset hm;refine hc ru RD ?_ p h.1;rcases bN.mp hm with h2 | h2
     .exact h0 ru h2
     obtain⟨q,hq,hr⟩:=gA.mp h2;rw [lE hr];exact ih q hq
  exact key _ (aF _)
section
variable {zs:List Str}{r0:List au}{s:List Str}
def xo.head (g:xo zs r0 s){x:Str}(h:x∈hd (aA r0 s)):x∈zs.take 2\/x∈s:=by
 obtain⟨ru,eE,rfl⟩:=HK h;rcases bN.mp eE with h | h
 .exact .inl (g.R.all ru h).1
 obtain⟨q,hq,hr⟩:=gA.mp h;rw [lE hr];exact .inr hq
def xo.word (g:xo zs r0 s){w:Str}(hw:w∈zs.drop 2):w∉hd (aA r0 s):=λh=>by
 rcases g.head h with h | h
 .have nd:=g.R.nd;rw [<-vh 2 zs,ik] at nd;exact nd.2.2 w h w hw rfl
 have:=(g.pt w h).2;rw [(g.R.tx w (sZ hw)).again] at this;cases this
def xo.jL (g:xo zs r0 s){q:Str}(hq:q∈s){c:Nat}(hc:c=42\/c=63):(sg (bK q)).getLast?≠some c:=λe=>by
 obtain⟨⟨z,hz,m,e1,mk⟩,a⟩:=g.pt q hq;have hm:=(Pt.nK (g.R.tx z hz) e1 mk).mp a;rw [oH,e1,xB hm] at e;have JW:=pz e;by_cases c0:m.dropLast=[]
 .rw [c0,eF] at JW;exact(g.R.tx z hz).bL (c:=c) (by rcases hc with rfl | rfl <;> decide) JW
 rw [List.getLast?_append] at e;cases h:m.dropLast.getLast? with
 | none=>exact c0 (tN.mp h)
 | some d =>
  rw [h] at e;cases e;have:=mk.2.2 c (pz h);omega
def xo.em (g:xo zs r0 s){x:Str}(h:Em (aA r0 s) x):(sg x).getLast?=some 42\/(sg x).getLast?=some 63:=by
 induction h with
 | @mk ru h1 h2 ih =>
  rcases bN.mp h1 with h | h
  .obtain⟨w,hw,hd⟩:=(g.R.all ru h).2.1;exact absurd (Ac (h2 w hw)) (g.word hd)
  obtain⟨q,hq,hr⟩:=gA.mp h;have ehd:=lE hr;rw [ehd];by_cases We:(sg q).getLast?=some 42
  .exact .inl We
  by_cases NW:(sg q).getLast?=some 43
  .have ho:bK q∈ru.2:=by
    unfold fc at hr;rw [ax We,av NW] at hr;rcases aQ.mp hr with rfl | hr
    .simp
    rw [bx.mp hr];simp
   rcases ih _ ho with h | h
   .exact absurd h (g.jL hq (.inl rfl))
   exact absurd h (g.jL hq (.inr rfl))
  obtain⟨⟨z,hz,m,e1,mk⟩,a⟩:=g.pt q hq;unfold again at a;rw [jf] at a;have a2:=a.2;simp only [Bool.or_eq_true,beq_iff_eq] at a2;rcases a2 with (h | h) | h
  .exact .inl h
  .exact absurd h NW
  exact .inr h
def xo.Uy (g:xo zs r0 s){q:Str}(hq:q∈s):¬Em (aA r0 s) (bK q):=λh=>by
 rcases g.em h with h | h
 .exact g.jL hq (.inl rfl) h
 exact g.jL hq (.inr rfl) h
def xo.HG {r0:List au}{s:List Str}{q:Str}(hq:q∈s){ru:au}(h:ru∈fc q):ru∈aA r0 s:=eX _ (gA.mpr ⟨q,hq,h⟩)
def xo.good (g:xo zs r0 s):Good (aA r0 s) (λx=>x.length) (λ_=>1) where
 least gg st se:=by
  have gF:∀x,x∉hd (aA r0 s)->∀ru∈aA r0 s,x∈ru.2->gg x=some 0:=by
   intro x nn ru eE hm;refine du.keep (J:=λg=>g x=some 0) (λg KY j h2 _=>?_) st ?_
   .show cZ g KY.1 _ x=some 0;unfold cZ;rw [ax (λz=>nn (by rw [z];exact wa h2))];exact j
   show vc (aA r0 s) x=some 0;unfold vc;rw [av (rA _ _ _ _ (.inr ⟨gA.mpr ⟨ru,eE,hm⟩,nn⟩))]
  obtain⟨n0,n1,w2,w3,w4,ez,e0,e1⟩:=g.R.fst;have m0:(n0,[n1,w2])∈aA r0 s:=jh _ (bZ e0);have m1:(n1,[w3,w4])∈aA r0 s:=jh _ (bZ e1);have wd:∀w∈[w2,w3,w4],w∉hd (aA r0 s):=λw hw=>g.word (by rw [ez];exact hw);have v2:=gF w2 (wd w2 (by simp)) _ m0 (by simp);have v3:=gF w3 (wd w3 (by simp)) _ m1 (by simp);have v4:=gF w4 (wd w4 (by simp)) _ m1 (by simp);obtain⟨k1,g1,l1⟩:=iP se m1 (λp hp=>by
   rcases aQ.mp hp with rfl | hp
   .rw [v3];rfl
   rw [bx.mp hp,v4];rfl)
  have l1:k1<=1:=by
   rw [bu,bu,jb,v3,v4] at l1;simpa using l1
  obtain⟨k0,g0,l0⟩:=iP se m0 (λp hp=>by
   rcases aQ.mp hp with rfl | hp
   .rw [g1];rfl
   rw [bx.mp hp,v2];rfl)
  have l0:k0<=2:=by
   rw [bu,bu,jb,g1,v2] at l0;have:k0<=1+(k1+(0+0)):=l0;omega
  have tk:∀x∈zs.take 2,∃n,gg x=some n/\n<=2:=by
   intro x hx;rw [ez] at hx;rcases aQ.mp hx with rfl | hx
   .exact⟨k0,g0,l0⟩
   rw [bx.mp hx];exact⟨k1,g1,∅⟩
  have key:∀(n:Nat)(q:Str),q.length<=n->q∈s->∃m,gg q=some m/\m<=2+(n:Int):=by
   intro n
   induction n with
   | zero =>
    intro q hl hq;have:=((g.pt q hq).1.len g.R.tx).1;omega
   | succ n ih =>
    intro q hl hq;have emp:(q,[])∈fc q->∃m,gg q=some m/\m<=2+((n+1:Nat):Int):=λh=>by
     obtain⟨m,gm,lm⟩:=iP se (xo.HG hq h) (λp hp=>by cases hp);exact⟨m,gm,by simp at lm;omega⟩
    by_cases NW:(sg q).getLast?=some 43
    .have h1:(q,[bK q])∈fc q:=by
      unfold fc;rw [ax (by rw [NW];decide),av NW];exact bp
     have hm:=xo.HG (r0:=r0) hq h1;have po:=g.Ul _ hm (bK q) (by simp);have lo:=lL (z:=q);have lq:=((g.pt q hq).1.len g.R.tx).1;obtain⟨v,gv,lv⟩:∃v,gg (bK q)=some v/\v<=2+(n:Int):=by
      by_cases ca:again (bK q)=true
      .exact ih (bK q) ∅ (g.seen _ hm _ (by simp) ca)
      by_cases ch:bK q∈hd (aA r0 s)
      .rcases g.head ch with h | h
       .obtain⟨v,gv,lv⟩:=tk _ h;exact⟨v,gv,∅⟩
       exact absurd (g.pt _ h).2 ca
      exact⟨0,gF _ ch _ hm (by simp),∅⟩
     obtain⟨m,gm,lm⟩:=iP se hm (λp hp=>by rw [bx.mp hp,gv];rfl);rw [bu,jb,gv] at lm;have lm:m<=1+(v+0):=lm;exact⟨m,gm,∅⟩
    refine emp ?_;unfold fc
    split
    .exact bp
    exact bp
  intro h hh;rcases g.head hh with hx | hx
  .obtain⟨n,gn,ln⟩:=tk h hx;exact⟨n,gn,∅⟩
  obtain⟨m,gm,lm⟩:=key 13 h ((g.pt h hx).1.len g.R.tx).2 hx;exact⟨m,gm,∅⟩
 met kN ms NJ h0 mc:=by
  obtain⟨n0,n1,w2,w3,w4,ez,e0,e1⟩:=g.R.fst;have hl:0 < r0.length:=(bA.mp e0).1;have er:(aA r0 s)[0]?=some (n0,[n1,w2]):=by
   unfold aA;rw [oV hl];exact e0
  rw [er] at NJ;cases NJ;have UG:∀ru∈aA r0 s,ru.1∈ms->∀x∈ru.2,x∈ms:=λru eE=>mc ru (by rw [cU];exact eE);have h1:n1∈ms:=UG _ (bZ er) h0 n1 (by simp);have BQ:∀ru∈r0,ru.1∈ms:=λru eE=>by
   have h:=(g.R.all ru eE).1;rw [ez] at h;rcases aQ.mp h with h | h
   .rw [h];exact h0
   rw [bx.mp h];exact h1
  intro h hh;obtain⟨ru,eE,rfl⟩:=HK hh;rcases bN.mp eE with h | h
  .exact BQ ru h
  obtain⟨q,hq,hr⟩:=gA.mp h;rw [lE hr];exact g.ord ms BQ UG q hq
 loop aX he _ n k j hit ru z ek Ki:=by
  obtain⟨u6,z',e1,rfl,e2,hz,hl⟩:=hit;rw [ek] at e1;cases e1;rw [Ki] at e2;cases e2;have other:∀x∈ru.2,x≠z->Em (aA r0 s) x:=λx hx nx=>by
   obtain⟨i,hi⟩:=i4 hx;have ni:i≠j:=λe=>by rw [e,Ki] at hi;cases hi;exact nx rfl
   exact Eh he x (cK (vX hl hi ni))
  show z.length < ru.1.length;rcases bN.mp (bZ ek) with h | h
  .obtain⟨w,hw,hd⟩:=(g.R.all ru h).2.1;by_cases c:w=z
   .rw [c] at hd;exact absurd hz (g.word hd)
   exact absurd (Ac (other w hw c)) (g.word hd)
  obtain⟨q,hq,hr⟩:=gA.mp h;rw [lE hr];have lq:=((g.pt q hq).1.len g.R.tx).1;have lo:=lL (z:=q);rcases uo hr (bZ Ki) with rfl | rfl
  .rcases zR hr with h | h
   .rw [h] at Ki;cases Ki
   exact absurd (other _ h (λe=>by rw [e] at lo;omega)) (g.Uy hq)
  omega
 SV:=by
  refine⟨λ_=>(show (0:Int)<=1 by decide),λru eE Nr=>?_⟩;have e:ru.2=[]:=by
   rcases bN.mp eE with h | h
   .obtain⟨w,hw,hd⟩:=(g.R.all ru h).2.1;exact absurd (Ac (Nr w hw)) (g.word hd)
   obtain⟨q,hq,hr⟩:=gA.mp h;rcases zR hr with h | h
   .exact h
   exact absurd (Nr _ h) (g.Uy hq)
  rw [e];show (1:Int)+0<=1
  decide
 most h _:=by show (1:Int)<=60;decide
end
end fh
namespace PySem
open Sem (wp)
open PySem.AutoSeq1 (wpAny_loadPart')
def jv (l:Addr)(items:Array Value) (n:Nat)(ve:Option Addr)(sl:Array (Option Value))(t:Tok) :
  Meets (Builtin.«enumerate.__new__» ⟨[.type "enumerate",.ref l],[("start",.int 1 t)]⟩) (λ_ R s=>s.heap.get? l=some { cls:=.type "list",dict:=ve,data:=.seq items n,slots:=sl } /\
   R (.ok (.ret (.ref (s.heap.push { cls:=.type "list_iterator",data:=.fields #[.ref l,.int 0 0] }).objs.size)))
    { s with heap:=(s.heap.push { cls:=.type "list_iterator",data:=.fields #[.ref l,.int 0 0] }).push { cls:=.type "enumerate",data:=.fields #[.none,.bool false,.ref s.heap.objs.size,rawInt 1,.none,.none] } }) :=
 .of_wp λprog w A R s h=>by
  obtain⟨hp,g,d,tk,os⟩:=s;obtain⟨hl,h⟩:=h;have M6:=sub_enumerate;have hL:Heap.IsList (Shared.heap ⟨hp,g,d,tk,os⟩) l items:=⟨_,hl,rfl,n,rfl⟩
  wp_walk using nX hl
  refine wpAny_stack_any λst=>aZ ?_
  split
  .rename_i c _ _ _ _ _
   cases (c == Value.type "enumerate")
   .wp_walk using nX hl,kP hL
    exact⟨_,rfl,h⟩
   wp_walk using nX hl,kP hL
   exact⟨_,rfl,h⟩
  wp_walk using nX hl,kP hL
  exact⟨_,rfl,h⟩
section
variable {prog:Program}{w:World}{A:Around}{E:Value->Shared->Prop}{s:Shared}
def kj {T newId:String}{self:Value}{rest:List Value}{kw:List (Str×Value)}(hl:typeLookup (.type T) "__init__"=pure (some (.builtin "object.__init__")))
  (hm:Bind.madeBy (.type T)=pure (some newId))(qY:(some newId != some "object.__new__")=true) :
  Meets (Builtin.«object.__init__» ⟨self::rest,kw⟩) (λ_ R s=>s.TypeIs self T/\R (.ok (.ret .none)) s):=by
 refine Meets.of_wp λprog w A R s hs=>?_;obtain⟨hT,hq⟩:=hs;cases rest with
 | nil =>
  cases kw with
  | nil=>exact aZ ⟨_,rfl,hq⟩
  | cons a rest =>
   repeat (any_goals (first | assumption | wp_step))
   exact⟨_,rfl,hq⟩
 | cons a rest =>
  repeat (any_goals (first | assumption | wp_step))
  exact⟨_,rfl,hq⟩
def q_ {T newId:String}{Bn:Builtin}{args:List Value}{kw:List (Str×Value)}{S:Spec}{Q:Value->Shared->Prop}(ft:TypeCalled T newId "object.__init__")
  (qY:(some newId != some "object.__new__")=true)(hct:checkTypeCall T ⟨args,kw⟩=pure ())(ZA:checkBuiltinCall newId ⟨.type T::args,kw⟩=pure ())
  (bQ:∀obj,argsOk "object.__init__" ⟨obj::args,kw⟩)(Km:entryFor table newId=some Bn)(g:Meets (Bn ⟨.type T::args,kw⟩) S)
  (h:S A.in1 (wants (λobj s₁=>s₁.TypeIs obj T/\Q obj s₁) E) s):wpAny (model prog w) A (call (.type T) args kw) Q E s:=by
 obtain⟨c,tl,Y4⟩:=ft.mro;have Ve:=ft.made;have M6:=ft.sub;refine ji (codeAny_of_tree ?_);show wpAny _ _ (callAny (.type T) _) _ _ _;refine aZ ⟨Code.quiet_builtin _ nofun,mr F.entry_type_call ?_⟩;rw [Around.under_plain (weight_type_call_type T args kw) (units_type_call_type T args kw)];have h1:=ft.notType;have h2:=ft.canCreate
 repeat (any_goals (first | assumption | wp_step))
 refine jj (pj ft.plain Km (wpAny_of_eq ZA (g prog w A.in1 _ s h))) λr s₁ hr=>?_;cases r with
 | error e=>exact hr
 | ok fl =>
  cases fl with
  | ret obj =>
   have hT:=hr.1;have hli:=ft.init.lookup;have hbi:=ft.init.bind obj
   repeat (any_goals (first | assumption | wp_step))
   refine jj (pj ft.init.plain F.entry_object_init (ft.init.check _ _ _ _ _ _ _ _ hT (bQ obj) (kj ft.init.lookup ft.made qY prog w A.in1 (wants (λr s₂=>r=.none/\Q obj s₂) E) s₁ ⟨hT,rfl,hr.2⟩))) λr₂ s₂ Rn=>?_;cases r₂ with
   | error e=>exact Rn
   | ok fl₂ =>
    cases fl₂ with
    | ret r =>
     obtain⟨rfl,hq⟩:=Rn
     repeat (any_goals (first | assumption | wp_step))
    | _=>exact Rn.elim
  | _=>exact hr.elim
def qH {M:Model}{pos:Pos}{T:String}{first:List Value}{args:List (Bool×Sem Value)}{keywords:List (Option Str×Sem Value)}{Q:Value->Shared->Prop}
  (qe:args.any (·.1)=false)(Zb:keywords.any (·.1.isNone)=false)
  (h:wpAny M A (evalArgs (.type T) true args keywords) (λa s₁=>wpAny M A (call (.type T) (first++a.pos) a.kw) Q E s₁) E s) :
  wpAny M A (callWith pos (.type T) first args keywords) Q E s:=by
 unfold callWith;refine aJ (jc (cJ h (λa s₁ h₁=>aJ (wpAny_standAt ?_)) λ_ _ x=>x));simp only [qe,Zb,Bool.or_false];refine aJ (aZ ?_);exact aJ (cJ h₁ (λr s₂ hr=>aJ (jc (wpAny_point (aZ hr)))) λ_ _ x=>x)
def pE (a:Value)(t:Tok):checkTypeCall "enumerate" ⟨[a],[("start",.int 1 t)]⟩=pure ():=by kernel_rfl
def qW (a:Value)(t:Tok):checkBuiltinCall "enumerate.__new__" ⟨[.type "enumerate",a],[("start",.int 1 t)]⟩=pure ():=by kernel_rfl
def qd (obj a:Value)(t:Tok):argsOk "object.__init__" ⟨[obj,a],[("start",.int 1 t)]⟩:=by kernel_rfl
def y_ {l:Addr}{items:Array Value}{t:Tok}{Q:Value->Shared->Prop}(hL:s.heap.IsList l items)
  (h:∀h',IsEnum h' (s.heap.objs.size+1) s.heap.objs.size 1 .none->h'.IsListIter s.heap.objs.size l 0->h'.objs.size=s.heap.objs.size+2 ->
   (∀b o,s.heap.get? b=some o->h'.get? b=some o)->Q (.ref (s.heap.objs.size+1)) { s with heap:=h' }) :
  wpAny (model prog w) A (call (.type "enumerate") [.ref l] [("start",.int 1 t)]) Q E s:=by
 obtain⟨⟨c,ve,dt,sl⟩,hl,hc,n,hd⟩:=hL;replace hc:c=.type "list" := hc;replace hd:dt=.seq items n:=hd;subst hc hd;refine q_ F.called_enumerate nofun (pE _ _) (qW _ _) (λobj=>qd obj _ _) F.entry_enumerate_new
  (jv l items n ve sl t) ⟨hl,?_⟩
 have hz:(s.heap.push { cls:=.type "list_iterator",data:=.fields #[.ref l,.int 0 0] }).objs.size=s.heap.objs.size+1:=jm ..;show _/\_;rw [hz];have he:IsEnum ((s.heap.push { cls:=.type "list_iterator",data:=.fields #[.ref l,.int 0 0] }).push
   { cls:=.type "enumerate",data:=.fields #[.none,.bool false,.ref s.heap.objs.size,rawInt 1,.none,.none] }) (s.heap.objs.size+1) s.heap.objs.size 1 .none:=by
  have:=cV (s.heap.push { cls:=.type "list_iterator",data:=.fields #[.ref l,.int 0 0] })
   (o:={ cls:=.type "enumerate",data:=.fields #[.none,.bool false,.ref s.heap.objs.size,rawInt 1,.none,.none] }) rfl
  rw [hz] at this;exact this
 exact⟨⟨_,he,rfl⟩,h _ he ⟨_,bS _ (cV _ rfl),rfl,rfl⟩ (by rw [jm,hz]) λb o x=>bS _ (bS _ x)⟩
end
def Draws.list1 {prog:Program}{w:World}{A:Around}(hh:A.handled=none)(it l:Addr)(qY:l≠it)(items:Array Value) :
  Draws prog w A it [it,l] (items.size+1) (λi v=>∃j,i=j+1/\items[j]?=some v) (λi h=>∃j,i=j+1/\h.IsListIter it l j/\h.IsList l items) :=
 have D:=Draws.list (prog:=prog) (w:=w) hh it l qY items
 ⟨λ_ _ ⟨j,_,st⟩=>D.live j _ st,λ_ _ _ ⟨j,e,st⟩ hk=>⟨j,e,D.frame j _ _ st hk⟩,(λi s Q E hi ⟨j,e,st⟩ hQ=>by
   subst e;exact D.item j s Q E ∅ st λx h' tk hp hs hk=>hQ x h' tk ⟨j,rfl,hp⟩ ⟨j+1,rfl,hs⟩ hk),
  (λs Q E ⟨j,e,st⟩ hE=>by
   have e':j=items.size:=by omega
   subst e';exact D.done s Q E st hE)⟩
end PySem
namespace L2
open PySem PySem.Spec PyProof.Rows
def EG (K:aV)(a:Addr):It :=
 ⟨λi H=>∃xs x,aH K H a xs/\xs[i]?=some x,λi H x H'=>∃t y,x=.ref t/\H t=none/\H'=upd H t (.tup [.int ((i+1:Nat):Int),y])/\∀xs,aH K H a xs->xs[i]?=some y,λi H=>∃xs,aH K H a xs/\xs.length<=i⟩
def xI {P:Program}{w:World}{K:aV}{elts:List Expr}{k:Nat}{mK:Pos}(a e it:Addr)(Gi:e≠it) :
  Turn P w K (.Tuple elts k mK) (EG K a) [e,it] e (λi h=>(∃old,IsEnum h e it ((i+1:Nat):Int) old)/\h.IsListIter it a i) where
 mem:=by simp
 obj:=λi h st b hb=>by
  obtain⟨⟨old,he⟩,o,e1,c,d⟩:=st;rcases aQ.mp hb with rfl | hb
  .exact⟨_,he,λv z=>by cases z⟩
  obtain rfl:b=it:=by simpa using hb
  exact⟨o,e1,λv z=>by rw [d] at z;cases z⟩
 keep:=λi h h' st k=>⟨⟨st.1.choose,k e (by simp) _ st.1.choose_spec⟩,st.2.at λo q=>k it (by simp) o q⟩
 item:=by
  intro X hP hw hK hc i ah s σ H E I hf st hg;subst hP hw hK;obtain⟨xs,x,hq,hx⟩:=hg;obtain⟨aL,rv,p,hz⟩:=I.list hq;obtain⟨u,hu,ru⟩:=rv.get hx;obtain⟨⟨old,he⟩,hit⟩:=st;have gZ:i < aL.length:=(bA.mp hu).1;have UC:a≠it:=λz=>by
   obtain⟨o,h1,h2,_⟩:=p.isList;obtain⟨o2,h3,h4,_⟩:=hit;rw [z,h3] at h1;cases h1;rw [h4] at h2;revert h2
   decide
  have XD:e≠a:=λz=>by
   obtain⟨o,h1,h2,_⟩:=p.isList;have Gj:=he;unfold IsEnum at Gj;rw [z,h1] at Gj;cases Gj;revert h2;show ¬(Value.type "enumerate"=Value.type "list")
   decide
  refine wpAny_pyNext_enum_itemD (Draws.list1 (show X.A.in1.handled=none from I.ok.hd hc) it a UC aL.toArray) he ⟨i,rfl,hit,p.isList⟩ (by simp;omega) Gi (by simp [Gi,XD]) λu' h1 tk YK ho Rf hT hsz hk=>?_;obtain⟨j,ej,Rb⟩:=YK;have eji:j=i:=by omega
  subst eji;have euu:u'=u:=by
   have e2:aL[j]?=some u':=by simpa using Rb
   rw [hu] at e2;cases e2;rfl
  subst euu;obtain⟨j',ej',DP,_⟩:=Rf;have Sv:j'=j+1:=by omega
  subst Sv;refine⟨_,rfl,xt ho λh2 Nt sb=>?_⟩;have ne:s.heap.objs.size≠e:=iZ (ba he);have kk:∀b o,b≠e->b≠it->s.heap.get? b=some o->h2.get? b=some o:=λb o n1 n2 q=>(sb.2 b n1).trans (hk b o n1 n2 q);have T2:h2.get? s.heap.objs.size=some { cls:=.type "tuple",data:=.seq #[.int ((j+1:Nat):Int) tk,u'] }:=(sb.2 _ ne).trans hT;have fe:=hf e (by simp);have fi:=hf it (by simp);have fT:H s.heap.objs.size=none:=I.bQ.fresh (aF _);have tr:∀b v,H b=some v->b≠e/\b≠it:=λb v q=>⟨λz=>(by rw [z,fe.1] at q;cases q),λz=>(by rw [z,fi.1] at q;cases q)⟩;have nc:∀b,b∉[e,it]->b≠e/\b≠it:=λb z=>⟨λq=>z (by simp [q]),λq=>z (by simp [q])⟩;have lt:∀b o,s.heap.get? b=some o->b≠s.heap.objs.size:=λb o q=>bM (ba q);have I2:Inv X ah σ (upd H s.heap.objs.size (.tup [.int ((j+1:Nat):Int),x])) { s with heap:=h2,toks:=tk+1 }:=by
   refine I.call (g':=s.gens) (t':=tk+1) (d':=s.drawn) (ch:=[e,it]) ⟨λb o q _ _ c=>kk b o (nc b c).1 (nc b c).2 q,λb o q _ _ c=>⟨o.slots,kk b o (nc b c).1 (nc b c).2 q⟩,
    λb o q n _=>by rw [ai (lt b o q)];exact n,λb o q c=>⟨o,kk b o (nc b c).1 (nc b c).2 q⟩,λb ys q=>by rw [ai (ao q fT)];exact q,λb o v q=>by rw [ai (ao q fT)];exact q,
    λb ps q=>⟨#[],by rw [ai (ao q fT),q];simp⟩⟩ (λb v q=>?_) I.bare (λb hb=>?_)
   .by_cases hb:b=s.heap.objs.size
    .subst hb;rw [ae] at q;cases q;exact⟨by show 2<=sizeLine;decide,[.int ((j+1:Nat):Int) tk,u'],.cons ⟨_,rfl⟩ (.cons ru .nil),_,T2,rfl,_,rfl⟩
    rw [ai hb] at q;refine(I.bQ b v q).g6 (λc o i9 z=>?_) (λc q'=>by rw [ai (ao q' fT)];exact q') λc ys q'=>by rw [ai (ao q' fT)];exact q'
    rcases i9 with rfl | i9
    .exact kk c o (tr c _ q).1 (tr c _ q).2 z
    exact kk c o (tr c _ i9).1 (tr c _ i9).2 z
   rcases aQ.mp hb with rfl | hb
   .exact⟨fe.2.2.2.1,fe.2.1,fe.2.2.2.2.1,fe.2.2.2.2.2⟩
   obtain rfl:b=it:=by simpa using hb
   exact⟨fi.2.2.2.1,fi.2.1,fi.2.2.2.2.1,fi.2.2.2.2.2⟩
  refine⟨.ref s.heap.objs.size,_,I2,rfl,⟨_,x,rfl,fT,rfl,λys hy=>by rw [I.lM hy hq];exact hx⟩,⟨⟨_,Nt⟩,DP.at λo q=>(sb.2 it Gi.symm).trans q⟩,λb hb=>?_⟩;have BS:H b=none/\∃o,s.heap.get? b=some o:=by
   rcases aQ.mp hb with rfl | hb
   .exact⟨fe.1,_,he⟩
   obtain rfl:b=it:=by simpa using hb
   obtain⟨o,q,_⟩:=hit;exact⟨fi.1,o,q⟩
  obtain⟨n,o,q⟩:=BS;rw [ai (lt b o q)];exact n
 done:=by
  intro X hP hw hK hc i ah s σ H E I hf st hg;subst hP hw hK;obtain⟨xs,hq,hx⟩:=hg;obtain⟨aL,rv,p,hz⟩:=I.list hq;obtain⟨⟨old,he⟩,hit⟩:=st;obtain⟨f0,f1,f2,f3,f4,f5⟩:=hf it (by simp);have hl:=rv.length;have UC:a≠it:=λz=>by
   obtain⟨o,h1,h2,_⟩:=p.isList;obtain⟨o2,h3,h4,_⟩:=hit;rw [z,h3] at h1;cases h1;rw [h4] at h2;revert h2
   decide
  have D:Draws X.prog X.w X.A.in1 it [it,a] 0 (λ_ _=>False) (λ_ h=>h.IsListIter it a i/\h.IsList a aL.toArray) :=
   ⟨(λ_ _ st=>let ⟨o,ho,_⟩:=st.1;⟨o,ho⟩),λ_ _ _ st hk=>⟨st.1.at λo e=>hk it (by simp) o e,st.2.at λo e=>hk a (by simp) o e⟩,λi s Q E hi st hQ=>absurd hi (Nat.not_lt_zero _),λs Q E st hE=>wpAny_nextOf_list_end (show X.A.in1.handled=none from I.ok.hd hc) st.1 st.2 (by simp;omega) hE⟩
  exact wpAny_pyNext_enum_endD D he ⟨hit,p.isList⟩ λh' eb=>⟨rfl,I.turned (t':=s.toks) (λb o hb e=>eb b o hb e) f0 f1 f3 f4 f5⟩
 self:=λ_ _ _ _ _ st h=>mw st.1.choose_spec h
def JG (K:aV)(ta:TA):TI:=λσ H R=>ta σ H λvs H1=>Pe vs (aH K H1) λa=>R (EG K a) H1
def CY {X:Cx}{elts:List Expr}{k:Nat}{mK:Pos}{l:Expr}{ta:TA}{p pos kp cp:Pos}(hg:Gl X "enumerate")(hm:X.mg "enumerate"=none)(ha:PA X [l] ta)
  (he:backTo pos (starEach [l] X.env)=(false,eval l X.env)::backTo pos (starEach [] X.env):=by rfl)(hp:(backTo pos (starEach [l] X.env)).any (·.1)=false:=by rfl) :
  PI X (.Tuple elts k mK) (.Call (.Name "enumerate" p) [l] [⟨some "start",.Constant (.int 1) 0 cp,kp⟩] pos) (JG X.K ta):=by
 intro ah s σ H R I h;refine nV (ig I hg hm nH ?_);refine qH hp rfl ?_;rw [he];refine evalArgs_kwB rfl ?_;rw [<-he];refine cD (ha pos ah s σ H _ I h) λus s1 a8=>?_;obtain⟨vs,H1,I1,r1,q1⟩:=a8;refine kws_cons (cD (ar (X:=X) ah s1 σ H1 (λv H=>v=.int 1/\H=H1) I1 ⟨rfl,rfl⟩) λv s2 a8=>?_);obtain⟨x2,H2,I2,r2,e2,e3⟩:=a8;refine kws_nil ?_;subst e2 e3;obtain⟨t,rfl⟩:=r2;obtain⟨a,xs,e,hq,q⟩:=q1;subst e;obtain⟨u,rfl,rx⟩:=r1.one;cases rx;obtain⟨aL,rv,pl,hz⟩:=I2.list hq;refine y_ pl.isList λh1 he hit hsz hk=>mw he ?_;refine⟨s2.heap.objs.size+1,[s2.heap.objs.size+1,s2.heap.objs.size],_,_,_,rfl,I2.kept (t':=s2.toks) λb o e=>hk b o e,xI a _ _ (iZ (kO _)),⟨⟨_,he⟩,hit⟩,λb hb=>?_,q⟩;rcases aQ.mp hb with rfl | hb
 .exact I2.qk (ja _) (I2.bQ.fresh (ja _))
 obtain rfl:b=s2.heap.objs.size:=by simpa using hb
 exact I2.qk (aF _) (I2.bQ.fresh (aF _))
def Bg {K:aV}{a:Addr}{xs:List V}{g:TG}{tb:TS}{D:Ends}{σ:St}{H:Hp}(Pv:Nat->St->Hp->Prop)(h0:Pv 0 σ H)(hl:∀i σ H,i<=xs.length->Pv i σ H->aH K H a xs)
  (hs:∀i x σ H t,xs[i]?=some x->Pv i σ H->H t=none->g (.ref t) σ (upd H t (.tup [.int ((i+1:Nat):Int),x])) λσ2 H2=>tb { D with nx:=Pv (i+1),ct:=Pv (i+1),bk:=D.nx } σ2 H2)(hd:∀σ H,Pv xs.length σ H->D.nx σ H) :
  ∃W:Nat->Nat->St->Hp->Prop,(∃m,W 0 m σ H)/\∀i m σ H,W i m σ H ->
   ((EG K a).stop i H/\D.nx σ H)\/((EG K a).go i H/\∃N:St->Hp->Prop,(∀σ' H',N σ' H'->∃m',m' < m/\W (i+1) m' σ' H')/\∀x H',(EG K a).mh i H x H'->g x σ H' λσ2 H2=>tb { D with nx:=N,ct:=N,bk:=D.nx } σ2 H2):=by
 refine⟨λi m σ H=>m=xs.length - i/\i<=xs.length/\Pv i σ H,⟨xs.length,by simp,cT _,h0⟩,?_⟩;rintro i m σ H ⟨rfl,hi,p⟩;have q:=hl i σ H hi p;by_cases gZ:i < xs.length
 .refine .inr ⟨⟨xs,xs[i],q,by simp [gZ]⟩,Pv (i+1),λσ' H' p'=>⟨xs.length - (i+1),∅,rfl,gZ,p'⟩,λx H' y=>?_⟩;obtain⟨t,y0,rfl,ht,rfl,y⟩:=y;exact hs i y0 σ _ t (y xs q) p ht
 have e:i=xs.length:=by omega
 subst e;exact .inl ⟨⟨xs,q,aF _⟩,hd σ H p⟩
end L2
namespace fh
open PySem L2 M11
abbrev xV:Stmt:=top 43
section
def wordsOf (z:Str):List Str:=(Txt.split z ⟨#[32]⟩).filter λu=>((u.length:Int) != 0)
inductive dr:List au->List au->List (List Str)->List au->List au->Prop
 | nil (r s):dr r s [] r s
 | none (r s rows r' s')(t:dr r s rows r' s'):dr r s ([]::rows) r' s'
 | mark (r s z ws rows r' s')(h:(sg z).head?=some 35)(t:dr r s rows r' s'):dr r s ((z::ws)::rows) r' s'
 | row (r s z ws rows r1 s1 r' s')(h:(sg z).head?≠some 35)(o:sL r s (z::ws) r1 s1)(lr:r.length<=100000)(ls:s.length<=100000)(t:dr r1 s1 rows r' s'):dr r s ((z::ws)::rows) r' s'
theorem Cj (c:Nat):∀(l:List Nat),∀p∈sp c l,p.length<=l.length
 | [],p,hp=>by rw [bx.mp hp];exact aF _
 | a::r,p,hp=>by
  have ih:=Cj c r;unfold sp at hp
  split at hp
  .rcases aQ.mp hp with rfl | hp
   .exact cT _
   exact sO (ih p hp)
  obtain⟨h,t,e⟩:=Hc c r;rw [e] at hp ih;rcases aQ.mp hp with rfl | hp
  .have:=ih h bp;simp at this ⊢;exact this
  exact sO (ih p (bC _ hp))
def split_len {c:Nat}{z p:Str}(h:p∈Txt.split z ⟨#[c]⟩):p.length<=z.length:=by
 have h2:sg p∈sp c (sg z):=by rw [<-kX];exact il h
 have:=Cj c _ _ h2;unfold sg at this;simpa [Str.length] using this
def zG (K:aV)(Cg T1 T2 T3:Addr):Sp:=λvs H Q _=>∃(z:Str)(aa mM:List au) (n:Nat)(jC:List au)(rk:Str->Nat)(b:Str->Int),vs=[.str z]/\z.length<=90000/\dr [] [] ((Txt.split z ⟨#[10]⟩).map wordsOf) aa mM /\
 jC=aA aa (bW aa n)/\jC.length<=n/\n<=100000/\(∀ru∈jC,∀p∈ru.2,p.length<=1000) /\
 jC.length < 64/\(∀ru∈jC,ru.2.length<=8)/\jC≠[]/\mM.length<=1000/\(∀ru∈mM,ru.2.length<=8)/\(mM.flatMap (·.2)).Nodup/\Good jC rk b/\xn T1 T2 T3 H /\
 ∀(g bt:Addr)(rs ss:List Addr)(H0 H':Hp),aC H H0->ma T1 T2 T3 H0 H'->xn T1 T2 T3 H'->aR K H0 rs jC->aR K H0 ss mM->Ww H0 H' Cg g rs ss bt->H0 g=none->Q (.ref g) H'
def jH:aK ["text","rules","strengths","number","row","words"] ["text"] (az xV):=iL rfl rfl rfl rfl nofun
def De {Cg C T1 T2 T3 fG:Addr}{VF:FuncData}(F:hZ K "read_grammar" "read_grammar" xV f fd)(T:Txt mg)(GR:aE P w K mg base 3 "read_row" ["words","rules","strengths"] (rH K))(GA:aE P w K mg base 2 "with_added_rules" ["rules"] (vC K))
  (MG:Mk K Cg fG)(FG:bI P w K mg base e_ 7 fG VF ["self","rules","strengths"] (zM K Cg C T1 T2 T3))(B0:Binds K VF ["self","rules","strengths"] [])(mG:mg "Grammar"=some (.ref Cg)):bI P w K mg base e_ 9 f fd ["text"] (zG K Cg T1 T2 T3):=by
 refine F.ok jH (λvs H Q E h=>?_) (λdN A outer s H vs Q E hr h=>?_)
 .obtain⟨z,aa,mM,n,jC,rk,b,rfl,_⟩:=h;rfl
 obtain⟨z,aa,mM,n,jC,rk,b,rfl,hz,tok,JU,hn,Vc,va,OZ,h8,qY,u_,M7,K7,gd,hT,q⟩:=h;have U5:aa.length<=64:=by rw [JU,gT] at OZ;omega
 refine⟨_,ak (aG (i:=1) jH.nd rfl (bJ rfl) (bD aj))
  (ak (aG (i:=2) jH.nd rfl (bJ rfl) (bD aj))
  (ak (b8 cx rfl (CY rfl T.E3 (ab (dJ nZ PySem.F.slot_str_split PySem.F.type_str_split vS (pv 0) (ab cm aj)) aj)) (d8 rfl (aD (ay (i:=3) jH.nd rfl (bJ rfl)) (aD (ay (i:=4) jH.nd rfl (bJ rfl)) cb)))
   (ak (g_ (iy:=5) ["word"] [] jH.nd rfl rfl rfl (bq (dJ nZ PySem.F.slot_str_split PySem.F.type_str_split vS (pv 4) (ab cm aj))) (br rfl rfl) nofun rfl nofun
    (λ_ _ _ _ _=>ay (i:=0) (show (["word"]:List Str).Nodup by decide +kernel) rfl (bJ rfl)) (λ_ _ _ _ _=>hJ (rN K (pv 0) (λ_=>rfl))) (λ_ _ _ _ _=>pv 0))
   (aq (cW (PW.pt (iQ (gU (pv 5) (λ_=>rfl)) (iQ (yh (iR (dJ nZ PySem.F.slot_str_startswith PySem.F.type_str_startswith AU (aO aS (pv 5) ar (λ_ _=>rfl)) (ab cm aj))))
    (jK (yh (iR (bE (GR.mono (by decide:3<=8)) hr rfl (ab (pv 5) (ab (pv 1) (ab (pv 2) aj)))))))))) (aq gq) bB))))
  (aq (a_ (uy MG FG hr rfl mG B0 .nil rO (ab (bE (GA.mono (by decide:2<=8)) hr rfl (ab (pv 1) aj)) (ab (pv 2) aj))))))),?_⟩
 dsimp only [qx];refine⟨qQ,λR Vu=>⟨qQ,λS DV=>?_⟩⟩;have Jp:R≠S:=λe=>by rw [<-e,ae] at DV;cases DV
 have fS:H S=none:=by rw [ai Jp.symm] at DV;exact DV
 have s1:aC H (upd (upd H R (.lst [])) S (.lst [])):=(af Vu _).trans (af DV _);have e1:upd (upd H R (.lst [])) S (.lst []) R=some (.lst []):=by rw [ai Jp,ae]
 have e2:upd (upd H R (.lst [])) S (.lst []) S=some (.lst []):=ae;generalize upd (upd H R (.lst [])) S (.lst [])=H1 at s1 e1 e2;have YB:z.length+2<=sizeLine:=fits ∅;refine⟨_,rfl,rfl,z,⟨#[10]⟩,rfl,rfl,nofun,YB,λL hL=>?_⟩;have s2:=af hL (.lst ((Txt.split z ⟨#[10]⟩).map V.str));have e3:upd H1 L (.lst ((Txt.split z ⟨#[10]⟩).map V.str)) L=some (.lst ((Txt.split z ⟨#[10]⟩).map V.str)):=ae;have XN:L≠R:=λe=>by rw [e,e1] at hL;cases hL
 have F6:L≠S:=λe=>by rw [e,e2] at hL;cases hL
 generalize upd H1 L (.lst ((Txt.split z ⟨#[10]⟩).map V.str))=H2 at s2 e3;generalize M9:Txt.split z ⟨#[10]⟩=rows at e3 tok;refine⟨L,_,rfl,aH.of e3,Bg (xs:=rows.map V.str) (λi σ H3=>∃(rs ss:List Addr)(ru st:List au)(y3 y4 y5:Option V),σ=[some (.str z),bz R,bz S,y3,y4,y5]/\Ey R S H2 H3/\H3 R=some (.lst (rs.map V.ref))/\aR K H3 rs ru/\H3 S=some (.lst (ss.map V.ref))/\aR K H3 ss st/\dr ru st ((rows.drop i).map wordsOf) aa mM)
  ⟨[],[],[],[],none,none,none,rfl,λ_ _ _ _ h=>h,s2 _ _ e1,.nil,s2 _ _ e2,.nil,tok⟩ ?_ ?_ ?_⟩
 .rintro i σ H3 _ ⟨rs,ss,ru,st,y3,y4,y5,_,sc,_⟩;exact aH.of (sc _ _ XN F6 e3)
 .rintro i x σ H3 t ex ⟨rs,ss,ru,st,y3,y4,y5,rfl,sc,hR,cR,hS,xg,tk⟩ ht;rw [bo] at ex;obtain⟨row,er,rfl⟩:=cg.mp ex;obtain⟨hi,Kj⟩:=bA.mp er;have YW:row.length<=90000:=cO (split_len (by rw [M9];exact bZ er)) hz;rw [tM hi,Kj,bu] at tk;refine⟨t,_,rfl,aW.of ae,rfl,_,_,rfl,_,_,rfl,rfl,?_⟩;have s3:=af ht (.tup [.int ((i+1:Nat):Int),.str row]);generalize upd H3 t (.tup [.int ((i+1:Nat):Int),.str row])=H4 at s3;refine⟨_,rfl,rfl,row,⟨#[32]⟩,rfl,rfl,nofun,fits ∅,λL2 R7=>?_⟩;have s4:=s3.trans (af R7 (.lst ((Txt.split row ⟨#[32]⟩).map V.str)));have e4:upd H4 L2 (.lst ((Txt.split row ⟨#[32]⟩).map V.str)) L2=some (.lst ((Txt.split row ⟨#[32]⟩).map V.str)):=ae;generalize upd H4 L2 (.lst ((Txt.split row ⟨#[32]⟩).map V.str))=H5 at s4 e4;have UL:=PyProof.Rows.split_le row ⟨#[32]⟩;refine⟨L2,rfl,⟨_,aH.of e4⟩,λD hD=>bT (tif:=λσ H Q=>fR 0 σ H λx H'=>∃k,BE K x H' k/\Q k H') (xs:=(Txt.split row ⟨#[32]⟩).map V.str)
   (λj ys σ2 H6=>ys=(((Txt.split row ⟨#[32]⟩).take j).filter λu=>((u.length:Int) != 0)).map V.str/\(∃y0,σ2=[y0])/\aC H5 H6/\H6 D=some (.lst ys))
   ⟨rfl,⟨none,rfl⟩,af hD _,ae⟩ (λj ys σ2 H6 _ h=>h.2.2.1.seq (aH.of e4)) (λj x ys σ2 H6 ex h=>?_) (λys σ2 H6 h=>?_)⟩
  .obtain⟨rfl,⟨y0,rfl⟩,sm,hd⟩:=h;rw [bo] at ex;obtain⟨u,eu,rfl⟩:=cg.mp ex;have hul:=split_len (bZ eu);refine goN ?_;refine⟨_,rfl,((u.length:Int) != 0),⟨fits ∅,rfl⟩,?_⟩;have et:(((Txt.split row ⟨#[32]⟩).take (j+1)).filter λu=>((u.length:Int) != 0))=(((Txt.split row ⟨#[32]⟩).take j).filter λu=>((u.length:Int) != 0))++(if ((u.length:Int) != 0)=true then [u] else []):=by
    rw [cP,eu,kQ]
    congr 1
    simp only [Option.toList_some,o8,List.filter_nil]
   refine dj (λc=>?_) (λc=>?_)
   .rw [av c] at et;refine⟨_,rfl,hd,bF ?_,by rw [et,bw];rfl,⟨_,rfl⟩,λb o hb=>?_,ae⟩
    .rw [aB];have l1:=oU (λu:Str=>((u.length:Int) != 0)) ((Txt.split row ⟨#[32]⟩).take j);have l2:=List.length_take_le' j (Txt.split row ⟨#[32]⟩);omega
    rw [ai (λe=>by rw [e,hD] at hb;cases hb)];exact sm b o hb
   rw [ax c,eF] at et;exact⟨by rw [et],⟨_,rfl⟩,sm,hd⟩
  obtain⟨rfl,_,sm,hd⟩:=h;rw [aB,cU] at hd;have hd:H6 D=some (.lst ((wordsOf row).map V.str)):=hd;have s6:=s4.trans sm;have lw:(wordsOf row).length<=100000:=by
   have l1:=oU (λu:Str=>((u.length:Int) != 0)) (Txt.split row ⟨#[32]⟩);have:(wordsOf row).length<=(Txt.split row ⟨#[32]⟩).length:=l1;omega
  have zw:∀u∈wordsOf row,u.length<=sizeLine:=λu hu=>by
   have:=split_len (je.mp hu).1;exact fits ∅
  have P1:Ey R S H2 H6:=λb o h1 h2 h3=>s6 _ _ (sc b o h1 h2 h3);have lr:=a9 cR;have ls:=a9 xg;generalize wordsOf row=W at tk hd lw zw;cases tk with
  | none _ _ _ _ _ tk =>
   refine⟨_,rfl,false,.inl ⟨[],aH.of hd,rfl⟩,?_⟩;refine iW ?_;refine iW ?_;exact⟨rs,ss,ru,st,_,_,_,rfl,P1,s6 _ _ hR,cR.same s6,s6 _ _ hS,xg.same s6,tk⟩
  | mark _ _ u ws _ _ _ h tk =>
   refine⟨_,rfl,true,.inl ⟨_,aH.of hd,rfl⟩,?_⟩;refine kC ?_;refine⟨_,rfl,D,_,_,_,rfl,rfl,aH.of hd,nJ _ _,rfl,u,⟨#[35]⟩,rfl,rfl,true,by rw [rG,h];rfl,?_⟩;refine iW ?_;refine iW ?_;exact⟨rs,ss,ru,st,_,_,_,rfl,P1,s6 _ _ hR,cR.same s6,s6 _ _ hS,xg.same s6,tk⟩
  | row _ _ u ws _ r1 s1 _ _ h ok l1 l2 tk =>
   refine⟨_,rfl,true,.inl ⟨_,aH.of hd,rfl⟩,?_⟩;refine kC ?_;refine⟨_,rfl,D,_,_,_,rfl,rfl,aH.of hd,nJ _ _,rfl,u,⟨#[35]⟩,rfl,rfl,false,by rw [rG,beq_false_of_ne h],?_⟩;refine kC ?_;refine⟨_,rfl,_,rfl,_,rfl,D,R,S,u::ws,rs,ss,ru,st,r1,s1,rfl,aH.of hd,lw,zw,s6 _ _ hR,cR.same s6,∅,s6 _ _ hS,xg.same s6,∅,Jp,ok,λOD OA H7 WX ZM JM ZK Rh=>⟨true,rfl,?_⟩⟩;refine iW ?_;exact⟨OD,OA,r1,s1,_,_,_,rfl,λb o h1 h2 h3=>WX b o h1 h2 (P1 b o h1 h2 h3),ZM,JM,ZK,Rh,tk⟩
 rintro σ H3 ⟨rs,ss,ru,st,y3,y4,y5,rfl,sc,hR,cR,hS,xg,tk⟩;rw [aB,List.drop_length] at tk;cases tk;have lr:=a9 cR;have sH:aC H H3:=λb o hb=>sc b o (ao hb Vu) (ao hb fS) (s2 _ _ (s1 _ _ hb));refine⟨_,rfl,R,rs,aa,n,rfl,aH.of hR,cR,by rw [<-JU];exact hn,Vc,by rw [<-JU];exact va,λE0 es H4 s4 e4 Ho f4=>⟨_,rfl,λg gx hg Zf XC=>?_⟩⟩;rw [<-JU] at Ho;have s5:aC H4 (upd (upd H4 gx (.own g)) g (.ins Cg gx [])):=(af Zf _).trans (af (by rw [ai XC.symm];exact hg) _);refine⟨H4,g,gx,E0,.ref S,es,ss,jC,mM,rk,b,rfl,s5,hg,ae,aH.of e4,Ho,OZ,h8,qY,.inr ⟨S,rfl,aH.of (s4 _ _ hS),xg.same s4⟩,u_,M7,K7,gd,hT.same (sH.trans s4),λbt H5 WV JK gr=>⟨rfl,?_⟩⟩;exact q g bt es ss H4 H5 (sH.trans s4) WV JK Ho (xg.same s4) gr hg
end
def Jx (u:Str):((u.length:Int) != 0)=decide (sg u≠[]):=by
 have e:(sg u).length=u.length:=by unfold sg;simp [Str.length]
 rw [ij,bne_iff_ne,decide_eq_true_eq,ne_eq,ne_eq,<-vi,e];omega
def xD (z:Str):(wordsOf z).map sg=wd (sg z):=by
 unfold wordsOf wd;rw [<-kX,List.filter_map]
 congr 1
 refine List.filter_congr λu _=>?_;rw [Jx];rfl
theorem kr:∀{a b:List Str},a.map sg=b.map sg->a=b
 | [],[],_=>rfl
 | [],_::_,h=>by cases h
 | _::_,[],h=>by cases h
 | x::a,y::b,h=>by
  rw [bu,bu] at h;injection h with h1 h2;rw [Cv h1,kr h2]
def xE {z:Str}{ws:List Str}(h:wd (sg z)=ws.map sg):wordsOf z=ws:=kr (by rw [xD,h])
structure Wd (z:Str):Prop where
 ne:sg z≠[]
 nb:32∉sg z
 nl:10∉sg z
theorem G9:∀{ps:List (List Nat)},(∀p∈ps,32∉p/\p≠[])->wd (jn 32 ps)=ps
 | [],_=>rfl
 | [x],h=>pB (h x bp).1 (h x bp).2
 | x::y::r,h=>by
  show wd (x++32::jn 32 (y::r))=_;rw [mH,pB (h x bp).1 (h x bp).2,G9 λp hp=>h p (bC _ hp)];rfl
def B6 {ws:List Str}(h:∀z∈ws,Wd z):wd (sg (Txt.join ⟨#[32]⟩ ws))=ws.map sg:=by
 rw [vE];refine G9 λp hp=>?_;obtain⟨z,hz,rfl⟩:=cA.mp hp;exact⟨(h z hz).nb,(h z hz).ne⟩
def Fv {n:Str}{ws:List Str}(hn:Wd n)(h:∀z∈ws,Wd z):wordsOf (n++(" : ":Str)++Txt.join ⟨#[32]⟩ ws)=n::(":":Str)::ws:=by
 refine xE ?_;rw [gR,gR,show sg (" : ":Str)=[32,58,32] from rfl,gh];show wd (sg n++32::([58]++32::sg (Txt.join ⟨#[32]⟩ ws)))=_;rw [mH,mH,B6 h,pB hn.nb hn.ne,pB nofun nofun];rfl
theorem mR:∀(ws:List Str)(d:List (List Str)) (c:List Str)(rws:List (List Str)) (ps:List Str),cM d c ws=some rws->(∀p∈ps,p≠("|":Str)/\dU p=true)->cM d c (ws++("|":Str)::ps)=some (rws++[ps])
 | [],d,c,rws,ps,h,hp=>by
  rw [cM] at h;cases h;show cM d c (("|":Str)::ps)=_;rw [cM,av rfl];have key:∀(ps:List Str)(d:List (List Str)) (c:List Str),(∀p∈ps,p≠("|":Str)/\dU p=true)->cM d c ps=some (d++[c++ps]):=by
   intro ps
   induction ps with
   | nil=>intro d c _;rw [cM,eF]
   | cons p r ih =>
    intro d c hp;obtain⟨h1,h2⟩:=hp p bp;rw [cM,ax h1,av h2,ih d (c++[p]) λq hq=>hp q (bC _ hq),gh];rfl
  rw [key ps _ _ hp,nP]
 | w::ws,d,c,rws,ps,h,hp=>by
  rw [cM] at h;rw [List.cons_append,cM]
  split at h
  .rename_i e
   rw [av e];exact mR ws _ _ rws ps h hp
  rename_i e
  rw [ax e]
  split at h
  .rename_i e2
   rw [av e2];exact mR ws _ _ rws ps h hp
  cases h
def AB {ps:List Str}(hp:∀p∈ps,p≠("|":Str)/\dU p=true):cM [] [] ps=some [ps]:=by
 have h:=mR [] [] [] [[]] ps rfl hp;have e:cM [] [] ([]++("|":Str)::ps)=cM [[]] [] ps:=by
  rw [nP,cM,av rfl];rfl
 have key:∀(ps:List Str)(d:List (List Str)) (c:List Str),(∀p∈ps,p≠("|":Str)/\dU p=true)->cM d c ps=some (d++[c++ps]):=by
  intro ps
  induction ps with
  | nil=>intro d c _;rw [cM,eF]
  | cons p r ih =>
   intro d c hp;obtain⟨h1,h2⟩:=hp p bp;rw [cM,ax h1,av h2,ih d (c++[p]) λq hq=>hp q (bC _ hq),gh];rfl
 exact key ps [] [] hp
def dr.snoc {r s r1 s1 r2 s2:List au}{rows:List (List Str)}{z:Str}{ws:List Str}(t:dr r s rows r1 s1)(h:(sg z).head?≠some 35)(o:sL r1 s1 (z::ws) r2 s2)(lr:r1.length<=100000)(ls:s1.length<=100000):dr r s (rows++[z::ws]) r2 s2:=by
 induction t with
 | nil r s=>exact .row _ _ _ _ _ _ _ _ _ h o lr ls (.nil _ _)
 | none r s rows r' s' t ih=>exact .none _ _ _ _ _ (ih o lr ls)
 | mark r s z ws rows r' s' h' t ih=>exact .mark _ _ _ _ _ _ _ h' (ih o lr ls)
 | row r s z ws rows r1 s1 r' s' h' o' Yg Yd t ih=>exact .row _ _ _ _ _ _ _ _ _ h' o' Yg Yd (ih o lr ls)
def TH (ws:List Str):Prop:=ws=[]\/∃z r,ws=z::r/\(sg z).head?=some 35
inductive NZ:List (List Str)->List (List Str)->Prop
 | nil:NZ [] []
 | same (w a b)(t:NZ a b):NZ (w::a) (w::b)
 | extra (w a b)(h:TH w)(t:NZ a b):NZ a (w::b)
def NZ.snoc {a b:List (List Str)}(w:List Str)(t:NZ a b):NZ (a++[w]) (b++[w]):=by
 induction t with
 | nil=>exact .same _ _ _ .nil
 | same w a b t ih=>exact .same _ _ _ ih
 | extra w a b h t ih=>exact .extra _ _ _ h ih
def NZ.text {a b:List (List Str)}(t:NZ a b):∀{r s r' s':List au},dr r s a r' s'->dr r s b r' s':=by
 induction t with
 | nil=>exact λh=>h
 | same w a b t ih =>
  intro r s r' s' h;cases h with
  | none _ _ _ _ _ h=>exact .none _ _ _ _ _ (ih h)
  | mark _ _ z ws _ _ _ hz h=>exact .mark _ _ _ _ _ _ _ hz (ih h)
  | row _ _ z ws _ r1 s1 _ _ hz o lr ls h=>exact .row _ _ _ _ _ _ _ _ _ hz o lr ls (ih h)
 | extra w a b hw t ih =>
  intro r s r' s' h;rcases hw with rfl | ⟨z,ws,rfl,hz⟩
  .exact .none _ _ _ _ _ (ih h)
  exact .mark _ _ _ _ _ _ _ hz (ih h)
theorem vZ {y:Str}{x:Nat}:∀{ts:List Str},x∈sg (Str.join y ts)->x∈sg y\/∃t∈ts,x∈sg t
 | [],h=>by cases h
 | [t],h=>.inr ⟨t,bp,h⟩
 | t::u::r,h=>by
  have h:x∈sg (t++y++Str.join y (u::r)):=h;rw [gR,gR] at h;rcases bN.mp h with h | h
  .rcases bN.mp h with h | h
   .exact .inr ⟨t,bp,h⟩
   exact .inl h
  rcases vZ (ts:=u::r) h with h | ⟨v,hv,h⟩
  .exact .inl h
  exact .inr ⟨v,bC _ hv,h⟩
def xN {ts:List Str}(hn:ts≠[])(h:∀t∈ts,10∉sg t):Txt.split (Txt.join ⟨#[10]⟩ ts) ⟨#[10]⟩=ts:=by
 refine kr ?_;rw [kX,vE,Ck (by simpa using hn)];intro p hp;obtain⟨t,ht,rfl⟩:=cA.mp hp;exact h t ht
structure Ao (p:Str):Prop where
 wd:Wd p
 ns:p≠("|":Str)
 ip:dU p=true
 le:p.length<=14
structure Ap (n:Str):Prop where
 pt:Ao n
 ag:again n=false
 nh:(sg n).head?≠some 35
structure aaj (st:au):Prop where
 way:st.1∈pC
 ne:st.2≠[]
 nc:st.2.head?≠some (":":Str)
 le:st.2.length<=8
 pt:∀p∈st.2,Wd p/\dU p=true/\p.length<=14
def me (r0:List au) (ws:List Str)(r:List au)(h:Str):Prop :=
 (∃rest rws ps,ws=("|":Str)::rest/\r0.getLast?=some (h,ps)/\cM [] [] rest=some rws/\r=r0++rws.map λp=>(h,p)) \/
 (∃rest rws,ws=h::(":":Str)::rest/\Ap h/\cM [] [] rest=some rws/\r=r0++rws.map λp=>(h,p))
def me.text {r0 r s0:List au}{ws:List Str}{h:Str}{rows:List (List Str)}(l:me r0 ws r h)(t:dr [] [] rows r0 s0)(l1:r0.length<=100000)(l2:s0.length<=100000):dr [] [] (rows++[ws]) r s0:=by
 rcases l with ⟨rest,rws,ps,rfl,e,er,rfl⟩ | ⟨rest,rws,rfl,hn,er,rfl⟩
 .exact t.snoc nofun (.more h ps rest rws e er) l1 l2
 exact t.snoc hn.nh (.head h rest rws hn.pt.ns hn.pt.ip hn.ag er) l1 l2
def me.F5 (r0:List au){h:Str}{ps:List Str}(hn:Ap h)(hp:∀p∈ps,Ao p):me r0 (h::(":":Str)::ps) (r0++[(h,ps)]) h :=
 .inr ⟨ps,[ps],rfl,hn,AB λp h=>⟨(hp p h).ns,(hp p h).ip⟩,rfl⟩
structure Tw (aa mM:List au) (i k n:Nat) (ts:List Str):Prop where
 whole:dr [] [] (ts.map wordsOf) (aa.take i) (mM.take k)
 nl:∀t∈ts,10∉sg t
 sum:(ts.map (·.length)).sum<=200 * n
 len:ts.length<=n
def Du {a b:Str}(ha:10∉sg a)(hb:10∉sg b):10∉sg (a++b):=λh=>by
 rw [gR] at h;exact(bN.mp h).elim ha hb
def F4 {ps:List Str}(h:∀p∈ps,Wd p):10∉sg (Txt.join ⟨#[32]⟩ ps):=λhx=>by
 have e:Txt.join ⟨#[32]⟩ ps=Str.join ⟨#[32]⟩ ps:=nY _ _;rw [e] at hx;rcases vZ hx with hx | ⟨t,ht,hx⟩
 .exact absurd hx nofun
 exact(h t ht).nl hx
def vY {ps:List Str}(h:∀p∈ps,p.length<=14):(Txt.join ⟨#[32]⟩ ps).length<=15 * ps.length:=by
 have e:Txt.join ⟨#[32]⟩ ps=Str.join ⟨#[32]⟩ ps:=nY _ _;have h1:=s_ ⟨#[32]⟩ ps;have h2:(ps.map (·.length)).sum<=14 * ps.length:=by
  clear h1 e
  induction ps with
  | nil=>exact cT _
  | cons p r ih =>
   have:=ih λq hq=>h q (bC _ hq);have hp:=h p bp;rw [bu,jd,cX];omega
 have e1:((⟨#[32]⟩:Str)).length=1:=rfl;rw [e1] at h1;rw [e];omega
def Tw.put {aa mM:List au}{i k i' k' n:Nat}{ts:List Str}{t:Str}(r:Tw aa mM i k n ts)(hw:dr [] [] ((ts++[t]).map wordsOf) (aa.take i') (mM.take k'))(hn:10∉sg t)(hl:t.length<=200):Tw aa mM i' k' (n+1) (ts++[t]) where
 whole:=hw
 nl:=λu hu=>by
  rcases bN.mp hu with h | h
  .exact r.nl u h
  rw [bx.mp h];exact hn
 sum:=by
  have:=r.sum;rw [bw,List.sum_append];show _+(t.length+0)<=_;omega
 len:=by
  have:=r.len;rw [cu];show _+1<=_;omega
end fh
namespace L2
open PySem PySem.Spec PyProof.Rows
section
variable {prog:Program}{w:World}{A:Around}{E:Value->Shared->Prop}{s:Shared}
end
def vM {X:Cx}(n:Nat)(hu:X.A.units+(n+1) < cLine):md X (compareOp .Eq) (Me X.K true n):=by
 intro ah s σ H x y v u Q I rx ry h;obtain⟨a,b,xs,ys,rfl,rfl,ha,hb,p,q⟩:=h;cases rx;cases ry;obtain⟨aL,r,pl,hz⟩:=I.list ha;obtain⟨d_,r2,zU,UU⟩:=I.list hb;have l1:=r.length;have l2:=r2.length;have lp:=a9 p;refine SeqAt.RcAt.lists (e:=λ_=>true) pl.isList zU.isList (by simp only [bO];omega) ∅ (λj h1 h2=>nv r r2 p (λx y u v d r1 r2=>yW I n X.A.in1 x y u v d r1 r2 (by rw [Around.in1_units];omega)) j h1 h2) X.prog X.w X.xe _ ?_;have e:((List.range aL.toArray.size).all λ_=>true)=true:=by simp
 rw [e];exact⟨.bl true,H,I,rfl,q⟩
open PySem
def AW {X:Cx}(K:aV)(hK:X.K=K:=by rfl):Ih X "str.join" (CN K):=by
 subst hK;exact vT
end L2
namespace fh
open PySem L2 M11
def Bp (xs:List V):ff xs none (some (-1))=xs.take (xs.length - 1):=by
 have e:HT.jU xs.length xs.length (some (-1))=xs.length - 1:=by
  have h:=HT.GO (-1) xs.length xs.length;rw [av nofun] at h;omega
 unfold ff;rw [HT.CD,List.drop_zero,e,Nat.sub_zero]
def Pt.part {zs:List Str}{p:Str}(hz:∀z∈zs,jE z)(h:Pt zs p):Ao p:=by
 obtain⟨l1,l2⟩:=h.len hz;obtain⟨z,xc,m,e,mk⟩:=h;have ht:=hz z xc;have zn:sg z≠[]:=λh=>ht.ne (by rw [<-pN,h];rfl);have no:∀c∈[32,10],c∉sg p:=λc hc hx=>by
  rw [e] at hx;rcases bN.mp hx with h | h
  .exact ht.bL (c:=c) ((show ∀c∈[32,10],c∈[32,10,124,58,35,42,43,63] by decide) c hc) h
  exact(show ∀c∈[32,10],c∉[42,43,63] by decide) c hc (mk.2.1 c h)
 have hh:∀c∈[58,124,35],(sg p).head?≠some c:=λc hc hx=>by
  have hx:(sg z).head?=some c:=by
   rw [e] at hx;cases HH:sg z with
   | nil=>exact absurd HH zn
   | cons a r=>rw [HH] at hx;exact hx
  exact ht.bL (c:=c) ((show ∀c∈[58,124,35],c∈[32,10,124,58,35,42,43,63] by decide) c hc) (List.mem_of_mem_head? hx)
 refine⟨⟨λh=>zn ?_,no 32 nofun,no 10 nofun⟩,λh=>?_,A6 ∅ (hh 58 nofun) (hh 124 nofun),∅⟩
 .rw [e] at h;exact(List.append_eq_nil_iff.mp h).1
 exact hh 124 nofun (by rw [h];rfl)
def jE.Mv {z:Str}(h:jE z):Ap z :=
 ⟨Pt.part (zs:=[z]) (λy hy=>by rw [bx.mp hy];exact h) (Pt.plain (bx.mpr rfl)),h.again,λe=>h.bL (c:=35) nofun (List.mem_of_mem_head? e)⟩
def lC (ru:au):Str:=ru.1++(" : ":Str)++Txt.join ⟨#[32]⟩ ru.2
structure Rw (aa:List au):Prop where
 name:∀ru∈aa,Ap ru.1
 part:∀ru∈aa,∀p∈ru.2,Ao p
 l3:∀ru∈aa,ru.2.length<=3
 l8:aa.length<=8
theorem Rw.text {aa:List au}(h:Rw aa):∀k,k<=aa.length->dr [] [] (((aa.take k).map lC).map wordsOf) (aa.take k) []
 | 0,_=>.nil _ _
 | k+1,hk=>by
  have ih:=h.text k ∅;have e:aa[k]?=some aa[k]:=cQ ∅;have tk:aa.take (k+1)=aa.take k++[aa[k]]:=by rw [cP,e];rfl
  have hm:aa[k]∈aa:=nR _;have hl:(aa.take k).length<=100000:=by rw [eV];have:=h.l8;omega
  rw [tk,bw,bw];have e2:([aa[k]].map lC).map wordsOf=[aa[k].1::(":":Str)::aa[k].2]:=by
   show [wordsOf (lC aa[k])]=_;unfold lC;rw [Fv (h.name _ hm).pt.wd λz hz=>(h.part _ hm z hz).wd]
  rw [e2];exact(me.F5 (aa.take k) (h.name _ hm) (h.part _ hm)).text ih hl (cT _)
theorem Rw.nl {aa:List au}(h:Rw aa):∀t∈aa.map lC,10∉sg t/\t.length<=62:=λt ht=>by
 obtain⟨ru,eE,rfl⟩:=cA.mp ht;have hp:=h.part ru eE;have hn:=(h.name ru eE).pt;refine⟨Du (Du hn.wd.nl nofun) (F4 λp kF=>(hp p kF).wd),?_⟩;unfold lC;rw [dQ,dQ];have h1:=vY λp kF=>(hp p kF).le;have h2:=hn.le;have h3:=h.l3 ru eE;have h4:((" : ":Str)).length=3:=rfl;omega
theorem pG:∀{ts:List Str},(∀t∈ts,t.length<=62)->(ts.map (·.length)).sum<=62 * ts.length
 | [],_=>cT _
 | t::r,h=>by
  have ih:=pG λx hx=>h x (bC _ hx);have ht:=h t bp;rw [bu,jd,cX];omega
def Rw.whole {aa:List au}(h:Rw aa)(qY:aa≠[]):(Txt.join ⟨#[10]⟩ (aa.map lC)).length<=90000/\dr [] [] ((Txt.split (Txt.join ⟨#[10]⟩ (aa.map lC)) ⟨#[10]⟩).map wordsOf) aa []:=by
 refine⟨?_,?_⟩
 .have e:Txt.join ⟨#[10]⟩ (aa.map lC)=Str.join ⟨#[10]⟩ (aa.map lC):=nY _ _;have h1:=s_ ⟨#[10]⟩ (aa.map lC);have h2:=pG λt ht=>(h.nl t ht).2;have e1:((⟨#[10]⟩:Str)).length=1:=rfl;rw [e1] at h1;rw [e];rw [aB] at h1 h2;have:=h.l8;omega
 rw [xN (by simpa using qY) λt ht=>(h.nl t ht).1];have:=h.text aa.length (aF _);rw [cU] at this;exact this
def rg.rw {zs:List Str}{r0:List au}(R:rg zs r0):Rw r0 :=
 ⟨λru h=>(R.tx _ (rq (R.all ru h).1)).Mv,λru h p hp=>((R.all ru h).2.2.2 p hp).part R.tx,λru h=>(R.all ru h).2.2.1,R.l8⟩
theorem rg.take {zs:List Str}{r0:List au}(R:rg zs r0){k:Nat}(hk:2<=k):rg zs (r0.take k):=by
 obtain⟨n0,n1,w2,w3,w4,ez,e0,e1⟩:=R.fst;refine⟨R.nd,R.tx,⟨n0,n1,w2,w3,w4,ez,?_,?_⟩,λru h=>R.all ru (rq h),?_⟩
 .rw [tJ ∅];exact e0
 .rw [tJ ∅];exact e1
 rw [eV];have:=R.l8;omega
def rg.two {zs:List Str}{r0:List au}(R:rg zs r0):(aA (r0.take 2) (bW (r0.take 2) (dD (r0.take 2) 6))).length<=2:=by
 obtain⟨n0,n1,w2,w3,w4,ez,e0,e1⟩:=R.fst;have e:r0.take 2=[(n0,[n1,w2]),(n1,[w3,w4])]:=by
  rw [cP,e1,cP,e0];rfl
 have pl:∀z∈zs,again z=false:=λz hz=>(R.tx z hz).again;have st:=wN (r0:=r0.take 2) (a:=0) (λru eE p hp ha=>by
  have eE:ru∈r0.take 2:=by
   have:aA (r0.take 2) (bW (r0.take 2) 0)=r0.take 2:=by
    show (r0.take 2)++[].flatMap fc=_;simp
   rw [this] at eE;exact eE
  have:p∈zs:=by
   rw [e] at eE;rw [ez];rcases aQ.mp eE with rfl | eE
   .rcases aQ.mp hp with rfl | hp
    .simp
    rw [bx.mp hp];simp
   rw [bx.mp eE] at hp;rcases aQ.mp hp with rfl | hp
   .simp
   rw [bx.mp hp];simp
  rw [pl p this] at ha;cases ha) (dD (r0.take 2) 6) (cT _)
 rw [st,gT];show (r0.take 2).length+2 * 0<=2;rw [eV];omega
section
variable {K:aV}
theorem jV {F:V->V->Prop}:∀(xs:List V),(∀x∈xs,F x x)->Paired F xs xs
 | [],_=>.nil
 | x::r,h=>.cons (h x bp) (jV r λy hy=>h y (bC _ hy))
theorem n6 {H:Hp}:∀{rs Fu:List Addr}{aa:List au},aR K H rs aa->aR K H Fu aa->Paired (Ij K H 2) (rs.map V.ref) (Fu.map V.ref)
 | _,_,_,.nil,.nil=>.nil
 | _,_,_,.cons ⟨p,a1,a2⟩ t,.cons ⟨p2,b1,b2⟩ t2=>.cons (.inr ⟨_,_,_,_,rfl,rfl,.inr ⟨a1,b1⟩,.cons (Ij.self (.inl rfl) 1) (.cons (.inr ⟨_,_,_,_,rfl,rfl,.inr ⟨a2,b2⟩,jV _ λx hx=>Ij.self (yi _ x hx) 0⟩) .nil)⟩) (n6 t t2)
end
abbrev IP:Stmt:=top 58
theorem n8 {α β:Type}{F:α->β->Prop}:∀{xs:List α}{ys:List β},Paired F xs ys->∀k:Nat,Paired F (xs.take k) (ys.take k)
 | _,_,.nil,k=>by rw [List.take_nil,List.take_nil];exact .nil
 | _,_,.cons _ _,0=>.nil
 | _,_,.cons h t,k+1=>.cons h (n8 t k)
theorem vy:∀{ts:List Str},(∀t∈ts,t.length<=14)->(ts.map (·.length)).sum<=14 * ts.length
 | [],_=>cT _
 | t::r,h=>by
  have ih:=vy λx hx=>h x (bC _ hx);have ht:=h t bp;rw [bu,jd,cX];omega
section
def Qe {H H':Hp}{r:Addr}{ru:au}(h:j4 K H r ru)(s:aC H H'):j4 K H' r ru:=by
 obtain⟨p,v1,v2⟩:=h;exact⟨p,s.tup v1,s.tup v2⟩
def zI (K:aV)(T1 T2 T3:Addr):Sp:=λvs H Q _=>∃(a:Addr)(ns:List Int),vs=[.ref a]/\aH K H a (ns.map V.int)/\ns.length<=63/\xn T1 T2 T3 H/\∀H',Q (.bl true) H'
def pO:aK ["_law_script","_law_pool_here","_law_rules","_law_due_here","_law_grammar"] ["_law_script"] (az IP):=iL rfl rfl rfl rfl nofun
def Jj {Cg T1 T2 T3:Addr}(F:hZ K "law" "law" IP f fd)(T:Txt mg)(GC1:aE P w K mg base 9 "_law_cell_at" ["_law_script","_law_k"] (Cr K))(GP:aE P w K mg base 9 "_law_pool" ["_law_cell","_law_many"] Cm)
  (GR:aE P w K mg base 9 "_law_rule" ["_law_cell","_law_pool_here"] (zJ K))(GD:aE P w K mg base 9 "_law_due" ["_law_rules"] (Hg K))
  (GG:aE P w K mg base 9 "read_grammar" ["text"] (zG K Cg T1 T2 T3))(G:GC K Cg):bI P w K mg base e_ 10 f fd ["_law_script"] (zI K T1 T2 T3):=by
 refine F.ok pO (λvs H Q E h=>?_) (λdN A outer s H vs Q E hr h=>?_)
 .obtain⟨a,ns,rfl,_⟩:=h;rfl
 obtain⟨a,ns,rfl,hS,hl,hT,q⟩:=h;have YI:=nW (Nat.add_le_add_left (by decide:3<=64) _) hr.units;have hu:=nW (Nat.le_add_right _ 64) hr.units;refine⟨_,@ak _ _ _ _ _ (@aG _ _ 1 _ _ _ _ pO.nd rfl (Or.inr rfl) (@bE _ _ _ _ _ _ _ _ _ _ GP hr rfl (@ab _ _ _ _ _ (@bE _ _ _ _ _ _ _ _ _ _ GC1 hr rfl (@ab _ _ _ _ _ (pv 0) (@ab _ _ _ _ _ (@ar _ _ _ _) (@aj _) rfl) rfl) rfl rfl rfl) (@ab _ _ _ _ _ (@ar _ _ _ _) (@aj _) rfl) rfl) rfl rfl rfl) rfl (.inl rfl))
  (@ak _ _ _ _ _ (@uq _ _ _ (@aG _ _ 2 _ _ _ _ pO.nd rfl (bJ rfl) (@bD _ _ _ _ (@ab _ _ _ _ _ (@aP _ _ _ _ _ (@ab _ _ _ _ _ (@aO _ _ _ _ _ _ _ aS (pv 1) (@ar _ _ _ _) (λ_ _=>rfl)) (@ab _ _ _ _ _ (@aP _ _ _ _ _ (@ab _ _ _ _ _ (@aO _ _ _ _ _ _ _ aS (pv 1) (@ar _ _ _ _) (λ_ _=>rfl)) (@ab _ _ _ _ _ (@aO _ _ _ _ _ _ _ aS (pv 1) (@ar _ _ _ _) (λ_ _=>rfl)) (@aj _) rfl) rfl)) (@aj _) rfl) rfl)) (@ab _ _ _ _ _ (@aP _ _ _ _ _ (@ab _ _ _ _ _ (@aO _ _ _ _ _ _ _ aS (pv 1) (@ar _ _ _ _) (λ_ _=>rfl)) (@ab _ _ _ _ _ (@aP _ _ _ _ _ (@ab _ _ _ _ _ (@aO _ _ _ _ _ _ _ aS (pv 1) (@ar _ _ _ _) (λ_ _=>rfl)) (@ab _ _ _ _ _ (@aO _ _ _ _ _ _ _ aS (pv 1) (@ar _ _ _ _) (λ_ _=>rfl)) (@aj _) rfl) rfl)) (@aj _) rfl) rfl)) (@aj _) rfl) rfl)) rfl (.inr rfl)))
  (@ak _ _ _ _ _ (@uq _ _ _ (@aG _ _ 2 _ _ _ _ pO.nd rfl (bJ rfl) (@bh _ _ _ _ _ _ _ _ ym (pv 2) (@bG _ _ _ _ _ _ _ _ _ _ _ ["_law_cell"] [(1,"_law_pool_here")] rfl (@bq _ _ _ _ (@de _ _ _ _ _ _ _ _ _ _ gH (pv 0) (@cY _ _ _ (@ar _ _ _ _)) (@cY _ _ _ (@ar _ _ _ _)))) (br rfl rfl) nofun rfl nofun (λ_ _ _ _ _=>ay (i:=0) (show (["_law_cell","_law_pool_here"]:List Str).Nodup by decide +kernel) rfl (bJ rfl)) (λ_ _ _ _ _=>b_) (λ_ _ _ _ _=>bE GR hr rfl (ab (pv 0) (ab (pv 1) aj))) (λ_=>rfl))) rfl (.inr rfl)))
  (@ak _ _ _ _ _ (gW cx (bU pY (bR cI rfl T.len gP (@ab _ _ _ _ _ (@bE _ _ _ _ _ _ _ _ _ _ GD hr rfl (@ab _ _ _ _ _ (pv 2) (@aj _) rfl) rfl rfl rfl) (@aj _) rfl)) (@ar _ _ _ _) (bL _))
  (@aq _ _ _ (@aG _ _ 2 _ _ _ _ pO.nd rfl (bJ rfl) (@de _ _ _ _ _ _ _ _ _ _ gH (pv 2) (@gK _) (@cY _ _ _ (iA fQ (@ar _ _ _ _)))) rfl (.inr rfl))))
  (@ak _ _ _ _ _ (@aG _ _ 3 _ _ _ _ pO.nd rfl (bJ rfl) (@bE _ _ _ _ _ _ _ _ _ _ GD hr rfl (@ab _ _ _ _ _ (pv 2) (@aj _) rfl) rfl rfl rfl) rfl (.inr rfl))
  (@ak _ _ _ _ _ (@aG _ _ 4 _ _ _ _ pO.nd rfl (bJ rfl) (@bE _ _ _ _ _ _ _ _ _ _ GG hr rfl (@ab _ _ _ _ _ (dJ nZ tD tE z6 (@cm _ _ _ _) (@ab _ _ _ _ _ (@bG _ _ _ _ _ _ _ _ _ _ _ ["_law_head","_law_parts"] [] rfl (@bq _ _ _ _ (pv 2)) (br rfl rfl) nofun rfl nofun (λ_ _ _ _ _=>iS (n:=2) K rfl (aD (ay (i:=0) (show (["_law_head","_law_parts"]:List Str).Nodup by decide +kernel) rfl (bJ rfl)) (aD (ay (i:=1) (show (["_law_head","_law_parts"]:List Str).Nodup by decide +kernel) rfl (bJ rfl)) cb))) (λ_ _ _ _ _=>b_) (λ_ _ _ _ _=>bh fV (bh fV (pv 0) cm) (Jc K nZ tD tE (AW K) cm (ab (pv 1) aj))) (λ_=>rfl)) (@aj _) rfl)) (@aj _) rfl) rfl rfl rfl) rfl (.inr rfl))
  (@aq _ _ _ (@a_ _ _ _ _ (ki (bR uU rfl T.Yx PyProof.Rows.boot_isinstance (@ab _ _ _ _ _ (df (pv 4) rfl) (@ab _ _ _ _ _ (FT (v:=.ty "list") rfl T.lst fK rfl) (@aj _) rfl) rfl)) (ki (hU (vM 2 YI) (df (pv 4) rfl) (pv 3) (bL _)) (pV (hU (AJ hu) (df (pv 4) rfl) (@bD _ _ _ _ (@aj _)) (bL _)))))))))))) , ?_⟩
 refine⟨_,rfl,a,ns,0,rfl,hS,∅,λc0=>⟨c0,5,rfl,nofun,λPL zs H1 _ s1 e1 l5 tx nd=>?_⟩⟩;obtain⟨n0,n1,w2,w3,w4,ez⟩:∃n0 n1 w2 w3 w4,zs=[n0,n1,w2,w3,w4]:=by
  match zs,l5 with
  | [n0,n1,w2,w3,w4],_=>exact⟨_,_,_,_,_,rfl⟩
 have N2:∀(j:Nat)(z:Str),zs[j]?=some z->jD (zs.map V.str) (j:Int)=some (.str z):=λj z h=>cw (by rw [bo,h];rfl);have a0:=N2 0 n0 (by rw [ez];rfl);have a1:=N2 1 n1 (by rw [ez];rfl);have a2:=N2 2 w2 (by rw [ez];rfl);have a3:=N2 3 w3 (by rw [ez];rfl);have a4:=N2 4 w4 (by rw [ez];rfl);have Vd:∀z∈[n0,n1,w2,w3,w4],z∈zs:=λz h=>by rw [ez];exact h
 refine⟨λσ H2=>∃(B r1 r2:Addr),σ=[bz a,bz PL,bz B,none,none]/\aC H1 H2/\H2 B=some (.lst [.ref r1,.ref r2])/\aR K H2 [r1,r2] [(n0,[n1,w2]),(n1,[w3,w4])],?_,?_⟩
 .refine⟨_,rfl,PL,_,_,_,rfl,rfl,aH.of e1,a0,_,rfl,PL,_,_,_,rfl,rfl,aH.of e1,a1,_,rfl,PL,_,_,_,rfl,rfl,aH.of e1,a2,gE,λq1 YX=>⟨gE,λr1 U8=>?_⟩⟩;have t8:=(af YX (.tup [.str n1,.str w2])).trans (af U8 (.tup [.str n0,.ref q1]));have v1:j4 K (upd (upd H1 q1 (.tup [.str n1,.str w2])) r1 (.tup [.str n0,.ref q1])) r1 (n0,[n1,w2]):=⟨q1,aW.of ae,(af U8 _).tup (aW.of ae)⟩;refine⟨_,rfl,PL,_,_,_,rfl,rfl,aH.of (t8 _ _ e1),a1,_,rfl,PL,_,_,_,rfl,rfl,aH.of (t8 _ _ e1),a3,_,rfl,PL,_,_,_,rfl,rfl,aH.of (t8 _ _ e1),a4,gE,λq2 Rt=>⟨gE,λr2 U7=>?_⟩⟩;have u9:=(af Rt (.tup [.str w3,.str w4])).trans (af U7 (.tup [.str n1,.ref q2]));have v2:=show j4 K (upd (upd _ q2 (.tup [.str w3,.str w4])) r2 (.tup [.str n1,.ref q2])) r2 (n1,[w3,w4]) from ⟨q2,aW.of ae,(af U7 _).tup (aW.of ae)⟩;have hh:aR K _ [r1,r2] [(n0,[n1,w2]),(n1,[w3,w4])]:=.cons (Qe v1 u9) (.cons v2 .nil);exact⟨gE,λB hB=>⟨B,r1,r2,rfl,(t8.trans u9).trans (af hB _),ae,hh.same (af hB _)⟩⟩
 rintro _ H2 ⟨B,r1,r2,rfl,t2,eB,Xa⟩;have s2:=s1.trans t2;have eP2:=t2 _ _ e1;refine⟨λσ H3=>∃(R:Addr)(rs:List Addr)(aa:List au),σ=[bz a,bz PL,bz R,none,none]/\aC H H3/\H3 R=some (.lst (rs.map V.ref))/\aR K H3 rs aa/\rg zs aa,?_,?_⟩
 .obtain⟨cs,ec,_,mi⟩:=wy ns (some 1) (some 7);have ZC:cs.length<=6:=by
   have h1:=congrArg List.length ec;have h2:(ff (ns.map V.int) (some 1) (some 7)).length<=7 - 1:=wx (ns.map V.int) 1 7;rw [aB] at h1;omega
  refine⟨_,rfl,_,rfl,_,rfl,_,rfl,a,_,rfl,s2.seq hS,λC hC=>?_⟩;rw [ec];have t3:=af hC (.lst (cs.map V.int));have f3:upd H2 C (.lst (cs.map V.int)) C=some (.lst (cs.map V.int)):=ae;generalize upd H2 C (.lst (cs.map V.int))=H3 at t3 f3;refine⟨C,rfl,⟨_,aH.of f3⟩,λD hD=>bT (xs:=cs.map V.int) (λi ys σ2 H4=>∃(rs:List Addr)(aa:List au),ys=rs.map V.ref/\aa.length=i/\aR K H4 rs aa/\(∀ru∈aa,Ii zs ru)/\(∃y0,σ2=[y0,bz PL])/\aC H3 H4/\H4 D=some (.lst ys))
   ⟨[],[],rfl,rfl,.nil,λ_ h=>(by cases h),⟨none,rfl⟩,af hD _,ae⟩ (λi ys σ2 H4 _ h=>?_) (λi x ys σ2 H4 ex h=>?_) (λys σ2 H4 h=>?_)⟩
  .obtain⟨_,_,_,_,_,_,_,sm,_⟩:=h;exact aH.of (sm _ _ f3)
  .obtain⟨rs,aa,rfl,RE,rl,eE,⟨y0,rfl⟩,sm,hd⟩:=h;have li:=(bA.mp ex).1;rw [aB] at li;rw [bo] at ex;obtain⟨d,ed,rfl⟩:=cg.mp ex;have K2:=a9 rl;refine goN (vb ?_);refine⟨_,rfl,_,rfl,d,PL,zs,rfl,sm _ _ (t3 _ _ eP2),l5,tx,λR ru H5 s5 v5 Ye=>?_⟩;have EX:=s5 _ _ hd;refine⟨EX,bF (by rw [aB];omega),rs++[R],aa++[ru],by rw [bw];rfl,by rw [cu,RE];rfl,fj (rl.keep λb xs z=>aN EX (s5.tup z)) (by obtain⟨p,x1,x2⟩:=v5;exact⟨p,aN EX x1,aN EX x2⟩),λx hx=>?_,⟨_,rfl⟩,λb o hb=>?_,ae⟩
   .rcases bN.mp hx with h | h
    .exact eE x h
    rw [bx.mp h];exact Ye
   rw [ai (λe=>by rw [e,hD] at hb;cases hb)];exact s5 _ _ (sm b o hb)
  obtain⟨rs,aa,rfl,RE,rl,eE,_,sm,hd⟩:=h;rw [aB] at RE;have K2:=a9 rl;have t4:=t3.trans sm;refine⟨B,D,_,_,rfl,rfl,t4 _ _ eB,hd,fits (by rw [aB];show 2+rs.length<=1000000;omega),λR hR=>?_⟩;have st:=af hR (.lst ([.ref r1,.ref r2]++rs.map V.ref));refine⟨R,[r1,r2]++rs,[(n0,[n1,w2]),(n1,[w3,w4])]++aa,rfl,(s2.trans t4).trans st,by rw [ae,bw];rfl,aR.same (iT (Xa.same t4) rl) st,nd,tx,⟨n0,n1,w2,w3,w4,ez,rfl,rfl⟩,λru hm=>?_,by rw [cu];show 2+aa.length<=8;omega⟩;rcases bN.mp hm with h | h
  .rcases aQ.mp h with rfl | h
   .refine⟨by rw [ez];simp,⟨w2,by simp,by rw [ez];simp⟩,(by show 2<=3;decide),λp hp=>Pt.plain (Vd p ?_)⟩;rcases aQ.mp hp with rfl | hp
    .simp
    rw [bx.mp hp];simp
   rw [bx.mp h];refine⟨by rw [ez];simp,⟨w3,by simp,by rw [ez];simp⟩,(by show 2<=3;decide),λp hp=>Pt.plain (Vd p ?_)⟩;rcases aQ.mp hp with rfl | hp
   .simp
   rw [bx.mp hp];simp
  obtain⟨h1,w,ps,e,hw,ng,uM⟩:=eE ru h;refine⟨h1,⟨w,by rw [e];exact bp,hw⟩,by rw [e,cX];omega,λp hp=>?_⟩;rw [e] at hp;rcases aQ.mp hp with rfl | hp
  .exact Pt.plain (sZ hw)
  exact uM p hp
 rintro _ H3 ⟨R0,KZ,ke,rfl,s3,eR0,Uo,Tx⟩;have lr0:=a9 Uo;have two:2<=ke.length:=by
  obtain⟨_,_,_,_,_,_,_,e⟩:=Tx.fst;exact(bA.mp e).1
 refine⟨λm σ H4=>∃(R:Addr)(rs:List Addr),σ=[bz a,bz PL,bz R,none,none]/\aC H H4/\H4 R=some (.lst (rs.map V.ref))/\aR K H4 rs (ke.take m)/\2<=m/\m<=ke.length,⟨ke.length,R0,KZ,rfl,s3,eR0,by rw [cU];exact Uo,two,aF _⟩,?_⟩;rintro m σ H4 ⟨R,rs,rfl,s4,eR,Ho,m2,mle⟩;have Rk:=Tx.take m2;have ME:(ke.take m).length=m:=by rw [eV];omega
 refine⟨_,rfl,R,rs,_,rfl,aH.of eR,Ho,Rk.Gs,λL es H5 s5 eL5 Um=>?_⟩;have OM:=a9 Um;have SH:=s5 _ _ eR;have Fw:=Ho.same s5;refine⟨L,_,rfl,.inl (aH.of eL5),_,_,rfl,rfl,_,rfl,?_⟩;rw [aB];refine dj (λc=>?_) (λc=>?_)
 .have c':=cK c;have m3:2 < m:=by
   apply tL;intro h;have e2:m=2:=by omega
   subst e2;have:=Tx.two;omega
  refine⟨λσ H6=>∃(R:Addr)(rs:List Addr),σ=[bz a,bz PL,bz R,none,none]/\aC H H6/\H6 R=some (.lst (rs.map V.ref))/\aR K H6 rs (ke.take (m - 1)),?_,?_⟩
  .rintro σ H6 ⟨R,rs,rfl,s6,O9,OE⟩;exact⟨m - 1,∅,R,rs,rfl,s6,O9,OE,∅,∅⟩
  refine⟨_,rfl,1,rfl,_,rfl,R,_,rfl,aH.of SH,λR2 wb=>?_⟩;rw [show (-1:Int)=-1 from rfl,Bp,aB,<-List.map_take];have K2:=a9 Ho;refine⟨R2,rs.take (rs.length - 1),rfl,(s4.trans s5).trans (af wb _),ae,?_⟩;have h:=n8 Fw (rs.length - 1);rw [List.take_take,K2,ME,Nat.min_eq_left ∅] at h;rw [K2,ME];exact aR.same h (af wb _)
 have c':¬((24:Int) < (es.length:Int)):=λh=>c (dI h);have W6:=s4.trans s5;generalize U6:ke.take m=aa at Rk Ho Um Fw OM ME;refine⟨_,rfl,R,rs,aa,rfl,aH.of SH,Fw,Rk.Gs,λL2 Gu H6 s6 eL6 OE=>?_⟩;have O9:=s6 _ _ SH;have Ma:=Fw.same s6;have K2:=a9 Ma;have l8:=Rk.l8;have Ym:=a9 OE;refine⟨rfl,_,rfl,R,rfl,⟨_,aH.of O9⟩,λD hD=>bT (xs:=rs.map V.ref) (λi ys σ2 H7=>ys=((aa.take i).map lC).map V.str/\(∃y0 y1,σ2=[y0,y1])/\aC H6 H7/\H7 D=some (.lst ys))
  ⟨rfl,⟨none,none,rfl⟩,af hD _,ae⟩ (λi ys σ2 H7 _ h=>aH.of (h.2.2.1 _ _ O9)) (λi x ys σ2 H7 ex h=>?_) (λys σ2 H7 h=>?_)⟩
 .obtain⟨rfl,⟨y0,y1,rfl⟩,sm,hd⟩:=h;rw [bo] at ex;obtain⟨ra,er,rfl⟩:=cg.mp ex;obtain⟨ru,V7,p,v1,v2⟩:=Ma.get er;have hm:=bZ V7;have lj:=vY λp hp=>(Rk.rw.part ru hm p hp).le;have ln:=(Rk.rw.name ru hm).pt.le;have l3:=Rk.rw.l3 ru hm;refine⟨ra,_,rfl,sm.tup v1,rfl,_,_,rfl,_,_,rfl,rfl,?_⟩;refine vb ?_;refine⟨_,rfl,_,_,rfl,rfl,fits (by show ru.1.length+3<=1000000;omega),rfl,_,rfl,⟨#[32]⟩,p,ru.2,rfl,rfl,sm.tup v2,?_,_,_,rfl,rfl,fits (by rw [dQ];show ru.1.length+3+_<=1000000;omega),?_⟩
  .have hs:=vy λp hp=>(Rk.rw.part ru hm p hp).le;show _+_ * 1<=16777216;omega
  refine⟨hd,bF (by rw [aB,aB,eV];omega),?_,⟨_,_,rfl⟩,λb o hb=>?_,ae⟩
  .rw [cP,V7,bw,bw];rfl
  rw [ai (λe=>by rw [e,hD] at hb;cases hb)];exact sm b o hb
 obtain⟨rfl,_,sm,hd⟩:=h;rw [aB,K2,cU] at hd;have qY:aa≠[]:=λe=>by rw [e] at ME;simp at ME;omega
 obtain⟨wz,wt⟩:=Rk.rw.whole qY;have fu:=Rk.full;have W5:=(W6.trans s6).trans sm;have PF:=hT.same W5;have evl:(aA aa (bW aa (dD aa 6))).length<=24:=by omega
 refine⟨⟨#[10]⟩,D,aa.map lC,rfl,rfl,aH.of hd,?_,Txt.join ⟨#[10]⟩ (aa.map lC),aa,[],dD aa 6,_,_,_,rfl,wz,wt,rfl,fu.1,cO (Rk.Gs.Ti 6 nofun) nofun,λru eE p hp=>cO ((Rk.pt _).2 ru eE p hp |>.len Rk.tx).2 nofun,∅,λru eE=>cO (Rk.Gs.Qm _ ru eE) nofun,λe=>?_,cT _,λ_ h=>(by cases h),jT,Rk.g.good,PF,λg bt Fu WT H0 H8 P7 Uh tb8 Hn WW gv _=>?_⟩
 .have hs:=pG λt ht=>(Rk.rw.nl t ht).2;show _+_ * 1<=16777216;rw [aB] at hs ⊢;omega
 .have:=congrArg List.length e;rw [gT,i0] at this;omega
 have k8:Kp H7 H8:=(Kp.of P7).trans (Kp.Us Uh (PF.same P7));have k6:Kp H6 H8:=(Kp.of sm).trans k8;have eL8:=k6.lst eL6;have Qf:=k6.aa OE;have W9:=(Kp.Us Uh (PF.same P7)).aa Hn;obtain⟨gx,fs,R1,S1,eg,UK,Yc,lb1,lt1,oi,VO,fr1,fr2⟩:=id gv;have WU:WT=[]:=by
  have:=a9 WW;exact vi.mp this
 rw [WU] at VO;refine⟨_,rfl,g,Cg,gx,fs,_,rfl,eg,G.cls,G.a1,UK,R1,_,"list",true,rfl,aH.of oi,DF,true,rfl,?_⟩;refine kC ?_;refine⟨_,rfl,g,Cg,gx,fs,_,rfl,eg,G.cls,G.a1,UK,_,rfl,R1,L2,_,_,rfl,rfl,aH.of oi,aH.of eL8,n6 W9 Qf,true,rfl,?_⟩;refine kC ?_;refine⟨_,rfl,g,Cg,gx,fs,_,rfl,eg,G.cls,G.a2,Yc,qQ,λE1 ZT=>?_⟩;exact⟨S1,E1,[],rfl,rfl,aH.of (af ZT _ _ _ VO),aH.of ae,q _⟩
end
end fh
namespace L2
open PySem
def tQ {C:List Value->Prop}(h:∀a,C [a]):∀us:List Value,us.length=1->C us
 | [a],_=>h a
def EK {C:List Value->Prop}(h:∀a b,C [a,b]):∀us:List Value,us.length=2->C us
 | [a,b],_=>h a b
def Ir {C:List Value->Prop}(h:∀a b c,C [a,b,c]):∀us:List Value,us.length=3->C us
 | [a,b,c],_=>h a b c
def dY (K:aV)(x:Str)(st:Stmt):Prop:=∃(g:Addr)(oc:Value)(od an:Option Addr)(sl:Array (Option Value))(kV dc pm cd ct:Value),PySem.W.nsIn K mainGlobals x=some (some (.ref g)) /\
 K.lookup g=some ⟨oc,od,.func (PySem.W.fnOf x x (cS st) (bV st) (az st) .none kV dc pm an cd ct),sl⟩/\PySem.W.codeIn K cd x=true/\PySem.W.keepIn K (.ref g)=true
def dY.get {K:aV}{h:Heap}{mg:Str->Option Value}{x:Str}{st:Stmt}(X:K.In h)(G:h.Ns mainGlobals mg)(H:dY K x st):∃g gd,hZ K x x st g gd/\mg x=some (.ref g):=by
 obtain⟨g,oc,od,an,sl,kV,dc,pm,cd,ct,a,l,c,k⟩:=H;exact⟨g,_,DZ (st:=st) l c k,jS X G a⟩
def BH (K:aV)(x:Str)(st:Stmt)(T:Addr):Prop:=∃(g:Addr)(oc:Value)(od an:Option Addr)(sl:Array (Option Value))(kV dc pm:Value)(c:Addr)(ct:Value),PySem.W.nsIn K mainGlobals x=some (some (.ref g)) /\
 K.lookup g=some ⟨oc,od,.func (PySem.W.fnOf x x (cS st) (bV st) (az st) .none kV dc pm an (.ref c) ct),sl⟩/\PySem.W.codeIn K (.ref c) x=true/\PySem.W.codeHdIn K c T=true/\PySem.W.keepIn K (.ref g)=true
def BH.get {K:aV}{h:Heap}{mg:Str->Option Value}{x:Str}{st:Stmt}{T:Addr}(X:K.In h)(G:h.Ns mainGlobals mg)(H:BH K x st T):∃g gd,wV K x x st g gd T/\mg x=some (.ref g):=by
 obtain⟨g,oc,od,an,sl,kV,dc,pm,c,ct,a,l,d,e,k⟩:=H;exact⟨g,_,⟨⟨oc,od,kV,dc,pm,an,c,ct,sl,rfl,l,d,e⟩,k⟩,jS X G a⟩
def wV.binds {K:aV}{x qual:Str}{st:Stmt}{f T:Addr}{fd:FuncData}{ps:List Str}(F:wV K x qual st f fd T)
  (h:∀(kV doc pm:Value)(an:Option Addr)(dN ct:Value)(us:List Value),us.length=ps.length->bindArgs (PySem.W.fnOf x qual (cS st) (bV st) (az st) .none kV doc pm an dN ct) ⟨us,[]⟩=pure (ps.zip us)):Binds K fd ps []:=by
 obtain⟨oc,od,kV,doc,pm,an,c,ct,vL,rfl,lk,uP,_⟩:=F.ex;exact .all (h kV doc pm an (.ref c) ct)
def zk (K:aV)(C:Addr)(m qual:Str)(st:Stmt):Prop:=∃(g:Addr)(oc:Value)(od an:Option Addr)(sl:Array (Option Value))(kV dc pm cd ct:Value),PySem.W.findIn K (.ref C) m=some (some (.ref g)) /\
 K.lookup g=some ⟨oc,od,.func (PySem.W.fnOf m qual (cS st) (bV st) (az st) .none kV dc pm an cd ct),sl⟩/\PySem.W.codeIn K cd qual=true/\PySem.W.keepIn K (.ref g)=true/\PySem.W.isFn K (.ref g)=true
def zk.get {K:aV}{C:Addr}{m qual:Str}{st:Stmt}(H:zk K C m qual st):∃g gd,hZ K m qual st g gd/\Meth K C m g:=by
 obtain⟨g,oc,od,an,sl,kV,dc,pm,cd,ct,a,l,c,k,i⟩:=H;exact⟨g,_,DZ (st:=st) l c k,⟨a,i,k⟩⟩
def dY.c {K:aV}{h:Heap}{mg:Str->Option Value}{x:Str}{st:Stmt}{P:Program}{w:World}{base:Heap}{k:Nat}{ps:List Str}{sp:Sp}(H:dY K x st)(X:K.In h)(G:h.Ns mainGlobals mg)
  (b:∀(kV doc pm:Value)(an:Option Addr)(dN ct:Value)(us:List Value),us.length=ps.length->bindArgs (PySem.W.fnOf x x (cS st) (bV st) (az st) .none kV doc pm an dN ct) ⟨us,[]⟩=pure (ps.zip us))
  (o:∀{f:Addr}{fd:FuncData},hZ K x x st f fd->mg x=some (.ref f)->Binds K fd ps []->bI P w K mg base e_ k f fd ps sp):aE P w K mg base k x ps sp:=by
 obtain⟨f,fd,F,m⟩:=H.get X G;have B:=F.binds b;exact⟨f,fd,o F m B,B,F.kp,m⟩
def hD {K:aV}{x:Str}{st:Stmt}(g c:Addr)(pm:Value)(h:(PySem.W.nsIn K mainGlobals x,K.lookup g,PySem.W.codeIn K (.ref c) x,PySem.W.keepIn K (.ref g))=(some (some (.ref g)),some ⟨.type "function",none,.func (PySem.W.fnOf x x (cS st) (bV st) (az st) .none .none .none pm none (.ref c) .none),#[]⟩,true,true)):dY K x st:=by
 simp only [oZ] at h;exact⟨g,_,_,_,_,_,_,_,_,_,h.1,h.2.1,h.2.2.1,h.2.2.2⟩
def hC {K:aV}{x:Str}{st:Stmt}{T:Addr}(g c:Addr)(pm:Value)(h:(PySem.W.nsIn K mainGlobals x,K.lookup g,PySem.W.codeIn K (.ref c) x,PySem.W.codeHdIn K c T,PySem.W.keepIn K (.ref g))=(some (some (.ref g)),some ⟨.type "function",none,.func (PySem.W.fnOf x x (cS st) (bV st) (az st) .none .none .none pm none (.ref c) .none),#[]⟩,true,true,true)):BH K x st T:=by
 simp only [oZ] at h;exact⟨g,_,_,_,_,_,_,_,c,_,h.1,h.2.1,h.2.2.1,h.2.2.2.1,h.2.2.2.2⟩
def Vs {K:aV}{a:Addr}{xs:List V}(aL:Array Value)(h:K.lookup a=some ⟨.type "tuple",none,.seq aL 0,#[]⟩)(hs:aL.size<=sizeLine)(v:aT xs aL.toList):∀H,aW K H a xs:=λ_=>.inr ⟨_,aL,0,h,rfl,rfl,hs,v⟩
def hM {K:aV}{C:Addr}{m qual:Str}{st:Stmt}(g c:Addr)(pm:Value)(h:(PySem.W.findIn K (.ref C) m,K.lookup g,PySem.W.codeIn K (.ref c) qual,PySem.W.keepIn K (.ref g),PySem.W.isFn K (.ref g))=(some (some (.ref g)),some ⟨.type "function",none,.func (PySem.W.fnOf m qual (cS st) (bV st) (az st) .none .none .none pm none (.ref c) .none),#[]⟩,true,true,true)):zk K C m qual st:=by
 simp only [oZ] at h;exact⟨g,_,_,_,_,_,_,_,_,_,h.1,h.2.1,h.2.2.1,h.2.2.2.1,h.2.2.2.2⟩
end L2
namespace fh
open PySem L2 M11
def KP (K:aV)(C:Addr)(m qual:Str)(st:Stmt):Prop:=∃(g:Addr)(oc:Value)(od an:Option Addr)(sl:Array (Option Value))(kV dc pm cd ct:Value)(T:Addr)(o:Obj) (n:Nat),PySem.W.findIn K (.ref C) m=some (some (.ref g)) /\
 K.lookup g=some ⟨oc,od,.func (PySem.W.fnOf m qual (cS st) (bV st) (az st) (.ref T) kV dc pm an cd ct),sl⟩/\PySem.W.codeIn K cd qual=true/\K.lookup T=some o/\o.data=.seq #[.none] n/\PySem.W.keepIn K (.ref g)=true/\PySem.W.isFn K (.ref g)=true
def KP.get {K:aV}{C:Addr}{m qual:Str}{st:Stmt}(H:KP K C m qual st):∃g gd,EI K m qual st g gd/\PySem.W.findIn K (.ref C) m=some (some (.ref g))/\PySem.W.isFn K (.ref g)=true:=by
 obtain⟨g,oc,od,an,sl,kV,dc,pm,cd,ct,T,o,n,a,l,c,t,d,k,i⟩:=H;exact⟨g,_,⟨⟨oc,od,kV,dc,pm,an,cd,ct,sl,T,o,n,rfl,l,c,t,d⟩,k⟩,a,i⟩
structure Top (K:aV)(C Cg C3 T1 T2 T3:Addr)(tm:Tok):Prop where
 nB:PySem.W.nsIn K mainGlobals "BeginTable"=some (some (.ref C))
 nG:PySem.W.nsIn K mainGlobals "Grammar"=some (some (.ref Cg))
 nL:PySem.W.nsIn K mainGlobals "LeastTrees"=some (some (.ref C3))
 nM:PySem.W.nsIn K mainGlobals "MOST_RULES"=some (some (.int 60 tm))
 Fc:PySem.W.nsIn K mainGlobals "sorted"=some none
 h0:dY K "heads_of" x8
 h1:dY K "numbers_by_name" CB
 h2:dY K "standings_by_part" IL
 h3:dY K "rule_size" mQ
 h4:dY K "empty_by_name" pS
 h5:dY K "words_in" xS
 h6:dY K "found_empties" pT
 h7:dY K "first_places" ue
 h8:dY K "way_back" IK
 h9:dY K "steps_with_like_rows" xU
 h10:dY K "find_loop" CC
 h11:dY K "refuse_twice" xT
 h12:dY K "names_met" IM
 Z_:dY K "is_part" ug
 Z9:dY K "comes_again" ya
 Sf:dY K "read_rules" kc
 Z8:dY K "read_row" pQ
 Z7:dY K "rules_again" P4
 Z6:dY K "_law_again" IQ
 Z5:dY K "with_added_rules" yb
 Z4:dY K "read_grammar" xV
 Z3:dY K "_law_cell_at" CH
 Z2:dY K "_law_stream" ub
 Z1:dY K "_law_pool" CA
 Z0:dY K "_law_part" xY
 ZZ:dY K "_law_rule" xX
 ZY:dY K "_law_due" IS
 RF:dY K "law" IP
 Rl:dY K "settled_sizes" lg
 Rr:dY K "refuse_faults" uc
 hL:BH K "least_sizes" pR T1
 hG:BH K "greatest_empty_sizes" uh T2
 ZO:BH K "least_by_part" lh T3
 X4:zk K C3 "__init__" "LeastTrees.__init__" xZ
 X8:zk K C "__init__" "BeginTable.__init__" x_
 X7:zk K C "find_begins" "BeginTable.find_begins" CG
 X6:zk K C "words_of_part" "BeginTable.words_of_part" xW
 X5:KP K Cg "__init__" "Grammar.__init__" ui
 Xi:PySem.W.plainGet K C Str.empty=true
 Zx:PySem.W.hasDictIn K C=true
 Xf:PySem.W.plainOver K C=true
 W3:PySem.W.findIn K (.ref C) "__setattr__"=some (some (.builtin "object.__setattr__"))
 XZ:PySem.W.makesIn K C=true
 Yv:PySem.W.keepIn K (.ref C)=true
 Xh:PySem.W.plainGet K Cg Str.empty=true
 Zv:PySem.W.hasDictIn K Cg=true
 Xe:PySem.W.plainOver K Cg=true
 WZ:PySem.W.findIn K (.ref Cg) "__setattr__"=some (some (.builtin "object.__setattr__"))
 XY:PySem.W.makesIn K Cg=true
 Yu:PySem.W.keepIn K (.ref Cg)=true
 Xg:PySem.W.plainGet K C3 Str.empty=true
 Zu:PySem.W.hasDictIn K C3=true
 Xd:PySem.W.plainOver K C3=true
 WY:PySem.W.findIn K (.ref C3) "__setattr__"=some (some (.builtin "object.__setattr__"))
 XX:PySem.W.makesIn K C3=true
 Yt:PySem.W.keepIn K (.ref C3)=true
 zf:PySem.W.findIn K (.ref C) "empties"=some none
 Ex:PySem.W.findIn K (.ref C) "empty"=some none
 BD:PySem.W.findIn K (.ref C) "begins"=some none
 BA:PySem.W.findIn K (.ref C) "firsts"=some none
 Es:PySem.W.findIn K (.ref C3) "rules"=some none
 Eu:PySem.W.findIn K (.ref C3) "empty"=some none
 Et:PySem.W.findIn K (.ref C3) "least"=some none
 Bz:PySem.W.findIn K (.ref C3) "hollow"=some none
 rf:PySem.W.findIn K (.ref C3) "beginnings"=some none
 Ew:PySem.W.findIn K (.ref Cg) "rules"=some none
 uY:PySem.W.findIn K (.ref Cg) "strengths"=some none
 qK:PySem.W.findIn K (.ref Cg) "begin_table"=some none
 uZ:PySem.W.findIn K (.ref Cg) "standings"=some none
 qJ:PySem.W.findIn K (.ref Cg) "small_trees"=some none
 Pp:PySem.W.nsIn K mainGlobals "len"=some none
 Im:PySem.W.nsIn K mainGlobals "range"=some none
 vo:PySem.W.nsIn K mainGlobals "isinstance"=some none
 Ik:PySem.W.nsIn K mainGlobals "tuple"=some none
 Ls:PySem.W.nsIn K mainGlobals "list"=some none
 Lu:PySem.W.nsIn K mainGlobals "dict"=some none
 Pw:PySem.W.nsIn K mainGlobals "all"=some none
 Pu:PySem.W.nsIn K mainGlobals "any"=some none
 Pm:PySem.W.nsIn K mainGlobals "str"=some none
 Pr:PySem.W.nsIn K mainGlobals "int"=some none
 Lv:PySem.W.nsIn K mainGlobals "bool"=some none
 xC:PySem.W.nsIn K mainGlobals "enumerate"=some none
 Pk:PySem.W.nsIn K mainGlobals "sum"=some none
 Po:PySem.W.nsIn K mainGlobals "max"=some none
 Pn:PySem.W.nsIn K mainGlobals "min"=some none
 XM:∃t:Tok,PySem.W.nsIn K mainGlobals "MOST_SIGNS"=some (some (.int 14 t))
 Jq:∃a:Addr,PySem.W.nsIn K mainGlobals "MARKS"=some (some (.ref a))/\∀H,aW K H a (AX.map V.str)
 Mw:∃a:Addr,PySem.W.nsIn K mainGlobals "WAYS"=some (some (.ref a))/\∀H,aW K H a (pC.map V.str)
def all_mk {l:PySem.W.OpenLaw}{w:World}{K:aV}{h:Heap}{mg:Str->Option Value}{fa C Cg C3 T1 T2 T3:Addr}{tm:Tok}(X:K.In h)(G:h.Ns mainGlobals mg)(Zi:mg "law"=some (.ref fa))(tp:Top K C Cg C3 T1 T2 T3 tm) :
  ∃fd:FuncData,(∀(s:Shared)(v:Value),BindsTo s fd ⟨[v],[]⟩ [("_law_script",v)])/\∀base:Heap,K.In base->base.Ns mainGlobals mg->qP mg base->bI l.prog w K mg base e_ 10 fa fd ["_law_script"] (zI K T1 T2 T3):=by
 have T:Txt mg:=⟨gB X G tp.Pp,gB X G tp.Im,gB X G tp.vo,gB X G tp.Ik,gB X G tp.Ls,gB X G tp.Lu,gB X G tp.Pw,gB X G tp.Pu,gB X G tp.Pm,gB X G tp.Pr,gB X G tp.Lv,gB X G tp.xC,gB X G tp.Pk,gB X G tp.Po,gB X G tp.Pn⟩;obtain⟨_,uE⟩:=tp.XM;obtain⟨_,z5,zS⟩:=tp.Jq;obtain⟨_,Jo,I9⟩:=tp.Mw;obtain⟨HS,HW,wW,Hw⟩:=tp.Rl.get X G;have Ia:=wW.binds (ps:=["rules","sizes","better"]) λ_ _ _ _ _ _=>by exact Ir λ_ _ _=>rfl
 obtain⟨NF,NS,EJ,Mz⟩:=tp.Rr.get X G;have N0:=EJ.binds (ps:=["rules","strengths"]) λ_ _ _ _ _ _=>by exact EK λ_ _=>rfl
 obtain⟨f_L,d_L,TJ,X1⟩:=tp.hL.get X G;have b_L:=TJ.binds (ps:=["rules"]) λ_ _ _ _ _ _=>by exact tQ λ_=>rfl
 obtain⟨f_G,d_G,TK,X3⟩:=tp.hG.get X G;have b_G:=TK.binds (ps:=["rules"]) λ_ _ _ _ _ _=>by exact tQ λ_=>rfl
 obtain⟨Sj,SK,KQ,QK⟩:=tp.ZO.get X G;have Ta:=KQ.binds (ps:=["rules"]) λ_ _ _ _ _ _=>by exact tQ λ_=>rfl
 obtain⟨Sm,aai,Oo,MC⟩:=tp.X8.get;have Te:=Oo.binds (ps:=["self","rules"]) λ_ _ _ _ _ _=>by exact EK λ_ _=>rfl
 obtain⟨aac,aah,Om,QN⟩:=tp.X7.get;have Td:=Om.binds (ps:=["self","number","rule"]) λ_ _ _ _ _ _=>by exact Ir λ_ _ _=>rfl
 obtain⟨aab,aag,Ol,QM⟩:=tp.X6.get;have Tc:=Ol.binds (ps:=["self","part"]) λ_ _ _ _ _ _=>by exact EK λ_ _=>rfl
 obtain⟨Sk,aae,Oi,MA⟩:=tp.X4.get;have Tb:=Oi.binds (ps:=["self","rules","begin_table"]) λ_ _ _ _ _ _=>by exact Ir λ_ _ _=>rfl
 obtain⟨Sl,aaf,Oj,QL,Q3⟩:=tp.X5.get;have cB:BC K C:=⟨⟨tp.Xi,tp.Zx,tp.Xf,tp.W3⟩,tp.zf,tp.Ex,tp.BD,tp.BA⟩;have cG:GC K Cg:=⟨⟨tp.Xh,tp.Zv,tp.Xe,tp.WZ⟩,tp.Ew,tp.uY,tp.qK,tp.uZ,tp.qJ⟩;have cL:LC K C3:=⟨⟨tp.Xg,tp.Zu,tp.Xd,tp.WY⟩,tp.Es,tp.Eu,tp.Et,tp.Bz,tp.rf⟩;have kL:Mk K C3 Sk:=⟨tp.XX,MA.at_,MA.fn,tp.Yt⟩;have kB:Mk K C Sm:=⟨tp.XZ,MC.at_,MC.fn,tp.Yv⟩;have kG:Mk K Cg Sl:=⟨tp.XY,QL,Q3,tp.Yu⟩;obtain⟨f9,d9,F9,m9⟩:=tp.RF.get X G;have e:=Zi.symm.trans m9;cases e;obtain⟨oc,od,kV,doc,pm,an,dN,ct,vL,eL,lk,uP⟩:=F9.ex;refine⟨d9,λs v=>?_,λbase _ _ NA=>?_⟩
 .rw [eL];exact .of_eq rfl
 have c0:=tp.h0.c (P:=l.prog) (w:=w) (base:=base) X G (λ_ _ _ _ _ _=>by exact tQ λ_=>rfl) λF m B=>Dl F T;have c1:=tp.h1.c (P:=l.prog) (w:=w) (base:=base) X G (λ_ _ _ _ _ _=>by exact tQ λ_=>rfl) λF m B=>FX F T c0;have c2:=tp.h2.c (P:=l.prog) (w:=w) (base:=base) X G (λ_ _ _ _ _ _=>by exact tQ λ_=>rfl) λF m B=>Jh F T;have c3:=tp.h3.c (P:=l.prog) (w:=w) (base:=base) X G (λ_ _ _ _ _ _=>by exact EK λ_ _=>rfl) λF m B=>vN F T;have c4:=tp.h4.c (P:=l.prog) (w:=w) (base:=base) X G (λ_ _ _ _ _ _=>by exact EK λ_ _=>rfl) λF m B=>yr F T;have c5:=tp.h5.c (P:=l.prog) (w:=w) (base:=base) X G (λ_ _ _ _ _ _=>by exact tQ λ_=>rfl) λF m B=>C9 F T;have c6:=tp.h6.c (P:=l.prog) (w:=w) (base:=base) X G (λ_ _ _ _ _ _=>by exact tQ λ_=>rfl) λF m B=>yt F T;have c7:=tp.h7.c (P:=l.prog) (w:=w) (base:=base) X G (λ_ _ _ _ _ _=>by exact EK λ_ _=>rfl) λF m B=>AM F T;have c8:=tp.h8.c (P:=l.prog) (w:=w) (base:=base) X G (λ_ _ _ _ _ _=>by exact Ir λ_ _ _=>rfl) λF m B=>Jg F T;have c9:=tp.h9.c (P:=l.prog) (w:=w) (base:=base) X G (λ_ _ _ _ _ _=>by exact tQ λ_=>rfl) λF m B=>Dd F T c6 c0;have c10:=tp.h10.c (P:=l.prog) (w:=w) (base:=base) X G (λ_ _ _ _ _ _=>by exact tQ λ_=>rfl) λF m B=>FY F T c9 c8;have c11:=tp.h11.c (P:=l.prog) (w:=w) (base:=base) X G (λ_ _ _ _ _ _=>by exact tQ λ_=>rfl) λF m B=>C_ F T;have c12:=tp.h12.c (P:=l.prog) (w:=w) (base:=base) X G (λ_ _ _ _ _ _=>by exact tQ λ_=>rfl) λF m B=>Ji F T;have GQ:=tp.Z_.c (P:=l.prog) (w:=w) (base:=base) X G (λ_ _ _ _ _ _=>by exact tQ λ_=>rfl) λF m B=>AN F T (jS X G uE) (jS X G z5) zS;have Wg:=tp.Z9.c (P:=l.prog) (w:=w) (base:=base) X G (λ_ _ _ _ _ _=>by exact tQ λ_=>rfl) λF m B=>Dq F T (jS X G z5) zS;have SU:=tp.Sf.c (P:=l.prog) (w:=w) (base:=base) X G (λ_ _ _ _ _ _=>by exact Ir λ_ _ _=>rfl) λF m B=>uB F T (GQ.mono nofun);have c16:=tp.Z8.c (P:=l.prog) (w:=w) (base:=base) X G (λ_ _ _ _ _ _=>by exact Ir λ_ _ _=>rfl) λF m B=>yp F T (jS X G Jo) I9 (GQ.mono nofun) (Wg.mono nofun) (SU.mono nofun);have c17:=tp.Z7.c (P:=l.prog) (w:=w) (base:=base) X G (λ_ _ _ _ _ _=>by exact tQ λ_=>rfl) λF m B=>Ml F;have c18:=tp.Z6.c (P:=l.prog) (w:=w) (base:=base) X G (λ_ _ _ _ _ _=>by exact tQ λ_=>rfl) λF m B=>Dk F;have c19:=tp.Z5.c (P:=l.prog) (w:=w) (base:=base) X G (λ_ _ _ _ _ _=>by exact tQ λ_=>rfl) λF m B=>AO F T (Wg.mono nofun) (c17.mono nofun);have c21:=tp.Z3.c (P:=l.prog) (w:=w) (base:=base) X G (λ_ _ _ _ _ _=>by exact EK λ_ _=>rfl) λF m B=>F1 F T;have Wf:=tp.Z2.c (P:=l.prog) (w:=w) (base:=base) X G (λ_ _ _ _ _ _=>by exact EK λ_ _=>rfl) λF m B=>AK F T;have c23:=tp.Z1.c (P:=l.prog) (w:=w) (base:=base) X G (λ_ _ _ _ _ _=>by exact EK λ_ _=>rfl) λF m B=>FV F T (Wf.mono nofun);have c24:=tp.Z0.c (P:=l.prog) (w:=w) (base:=base) X G (λ_ _ _ _ _ _=>by exact Ir λ_ _ _=>rfl) λF m B=>Dh F;have c25:=tp.ZZ.c (P:=l.prog) (w:=w) (base:=base) X G (λ_ _ _ _ _ _=>by exact EK λ_ _=>rfl) λF m B=>Dg F T (Wf.mono nofun) (c24.mono nofun);have c26:=tp.ZY.c (P:=l.prog) (w:=w) (base:=base) X G (λ_ _ _ _ _ _=>by exact tQ λ_=>rfl) λF m B=>Jk F T (c18.mono nofun);have SQ:aE l.prog w K mg base 2 "settled_sizes" ["rules","sizes","better"] (gQ K w_ p6.1 p6.2.1 p6.2.2.1 M11.bl):=⟨HS,HW,yn wW T,Ia,wW.kp,Hw⟩;have SR:aE l.prog w K mg base 2 "settled_sizes" ["rules","sizes","better"] (gQ K Hy yC.1 yC.2.1 yC.2.2.1 M11.bg):=⟨HS,HW,yo wW T,Ia,wW.kp,Hw⟩;have Wc:aE l.prog w K mg base 3 "least_sizes" ["rules"] (oE K T1):=⟨f_L,d_L,Dj TJ T NA c5 SQ,b_L,TJ.kp,X1⟩;have c_G:aE l.prog w K mg base 3 "greatest_empty_sizes" ["rules"] (tT K T2):=⟨f_G,d_G,Dm TK NA SR,b_G,TK.kp,X3⟩;have NV:aE l.prog w K mg base 4 "refuse_faults" ["rules","strengths"] (pL K T1 T2):=⟨NF,NS,AL EJ T (jS X G tp.nM) c11 Wc c0 c12 c10 c_G,N0,EJ.kp,Mz⟩;have SS:aE l.prog w K mg base 4 "least_by_part" ["rules"] (mN K T1 T3):=⟨Sj,SK,yq KQ T NA (gB X G tp.Fc) (c0.mono nofun) Wc (c1.mono nofun) (c3.mono nofun),Ta,KQ.kp,QK⟩;have Qr:=Df (P:=l.prog) (w:=w) (base:=base) Ol T cB;have Qs:=FZ Om T cB c7 Qr QM Tc;have Qt:=Dp Oo T cB c6 c0 Qs QN Td;have Qo:=Di Oi T cB cL SS (c4.mono nofun);have Qq:=Dn Oj T cG (NV.mono nofun) (c2.mono nofun) (Qt.mono nofun) kB Te (jS X G tp.nB) Qo kL Tb (jS X G tp.nL);have c20:=tp.Z4.c (P:=l.prog) (w:=w) (base:=base) X G (λ_ _ _ _ _ _=>by exact tQ λ_=>rfl) λF m B=>De F T (c16.mono nofun) (c19.mono nofun) kG (Qq.mono nofun) (DW Oj) (jS X G tp.nG);exact Jj F9 T (c21.mono nofun) (c23.mono nofun) (c25.mono nofun) (c26.mono nofun) (c20.mono nofun) cG
def walk {l:PySem.W.OpenLaw}{q:Program}{loose:List Str}{XP:(Str->Option Value)->Heap->Prop}{YP:World->Heap->Prop}{d:DefRec}{K:Params->aV}(T1 T2 T3 c1 c2 c3:Addr)(Hu:T1≠T2)(Ht:T1≠T3)(Hs:T2≠T3)(hn:l.most=some 63)(JV:d.params.defaults=[])
  (hY:∀(w:World)(h:Heap),YP w h->(K w.params).In h/\∀T∈[T3,T2,T1],h.get? T=some (PySem.W.tabObj #[]))
  (ZS:∀w:World,(K w.params).lookup T1=none)(ZR:∀w:World,(K w.params).lookup T2=none)(ZQ:∀w:World,(K w.params).lookup T3=none)(ZX:∀w:World,PySem.W.codeHdIn (K w.params) c1 T1=true)(ZW:∀w:World,PySem.W.codeHdIn (K w.params) c2 T2=true)(ZV:∀w:World,PySem.W.codeHdIn (K w.params) c3 T3=true)
  (F:∀(w:World)(mg:Str->Option Value)(fa:Addr)(h:Heap),(K w.params).In h->h.Ns mainGlobals mg->mg d.name=some (.ref fa) ->
   ∃fd:FuncData,(∀(s:Shared)(u:Value),BindsTo s fd ⟨[u],[]⟩ [("_law_script",u)])/\∀base:Heap,(K w.params).In base->base.Ns mainGlobals mg->qP mg base->bI l.prog w (K w.params) mg base e_ 10 fa fd ["_law_script"] (zI (K w.params) T1 T2 T3)) :
  PySem.W.WalkO q loose XP YP l.row.toRowW d [] (λf vs=>PySem.call f vs) :=
 L2.Ca (n:=63) (k:=10) (x := "_law_script") (CX:=λ_=>e_) (sp:=λw=>zI (K w.params) T1 T2 T3) hn nofun JV ⟨rfl,nofun,nofun⟩ hY (λw T hT=>by
  rcases aQ.mp hT with e | hT
  .subst e;exact⟨ZQ w,c3,ZV w⟩
  rcases aQ.mp hT with e | hT
  .subst e;exact⟨ZR w,c2,ZW w⟩
  rw [bx.mp hT];exact⟨ZS w,c1,ZX w⟩) F (λ_ H a ns hl _ hT hS=>⟨a,ns,rfl,hS,hl,⟨⟨#[],hT T1 (by simp),by trivial,.inl rfl⟩,⟨#[],hT T2 (by simp),by trivial,.inl rfl⟩,⟨#[],hT T3 (by simp),by trivial,.inl rfl⟩,Hu,Ht,Hs⟩,λ_=>rfl⟩) λ_ _ _ _ _ z=>z
end fh
set_option maxHeartbeats 0
end
namespace HD
open PySem PySem.W L2
def PD (P:Params):fh.Top (K P) 244 386 357 267 272 301 559:=⟨nofun,nofun,nofun,nofun,nofun,
 hD 165 164 HD.m2 (nofun),
 hD 175 174 HD.m2 (nofun),
 hD 182 181 HD.m2 (nofun),
 hD 309 308 HD.m7 (nofun),
 hD 314 313 HD.m7 (nofun),
 hD 170 169 HD.m2 (nofun),
 hD 187 186 HD.m3 (nofun),
 hD 194 193 HD.m3 (nofun),
 hD 265 264 HD.m4 (nofun),
 hD 258 257 HD.m4 (nofun),
 hD 253 252 HD.m4 (nofun),
 hD 294 293 HD.m6 (nofun),
 hD 299 298 HD.m6 (nofun),
 hD 414 413 HD.m9 (nofun),
 hD 421 420 HD.m9 (nofun),
 hD 407 406 HD.m9 (nofun),
 hD 402 401 HD.m9 (nofun),
 hD 435 434 HD.m9 (nofun),
 hD 473 472 HD.w6 (nofun),
 hD 428 427 HD.m9 (nofun),
 hD 397 396 HD.m9 (nofun),
 hD 442 441 HD.w6 (nofun),
 hD 449 448 HD.w6 (nofun),
 hD 454 453 HD.w6 (nofun),
 hD 461 460 HD.w6 (nofun),
 hD 466 465 HD.w6 (nofun),
 hD 480 479 HD.w6 (nofun),
 hD 485 484 HD.w6 (nofun),
 hD 282 281 HD.m5 (nofun),
 hD 287 286 HD.m6 (nofun),
 hC 270 269 HD.m5 (nofun),
 hC 277 276 HD.m5 (nofun),
 hC 304 303 HD.m7 (nofun),
 hM 326 325 HD.m7 (nofun),
 hM 206 205 HD.m3 (nofun),
 hM 213 212 HD.m3 (nofun),
 hM 220 219 HD.m3 (nofun),
 ⟨376,.type "function",none,none,#[],.none,.none,.str "wright.grammars" 670,.ref 375,.none,369,⟨.type "tuple",none,.seq #[.none] 0,#[]⟩,0,nofun,nofun,nofun,nofun,rfl,nofun,nofun⟩,nofun,nofun,nofun,nofun,nofun,nofun,nofun,nofun,nofun,nofun,nofun,nofun,nofun,nofun,nofun,nofun,nofun,nofun,nofun,nofun,nofun,nofun,nofun,nofun,nofun,nofun,nofun,nofun,nofun,nofun,nofun,nofun,nofun,nofun,nofun,nofun,nofun,nofun,nofun,nofun,nofun,nofun,nofun,nofun,nofun,nofun,nofun,
 ⟨723,nofun⟩,
 ⟨392,nofun,Vs #[.str "*" 719,.str "+" 720,.str "?" 721] (nofun) nofun (.cons ⟨_,rfl⟩ (.cons ⟨_,rfl⟩ (.cons ⟨_,rfl⟩ (.nil))))⟩,
 ⟨391,nofun,Vs #[.str "left" 715,.str "right" 716,.str "none" 717] (nofun) nofun (.cons ⟨_,rfl⟩ (.cons ⟨_,rfl⟩ (.cons ⟨_,rfl⟩ (.nil))))⟩⟩
end HD
theorem PySem.Challenge.cw_wright_k16_parts_that_come_again_holds : PySem.Challenge.rw_wright_k16_parts_that_come_again.Holds := by
 refine HD.hold ?_ ?hw
 case hw=>w_witness2
 refine fh.walk (l:=PySem.Challenge.rw_wright_k16_parts_that_come_again) (K:=HD.K) 267 272 301 269 276 303 nofun nofun nofun rfl HD.Xk (λw h Y=>⟨PySem.W.km_in_of Y,PySem.W.km_tabs_of Y⟩) (λw=>by kernel_rfl) (λw=>by kernel_rfl) (λw=>by kernel_rfl) (λw=>by kernel_rfl) (λw=>by kernel_rfl) (λw=>by kernel_rfl) ?F;intro w mg fa h KX G JO;exact fh.all_mk KX G JO (HD.PD w.params)
